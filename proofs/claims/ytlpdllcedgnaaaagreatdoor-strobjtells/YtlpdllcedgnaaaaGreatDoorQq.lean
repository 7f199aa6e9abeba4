import Derived.Test.YtlpdllcedgnaaaaGreatDoorQp
set_option linter.all false
namespace Go.Proofs.YtlpdllcedgnaaaaGreatDoor
set_option maxRecDepth 100000
set_option maxHeartbeats 0
section
open Go Go.Proofs Go.RowKit FM Tryz
def noV (d:DD):Bool:=Bs d==1 && !(d.e !=0) && !(d.c !=0)
def stV (d:DD):Bool:=noV d||Pe d
def Ex (d:DD):Int:=if Gg d==0 then 5 else 0
theorem Uf (d:DD) (hd:FD d) (w:World) (hT:Lib.Utf8Tabs 0 1 w):Calls prog 73 #[d.agg] w fun e w'=>e= .returned (.int .i64 (Gg d))/\Below w.heap.size w w':=by
 have HA:=Ab (fun w hT=>Zc1 d hd w hT)
 have HB:=Ab (Bp d hd)
 have HT:=Ab hT
 clear hT
 clear hd
 have LL:=Ab (Lie.new1 w (.D d))
 unfold Gg
 generalize Gy d=so at *
 generalize Bs d=sh at *
 have hq0:=Ev d
 rw[hq0]
 clear hq0
 go_enter func73,ntmps73
 go_wp2_with (first|((with_reducible apply Ap);(case ho=>rfl);(case hx=>rfl);(case hw=>rfl);(case hc=>first|exact(Aa LL).one);simp only[nn])|((with_reducible apply Av);(case ho=>rfl);(case hx=>rfl);(case hw=>rfl);(case hc=>first|exact(Aa LL).one);simp only[nn])|((with_reducible apply Ax);(case ho=>rfl);(case hx=>rfl);(case hw=>rfl);(case hc=>first|exact(Aa LL).one);simp only[nn])|((with_reducible apply Aw);(case ho=>rfl);(case hx=>rfl);(case hw=>rfl);(case hc=>first|exact(Aa LL).one);simp only[nn])|((with_reducible apply Au);(case ho=>rfl);(case hx=>rfl);(case hw=>rfl);(case hc=>first|exact(Aa LL).one);simp only[nn])|((with_reducible apply Aq);(case ho=>rfl);(case hx=>rfl);(case hw=>rfl);(case hc=>first|exact(Aa LL).one);simp only[nn])|((with_reducible apply Ak);(case ho=>rfl);(case hx=>rfl);(case hw=>rfl);(case hc=>first|exact(Aa LL).one);simp only[nn])|(go_at_call 119;refine(Ae _ _).mono ?_;rintro _ _ ⟨rfl,rfl⟩)|(go_at_call 118;refine(Ac _ _).mono ?_;rintro _ _ ⟨rfl,rfl⟩))
 refine(Aa HA _ (Ag (Aa HT) (Aa LL).below)).mono ?_
 rintro _ w1 ⟨rfl,hb⟩
 replace LL:=Ab ((Aa LL).on hb)
 clear hb
 cases so
 ·go_wp2_with (first|((with_reducible apply Ap);(case ho=>rfl);(case hx=>rfl);(case hw=>rfl);(case hc=>first|exact(Aa LL).one);simp only[nn])|((with_reducible apply Av);(case ho=>rfl);(case hx=>rfl);(case hw=>rfl);(case hc=>first|exact(Aa LL).one);simp only[nn])|((with_reducible apply Ax);(case ho=>rfl);(case hx=>rfl);(case hw=>rfl);(case hc=>first|exact(Aa LL).one);simp only[nn])|((with_reducible apply Aw);(case ho=>rfl);(case hx=>rfl);(case hw=>rfl);(case hc=>first|exact(Aa LL).one);simp only[nn])|((with_reducible apply Au);(case ho=>rfl);(case hx=>rfl);(case hw=>rfl);(case hc=>first|exact(Aa LL).one);simp only[nn])|((with_reducible apply Aq);(case ho=>rfl);(case hx=>rfl);(case hw=>rfl);(case hc=>first|exact(Aa LL).one);simp only[nn])|((with_reducible apply Ak);(case ho=>rfl);(case hx=>rfl);(case hw=>rfl);(case hc=>first|exact(Aa LL).one);simp only[nn])|(go_at_call 119;refine(Ae _ _).mono ?_;rintro _ _ ⟨rfl,rfl⟩)|(go_at_call 118;refine(Ac _ _).mono ?_;rintro _ _ ⟨rfl,rfl⟩))
  go_ret
  exact⟨rfl,(Aa LL).below⟩
 ·go_wp2_with (first|((with_reducible apply Ap);(case ho=>rfl);(case hx=>rfl);(case hw=>rfl);(case hc=>first|exact(Aa LL).one);simp only[nn])|((with_reducible apply Av);(case ho=>rfl);(case hx=>rfl);(case hw=>rfl);(case hc=>first|exact(Aa LL).one);simp only[nn])|((with_reducible apply Ax);(case ho=>rfl);(case hx=>rfl);(case hw=>rfl);(case hc=>first|exact(Aa LL).one);simp only[nn])|((with_reducible apply Aw);(case ho=>rfl);(case hx=>rfl);(case hw=>rfl);(case hc=>first|exact(Aa LL).one);simp only[nn])|((with_reducible apply Au);(case ho=>rfl);(case hx=>rfl);(case hw=>rfl);(case hc=>first|exact(Aa LL).one);simp only[nn])|((with_reducible apply Aq);(case ho=>rfl);(case hx=>rfl);(case hw=>rfl);(case hc=>first|exact(Aa LL).one);simp only[nn])|((with_reducible apply Ak);(case ho=>rfl);(case hx=>rfl);(case hw=>rfl);(case hc=>first|exact(Aa LL).one);simp only[nn])|(go_at_call 119;refine(Ae _ _).mono ?_;rintro _ _ ⟨rfl,rfl⟩)|(go_at_call 118;refine(Ac _ _).mono ?_;rintro _ _ ⟨rfl,rfl⟩))
  refine(Aa HB _).mono ?_
  rintro _ w2 ⟨rfl,hb⟩
  replace LL:=Ab ((Aa LL).on hb)
  clear hb
  go_wp2_with (first|((with_reducible apply Ap);(case ho=>rfl);(case hx=>rfl);(case hw=>rfl);(case hc=>first|exact(Aa LL).one);simp only[nn])|((with_reducible apply Av);(case ho=>rfl);(case hx=>rfl);(case hw=>rfl);(case hc=>first|exact(Aa LL).one);simp only[nn])|((with_reducible apply Ax);(case ho=>rfl);(case hx=>rfl);(case hw=>rfl);(case hc=>first|exact(Aa LL).one);simp only[nn])|((with_reducible apply Aw);(case ho=>rfl);(case hx=>rfl);(case hw=>rfl);(case hc=>first|exact(Aa LL).one);simp only[nn])|((with_reducible apply Au);(case ho=>rfl);(case hx=>rfl);(case hw=>rfl);(case hc=>first|exact(Aa LL).one);simp only[nn])|((with_reducible apply Aq);(case ho=>rfl);(case hx=>rfl);(case hw=>rfl);(case hc=>first|exact(Aa LL).one);simp only[nn])|((with_reducible apply Ak);(case ho=>rfl);(case hx=>rfl);(case hw=>rfl);(case hc=>first|exact(Aa LL).one);simp only[nn])|(go_at_call 119;refine(Ae _ _).mono ?_;rintro _ _ ⟨rfl,rfl⟩)|(go_at_call 118;refine(Ac _ _).mono ?_;rintro _ _ ⟨rfl,rfl⟩))
  go_ret
  exact⟨rfl,(Aa LL).below⟩
theorem Za2 (d:DD) (hd:FD d) (w:World) (hT:Lib.Utf8Tabs 0 1 w):Calls prog 43 #[d.agg] w fun e w'=>e= .returned (.int .i64 (Ex d))/\Below w.heap.size w w':=by
 have HK:=Ab (fun w hT=>Uf d hd w hT)
 have HT:=Ab hT
 clear hT
 clear hd
 have LL:=Ab (Lie.new1 w (.D d))
 unfold Ex
 generalize Gg d=k at *
 have hq0:=Ev d
 rw[hq0]
 clear hq0
 by_cases hk:k=0
 ·subst hk
  go_enter func43,ntmps43
  go_wp2_with (first|((with_reducible apply Ap);(case ho=>rfl);(case hx=>rfl);(case hw=>rfl);(case hc=>first|exact(Aa LL).one);simp only[nn])|((with_reducible apply Av);(case ho=>rfl);(case hx=>rfl);(case hw=>rfl);(case hc=>first|exact(Aa LL).one);simp only[nn])|((with_reducible apply Ax);(case ho=>rfl);(case hx=>rfl);(case hw=>rfl);(case hc=>first|exact(Aa LL).one);simp only[nn])|((with_reducible apply Aw);(case ho=>rfl);(case hx=>rfl);(case hw=>rfl);(case hc=>first|exact(Aa LL).one);simp only[nn])|((with_reducible apply Au);(case ho=>rfl);(case hx=>rfl);(case hw=>rfl);(case hc=>first|exact(Aa LL).one);simp only[nn])|((with_reducible apply Aq);(case ho=>rfl);(case hx=>rfl);(case hw=>rfl);(case hc=>first|exact(Aa LL).one);simp only[nn])|((with_reducible apply Ak);(case ho=>rfl);(case hx=>rfl);(case hw=>rfl);(case hc=>first|exact(Aa LL).one);simp only[nn])|(go_at_call 119;refine(Ae _ _).mono ?_;rintro _ _ ⟨rfl,rfl⟩)|(go_at_call 118;refine(Ac _ _).mono ?_;rintro _ _ ⟨rfl,rfl⟩))
  refine(Aa HK _ (Ag (Aa HT) (Aa LL).below)).mono ?_
  rintro _ w3 ⟨rfl,hb⟩
  replace LL:=Ab ((Aa LL).on hb)
  clear hb
  go_wp2_with (first|((with_reducible apply Ap);(case ho=>rfl);(case hx=>rfl);(case hw=>rfl);(case hc=>first|exact(Aa LL).one);simp only[nn])|((with_reducible apply Av);(case ho=>rfl);(case hx=>rfl);(case hw=>rfl);(case hc=>first|exact(Aa LL).one);simp only[nn])|((with_reducible apply Ax);(case ho=>rfl);(case hx=>rfl);(case hw=>rfl);(case hc=>first|exact(Aa LL).one);simp only[nn])|((with_reducible apply Aw);(case ho=>rfl);(case hx=>rfl);(case hw=>rfl);(case hc=>first|exact(Aa LL).one);simp only[nn])|((with_reducible apply Au);(case ho=>rfl);(case hx=>rfl);(case hw=>rfl);(case hc=>first|exact(Aa LL).one);simp only[nn])|((with_reducible apply Aq);(case ho=>rfl);(case hx=>rfl);(case hw=>rfl);(case hc=>first|exact(Aa LL).one);simp only[nn])|((with_reducible apply Ak);(case ho=>rfl);(case hx=>rfl);(case hw=>rfl);(case hc=>first|exact(Aa LL).one);simp only[nn])|(go_at_call 119;refine(Ae _ _).mono ?_;rintro _ _ ⟨rfl,rfl⟩)|(go_at_call 118;refine(Ac _ _).mono ?_;rintro _ _ ⟨rfl,rfl⟩))
  go_ret
  exact⟨rfl,(Aa LL).below⟩
 ·have hk2:(k==0)=false:=by simp[hk]
  rw[hk2]
  go_enter func43,ntmps43
  go_wp2_with (first|((with_reducible apply Ap);(case ho=>rfl);(case hx=>rfl);(case hw=>rfl);(case hc=>first|exact(Aa LL).one);simp only[nn])|((with_reducible apply Av);(case ho=>rfl);(case hx=>rfl);(case hw=>rfl);(case hc=>first|exact(Aa LL).one);simp only[nn])|((with_reducible apply Ax);(case ho=>rfl);(case hx=>rfl);(case hw=>rfl);(case hc=>first|exact(Aa LL).one);simp only[nn])|((with_reducible apply Aw);(case ho=>rfl);(case hx=>rfl);(case hw=>rfl);(case hc=>first|exact(Aa LL).one);simp only[nn])|((with_reducible apply Au);(case ho=>rfl);(case hx=>rfl);(case hw=>rfl);(case hc=>first|exact(Aa LL).one);simp only[nn])|((with_reducible apply Aq);(case ho=>rfl);(case hx=>rfl);(case hw=>rfl);(case hc=>first|exact(Aa LL).one);simp only[nn])|((with_reducible apply Ak);(case ho=>rfl);(case hx=>rfl);(case hw=>rfl);(case hc=>first|exact(Aa LL).one);simp only[nn])|(go_at_call 119;refine(Ae _ _).mono ?_;rintro _ _ ⟨rfl,rfl⟩)|(go_at_call 118;refine(Ac _ _).mono ?_;rintro _ _ ⟨rfl,rfl⟩))
  refine(Aa HK _ (Ag (Aa HT) (Aa LL).below)).mono ?_
  rintro _ w4 ⟨rfl,hb⟩
  replace LL:=Ab ((Aa LL).on hb)
  clear hb
  go_wp2_with (first|((with_reducible apply Ap);(case ho=>rfl);(case hx=>rfl);(case hw=>rfl);(case hc=>first|exact(Aa LL).one);simp only[nn])|((with_reducible apply Av);(case ho=>rfl);(case hx=>rfl);(case hw=>rfl);(case hc=>first|exact(Aa LL).one);simp only[nn])|((with_reducible apply Ax);(case ho=>rfl);(case hx=>rfl);(case hw=>rfl);(case hc=>first|exact(Aa LL).one);simp only[nn])|((with_reducible apply Aw);(case ho=>rfl);(case hx=>rfl);(case hw=>rfl);(case hc=>first|exact(Aa LL).one);simp only[nn])|((with_reducible apply Au);(case ho=>rfl);(case hx=>rfl);(case hw=>rfl);(case hc=>first|exact(Aa LL).one);simp only[nn])|((with_reducible apply Aq);(case ho=>rfl);(case hx=>rfl);(case hw=>rfl);(case hc=>first|exact(Aa LL).one);simp only[nn])|((with_reducible apply Ak);(case ho=>rfl);(case hx=>rfl);(case hw=>rfl);(case hc=>first|exact(Aa LL).one);simp only[nn])|(go_at_call 119;refine(Ae _ _).mono ?_;rintro _ _ ⟨rfl,rfl⟩)|(go_at_call 118;refine(Ac _ _).mono ?_;rintro _ _ ⟨rfl,rfl⟩))
  go_ret
  exact⟨rfl,(Aa LL).below⟩
theorem ZcQ (d:DD) (hd:FD d) (w:World) (hT:Lib.Utf8Tabs 0 1 w):Calls prog 127 #[d.agg] w fun e w'=>e= .returned (.bool (Pe d))/\Below w.heap.size w w':=by
 have HK:=Ab (fun w hT=>Uf d hd w hT)
 have HV:=Ab (Ej d.v hd.1)
 have HG:=Ab (Ej d.g hd.2.1)
 have HS:=Ab (Ej d.s hd.2.2)
 have HT:=Ab hT
 clear hT
 clear hd
 have LL:=Ab (Lie.new1 w (.D d))
 unfold Pe
 generalize Gg d=k at *
 generalize thV d.v=tv at *
 generalize thV d.g=tg at *
 generalize thV d.s=ts at *
 generalize hqa:(d.w !=0)=qa at *
 generalize hqe:(d.e !=0)=qe at *
 generalize hqc:(d.c !=0)=qc at *
 have hq0:=Ev d
 rw[hq0]
 clear hq0
 by_cases h3:k=3
 ·subst h3
  cases qe
  ·go_enter func127,ntmps127
   go_wp2_with (first|((with_reducible apply Ap);(case ho=>rfl);(case hx=>rfl);(case hw=>rfl);(case hc=>first|exact(Aa LL).one);simp only[nn])|((with_reducible apply Av);(case ho=>rfl);(case hx=>rfl);(case hw=>rfl);(case hc=>first|exact(Aa LL).one);simp only[nn])|((with_reducible apply Ax);(case ho=>rfl);(case hx=>rfl);(case hw=>rfl);(case hc=>first|exact(Aa LL).one);simp only[nn])|((with_reducible apply Aw);(case ho=>rfl);(case hx=>rfl);(case hw=>rfl);(case hc=>first|exact(Aa LL).one);simp only[nn])|((with_reducible apply Au);(case ho=>rfl);(case hx=>rfl);(case hw=>rfl);(case hc=>first|exact(Aa LL).one);simp only[nn])|((with_reducible apply Aq);(case ho=>rfl);(case hx=>rfl);(case hw=>rfl);(case hc=>first|exact(Aa LL).one);simp only[nn])|((with_reducible apply Ak);(case ho=>rfl);(case hx=>rfl);(case hw=>rfl);(case hc=>first|exact(Aa LL).one);simp only[nn])|(go_at_call 119;refine(Ae _ _).mono ?_;rintro _ _ ⟨rfl,rfl⟩)|(go_at_call 118;refine(Ac _ _).mono ?_;rintro _ _ ⟨rfl,rfl⟩))
   refine(Aa HK _ (Ag (Aa HT) (Aa LL).below)).mono ?_
   rintro _ w8 ⟨rfl,hb⟩
   replace LL:=Ab ((Aa LL).on hb)
   clear hb
   go_wp2_with (first|((with_reducible apply Ap);(case ho=>rfl);(case hx=>rfl);(case hw=>rfl);(case hc=>first|exact(Aa LL).one);simp only[nn])|((with_reducible apply Av);(case ho=>rfl);(case hx=>rfl);(case hw=>rfl);(case hc=>first|exact(Aa LL).one);simp only[nn])|((with_reducible apply Ax);(case ho=>rfl);(case hx=>rfl);(case hw=>rfl);(case hc=>first|exact(Aa LL).one);simp only[nn])|((with_reducible apply Aw);(case ho=>rfl);(case hx=>rfl);(case hw=>rfl);(case hc=>first|exact(Aa LL).one);simp only[nn])|((with_reducible apply Au);(case ho=>rfl);(case hx=>rfl);(case hw=>rfl);(case hc=>first|exact(Aa LL).one);simp only[nn])|((with_reducible apply Aq);(case ho=>rfl);(case hx=>rfl);(case hw=>rfl);(case hc=>first|exact(Aa LL).one);simp only[nn])|((with_reducible apply Ak);(case ho=>rfl);(case hx=>rfl);(case hw=>rfl);(case hc=>first|exact(Aa LL).one);simp only[nn])|(go_at_call 119;refine(Ae _ _).mono ?_;rintro _ _ ⟨rfl,rfl⟩)|(go_at_call 118;refine(Ac _ _).mono ?_;rintro _ _ ⟨rfl,rfl⟩))
   go_ret
   exact⟨rfl,(Aa LL).below⟩
  ·cases qc
   ·go_enter func127,ntmps127
    go_wp2_with (first|((with_reducible apply Ap);(case ho=>rfl);(case hx=>rfl);(case hw=>rfl);(case hc=>first|exact(Aa LL).one);simp only[nn])|((with_reducible apply Av);(case ho=>rfl);(case hx=>rfl);(case hw=>rfl);(case hc=>first|exact(Aa LL).one);simp only[nn])|((with_reducible apply Ax);(case ho=>rfl);(case hx=>rfl);(case hw=>rfl);(case hc=>first|exact(Aa LL).one);simp only[nn])|((with_reducible apply Aw);(case ho=>rfl);(case hx=>rfl);(case hw=>rfl);(case hc=>first|exact(Aa LL).one);simp only[nn])|((with_reducible apply Au);(case ho=>rfl);(case hx=>rfl);(case hw=>rfl);(case hc=>first|exact(Aa LL).one);simp only[nn])|((with_reducible apply Aq);(case ho=>rfl);(case hx=>rfl);(case hw=>rfl);(case hc=>first|exact(Aa LL).one);simp only[nn])|((with_reducible apply Ak);(case ho=>rfl);(case hx=>rfl);(case hw=>rfl);(case hc=>first|exact(Aa LL).one);simp only[nn])|(go_at_call 119;refine(Ae _ _).mono ?_;rintro _ _ ⟨rfl,rfl⟩)|(go_at_call 118;refine(Ac _ _).mono ?_;rintro _ _ ⟨rfl,rfl⟩))
    refine(Aa HK _ (Ag (Aa HT) (Aa LL).below)).mono ?_
    rintro _ w9 ⟨rfl,hb⟩
    replace LL:=Ab ((Aa LL).on hb)
    clear hb
    go_wp2_with (first|((with_reducible apply Ap);(case ho=>rfl);(case hx=>rfl);(case hw=>rfl);(case hc=>first|exact(Aa LL).one);simp only[nn])|((with_reducible apply Av);(case ho=>rfl);(case hx=>rfl);(case hw=>rfl);(case hc=>first|exact(Aa LL).one);simp only[nn])|((with_reducible apply Ax);(case ho=>rfl);(case hx=>rfl);(case hw=>rfl);(case hc=>first|exact(Aa LL).one);simp only[nn])|((with_reducible apply Aw);(case ho=>rfl);(case hx=>rfl);(case hw=>rfl);(case hc=>first|exact(Aa LL).one);simp only[nn])|((with_reducible apply Au);(case ho=>rfl);(case hx=>rfl);(case hw=>rfl);(case hc=>first|exact(Aa LL).one);simp only[nn])|((with_reducible apply Aq);(case ho=>rfl);(case hx=>rfl);(case hw=>rfl);(case hc=>first|exact(Aa LL).one);simp only[nn])|((with_reducible apply Ak);(case ho=>rfl);(case hx=>rfl);(case hw=>rfl);(case hc=>first|exact(Aa LL).one);simp only[nn])|(go_at_call 119;refine(Ae _ _).mono ?_;rintro _ _ ⟨rfl,rfl⟩)|(go_at_call 118;refine(Ac _ _).mono ?_;rintro _ _ ⟨rfl,rfl⟩))
    go_ret
    exact⟨rfl,(Aa LL).below⟩
   ·go_enter func127,ntmps127
    go_wp2_with (first|((with_reducible apply Ap);(case ho=>rfl);(case hx=>rfl);(case hw=>rfl);(case hc=>first|exact(Aa LL).one);simp only[nn])|((with_reducible apply Av);(case ho=>rfl);(case hx=>rfl);(case hw=>rfl);(case hc=>first|exact(Aa LL).one);simp only[nn])|((with_reducible apply Ax);(case ho=>rfl);(case hx=>rfl);(case hw=>rfl);(case hc=>first|exact(Aa LL).one);simp only[nn])|((with_reducible apply Aw);(case ho=>rfl);(case hx=>rfl);(case hw=>rfl);(case hc=>first|exact(Aa LL).one);simp only[nn])|((with_reducible apply Au);(case ho=>rfl);(case hx=>rfl);(case hw=>rfl);(case hc=>first|exact(Aa LL).one);simp only[nn])|((with_reducible apply Aq);(case ho=>rfl);(case hx=>rfl);(case hw=>rfl);(case hc=>first|exact(Aa LL).one);simp only[nn])|((with_reducible apply Ak);(case ho=>rfl);(case hx=>rfl);(case hw=>rfl);(case hc=>first|exact(Aa LL).one);simp only[nn])|(go_at_call 119;refine(Ae _ _).mono ?_;rintro _ _ ⟨rfl,rfl⟩)|(go_at_call 118;refine(Ac _ _).mono ?_;rintro _ _ ⟨rfl,rfl⟩))
    refine(Aa HK _ (Ag (Aa HT) (Aa LL).below)).mono ?_
    rintro _ w10 ⟨rfl,hb⟩
    replace LL:=Ab ((Aa LL).on hb)
    clear hb
    go_wp2_with (first|((with_reducible apply Ap);(case ho=>rfl);(case hx=>rfl);(case hw=>rfl);(case hc=>first|exact(Aa LL).one);simp only[nn])|((with_reducible apply Av);(case ho=>rfl);(case hx=>rfl);(case hw=>rfl);(case hc=>first|exact(Aa LL).one);simp only[nn])|((with_reducible apply Ax);(case ho=>rfl);(case hx=>rfl);(case hw=>rfl);(case hc=>first|exact(Aa LL).one);simp only[nn])|((with_reducible apply Aw);(case ho=>rfl);(case hx=>rfl);(case hw=>rfl);(case hc=>first|exact(Aa LL).one);simp only[nn])|((with_reducible apply Au);(case ho=>rfl);(case hx=>rfl);(case hw=>rfl);(case hc=>first|exact(Aa LL).one);simp only[nn])|((with_reducible apply Aq);(case ho=>rfl);(case hx=>rfl);(case hw=>rfl);(case hc=>first|exact(Aa LL).one);simp only[nn])|((with_reducible apply Ak);(case ho=>rfl);(case hx=>rfl);(case hw=>rfl);(case hc=>first|exact(Aa LL).one);simp only[nn])|(go_at_call 119;refine(Ae _ _).mono ?_;rintro _ _ ⟨rfl,rfl⟩)|(go_at_call 118;refine(Ac _ _).mono ?_;rintro _ _ ⟨rfl,rfl⟩))
    refine(Aa HG _).mono ?_
    rintro _ w11 ⟨rfl,hb⟩
    replace LL:=Ab ((Aa LL).on hb)
    clear hb
    cases tg
    ·go_wp2_with (first|((with_reducible apply Ap);(case ho=>rfl);(case hx=>rfl);(case hw=>rfl);(case hc=>first|exact(Aa LL).one);simp only[nn])|((with_reducible apply Av);(case ho=>rfl);(case hx=>rfl);(case hw=>rfl);(case hc=>first|exact(Aa LL).one);simp only[nn])|((with_reducible apply Ax);(case ho=>rfl);(case hx=>rfl);(case hw=>rfl);(case hc=>first|exact(Aa LL).one);simp only[nn])|((with_reducible apply Aw);(case ho=>rfl);(case hx=>rfl);(case hw=>rfl);(case hc=>first|exact(Aa LL).one);simp only[nn])|((with_reducible apply Au);(case ho=>rfl);(case hx=>rfl);(case hw=>rfl);(case hc=>first|exact(Aa LL).one);simp only[nn])|((with_reducible apply Aq);(case ho=>rfl);(case hx=>rfl);(case hw=>rfl);(case hc=>first|exact(Aa LL).one);simp only[nn])|((with_reducible apply Ak);(case ho=>rfl);(case hx=>rfl);(case hw=>rfl);(case hc=>first|exact(Aa LL).one);simp only[nn])|(go_at_call 119;refine(Ae _ _).mono ?_;rintro _ _ ⟨rfl,rfl⟩)|(go_at_call 118;refine(Ac _ _).mono ?_;rintro _ _ ⟨rfl,rfl⟩))
     go_ret
     exact⟨rfl,(Aa LL).below⟩
    ·go_wp2_with (first|((with_reducible apply Ap);(case ho=>rfl);(case hx=>rfl);(case hw=>rfl);(case hc=>first|exact(Aa LL).one);simp only[nn])|((with_reducible apply Av);(case ho=>rfl);(case hx=>rfl);(case hw=>rfl);(case hc=>first|exact(Aa LL).one);simp only[nn])|((with_reducible apply Ax);(case ho=>rfl);(case hx=>rfl);(case hw=>rfl);(case hc=>first|exact(Aa LL).one);simp only[nn])|((with_reducible apply Aw);(case ho=>rfl);(case hx=>rfl);(case hw=>rfl);(case hc=>first|exact(Aa LL).one);simp only[nn])|((with_reducible apply Au);(case ho=>rfl);(case hx=>rfl);(case hw=>rfl);(case hc=>first|exact(Aa LL).one);simp only[nn])|((with_reducible apply Aq);(case ho=>rfl);(case hx=>rfl);(case hw=>rfl);(case hc=>first|exact(Aa LL).one);simp only[nn])|((with_reducible apply Ak);(case ho=>rfl);(case hx=>rfl);(case hw=>rfl);(case hc=>first|exact(Aa LL).one);simp only[nn])|(go_at_call 119;refine(Ae _ _).mono ?_;rintro _ _ ⟨rfl,rfl⟩)|(go_at_call 118;refine(Ac _ _).mono ?_;rintro _ _ ⟨rfl,rfl⟩))
     refine(Aa HS _).mono ?_
     rintro _ w12 ⟨rfl,hb⟩
     replace LL:=Ab ((Aa LL).on hb)
     clear hb
     go_wp2_with (first|((with_reducible apply Ap);(case ho=>rfl);(case hx=>rfl);(case hw=>rfl);(case hc=>first|exact(Aa LL).one);simp only[nn])|((with_reducible apply Av);(case ho=>rfl);(case hx=>rfl);(case hw=>rfl);(case hc=>first|exact(Aa LL).one);simp only[nn])|((with_reducible apply Ax);(case ho=>rfl);(case hx=>rfl);(case hw=>rfl);(case hc=>first|exact(Aa LL).one);simp only[nn])|((with_reducible apply Aw);(case ho=>rfl);(case hx=>rfl);(case hw=>rfl);(case hc=>first|exact(Aa LL).one);simp only[nn])|((with_reducible apply Au);(case ho=>rfl);(case hx=>rfl);(case hw=>rfl);(case hc=>first|exact(Aa LL).one);simp only[nn])|((with_reducible apply Aq);(case ho=>rfl);(case hx=>rfl);(case hw=>rfl);(case hc=>first|exact(Aa LL).one);simp only[nn])|((with_reducible apply Ak);(case ho=>rfl);(case hx=>rfl);(case hw=>rfl);(case hc=>first|exact(Aa LL).one);simp only[nn])|(go_at_call 119;refine(Ae _ _).mono ?_;rintro _ _ ⟨rfl,rfl⟩)|(go_at_call 118;refine(Ac _ _).mono ?_;rintro _ _ ⟨rfl,rfl⟩))
     go_ret
     exact⟨rfl,(Aa LL).below⟩
 ·have e3:(k==3)=false:=by simp[h3]
  rw[e3]
  by_cases h2:k=2
  ·subst h2
   cases qe
   ·go_enter func127,ntmps127
    go_wp2_with (first|((with_reducible apply Ap);(case ho=>rfl);(case hx=>rfl);(case hw=>rfl);(case hc=>first|exact(Aa LL).one);simp only[nn])|((with_reducible apply Av);(case ho=>rfl);(case hx=>rfl);(case hw=>rfl);(case hc=>first|exact(Aa LL).one);simp only[nn])|((with_reducible apply Ax);(case ho=>rfl);(case hx=>rfl);(case hw=>rfl);(case hc=>first|exact(Aa LL).one);simp only[nn])|((with_reducible apply Aw);(case ho=>rfl);(case hx=>rfl);(case hw=>rfl);(case hc=>first|exact(Aa LL).one);simp only[nn])|((with_reducible apply Au);(case ho=>rfl);(case hx=>rfl);(case hw=>rfl);(case hc=>first|exact(Aa LL).one);simp only[nn])|((with_reducible apply Aq);(case ho=>rfl);(case hx=>rfl);(case hw=>rfl);(case hc=>first|exact(Aa LL).one);simp only[nn])|((with_reducible apply Ak);(case ho=>rfl);(case hx=>rfl);(case hw=>rfl);(case hc=>first|exact(Aa LL).one);simp only[nn])|(go_at_call 119;refine(Ae _ _).mono ?_;rintro _ _ ⟨rfl,rfl⟩)|(go_at_call 118;refine(Ac _ _).mono ?_;rintro _ _ ⟨rfl,rfl⟩))
    refine(Aa HK _ (Ag (Aa HT) (Aa LL).below)).mono ?_
    rintro _ w13 ⟨rfl,hb⟩
    replace LL:=Ab ((Aa LL).on hb)
    clear hb
    go_wp2_with (first|((with_reducible apply Ap);(case ho=>rfl);(case hx=>rfl);(case hw=>rfl);(case hc=>first|exact(Aa LL).one);simp only[nn])|((with_reducible apply Av);(case ho=>rfl);(case hx=>rfl);(case hw=>rfl);(case hc=>first|exact(Aa LL).one);simp only[nn])|((with_reducible apply Ax);(case ho=>rfl);(case hx=>rfl);(case hw=>rfl);(case hc=>first|exact(Aa LL).one);simp only[nn])|((with_reducible apply Aw);(case ho=>rfl);(case hx=>rfl);(case hw=>rfl);(case hc=>first|exact(Aa LL).one);simp only[nn])|((with_reducible apply Au);(case ho=>rfl);(case hx=>rfl);(case hw=>rfl);(case hc=>first|exact(Aa LL).one);simp only[nn])|((with_reducible apply Aq);(case ho=>rfl);(case hx=>rfl);(case hw=>rfl);(case hc=>first|exact(Aa LL).one);simp only[nn])|((with_reducible apply Ak);(case ho=>rfl);(case hx=>rfl);(case hw=>rfl);(case hc=>first|exact(Aa LL).one);simp only[nn])|(go_at_call 119;refine(Ae _ _).mono ?_;rintro _ _ ⟨rfl,rfl⟩)|(go_at_call 118;refine(Ac _ _).mono ?_;rintro _ _ ⟨rfl,rfl⟩))
    go_ret
    exact⟨rfl,(Aa LL).below⟩
   ·cases qc
    ·go_enter func127,ntmps127
     go_wp2_with (first|((with_reducible apply Ap);(case ho=>rfl);(case hx=>rfl);(case hw=>rfl);(case hc=>first|exact(Aa LL).one);simp only[nn])|((with_reducible apply Av);(case ho=>rfl);(case hx=>rfl);(case hw=>rfl);(case hc=>first|exact(Aa LL).one);simp only[nn])|((with_reducible apply Ax);(case ho=>rfl);(case hx=>rfl);(case hw=>rfl);(case hc=>first|exact(Aa LL).one);simp only[nn])|((with_reducible apply Aw);(case ho=>rfl);(case hx=>rfl);(case hw=>rfl);(case hc=>first|exact(Aa LL).one);simp only[nn])|((with_reducible apply Au);(case ho=>rfl);(case hx=>rfl);(case hw=>rfl);(case hc=>first|exact(Aa LL).one);simp only[nn])|((with_reducible apply Aq);(case ho=>rfl);(case hx=>rfl);(case hw=>rfl);(case hc=>first|exact(Aa LL).one);simp only[nn])|((with_reducible apply Ak);(case ho=>rfl);(case hx=>rfl);(case hw=>rfl);(case hc=>first|exact(Aa LL).one);simp only[nn])|(go_at_call 119;refine(Ae _ _).mono ?_;rintro _ _ ⟨rfl,rfl⟩)|(go_at_call 118;refine(Ac _ _).mono ?_;rintro _ _ ⟨rfl,rfl⟩))
     refine(Aa HK _ (Ag (Aa HT) (Aa LL).below)).mono ?_
     rintro _ w14 ⟨rfl,hb⟩
     replace LL:=Ab ((Aa LL).on hb)
     clear hb
     go_wp2_with (first|((with_reducible apply Ap);(case ho=>rfl);(case hx=>rfl);(case hw=>rfl);(case hc=>first|exact(Aa LL).one);simp only[nn])|((with_reducible apply Av);(case ho=>rfl);(case hx=>rfl);(case hw=>rfl);(case hc=>first|exact(Aa LL).one);simp only[nn])|((with_reducible apply Ax);(case ho=>rfl);(case hx=>rfl);(case hw=>rfl);(case hc=>first|exact(Aa LL).one);simp only[nn])|((with_reducible apply Aw);(case ho=>rfl);(case hx=>rfl);(case hw=>rfl);(case hc=>first|exact(Aa LL).one);simp only[nn])|((with_reducible apply Au);(case ho=>rfl);(case hx=>rfl);(case hw=>rfl);(case hc=>first|exact(Aa LL).one);simp only[nn])|((with_reducible apply Aq);(case ho=>rfl);(case hx=>rfl);(case hw=>rfl);(case hc=>first|exact(Aa LL).one);simp only[nn])|((with_reducible apply Ak);(case ho=>rfl);(case hx=>rfl);(case hw=>rfl);(case hc=>first|exact(Aa LL).one);simp only[nn])|(go_at_call 119;refine(Ae _ _).mono ?_;rintro _ _ ⟨rfl,rfl⟩)|(go_at_call 118;refine(Ac _ _).mono ?_;rintro _ _ ⟨rfl,rfl⟩))
     go_ret
     exact⟨rfl,(Aa LL).below⟩
    ·go_enter func127,ntmps127
     go_wp2_with (first|((with_reducible apply Ap);(case ho=>rfl);(case hx=>rfl);(case hw=>rfl);(case hc=>first|exact(Aa LL).one);simp only[nn])|((with_reducible apply Av);(case ho=>rfl);(case hx=>rfl);(case hw=>rfl);(case hc=>first|exact(Aa LL).one);simp only[nn])|((with_reducible apply Ax);(case ho=>rfl);(case hx=>rfl);(case hw=>rfl);(case hc=>first|exact(Aa LL).one);simp only[nn])|((with_reducible apply Aw);(case ho=>rfl);(case hx=>rfl);(case hw=>rfl);(case hc=>first|exact(Aa LL).one);simp only[nn])|((with_reducible apply Au);(case ho=>rfl);(case hx=>rfl);(case hw=>rfl);(case hc=>first|exact(Aa LL).one);simp only[nn])|((with_reducible apply Aq);(case ho=>rfl);(case hx=>rfl);(case hw=>rfl);(case hc=>first|exact(Aa LL).one);simp only[nn])|((with_reducible apply Ak);(case ho=>rfl);(case hx=>rfl);(case hw=>rfl);(case hc=>first|exact(Aa LL).one);simp only[nn])|(go_at_call 119;refine(Ae _ _).mono ?_;rintro _ _ ⟨rfl,rfl⟩)|(go_at_call 118;refine(Ac _ _).mono ?_;rintro _ _ ⟨rfl,rfl⟩))
     refine(Aa HK _ (Ag (Aa HT) (Aa LL).below)).mono ?_
     rintro _ w15 ⟨rfl,hb⟩
     replace LL:=Ab ((Aa LL).on hb)
     clear hb
     go_wp2_with (first|((with_reducible apply Ap);(case ho=>rfl);(case hx=>rfl);(case hw=>rfl);(case hc=>first|exact(Aa LL).one);simp only[nn])|((with_reducible apply Av);(case ho=>rfl);(case hx=>rfl);(case hw=>rfl);(case hc=>first|exact(Aa LL).one);simp only[nn])|((with_reducible apply Ax);(case ho=>rfl);(case hx=>rfl);(case hw=>rfl);(case hc=>first|exact(Aa LL).one);simp only[nn])|((with_reducible apply Aw);(case ho=>rfl);(case hx=>rfl);(case hw=>rfl);(case hc=>first|exact(Aa LL).one);simp only[nn])|((with_reducible apply Au);(case ho=>rfl);(case hx=>rfl);(case hw=>rfl);(case hc=>first|exact(Aa LL).one);simp only[nn])|((with_reducible apply Aq);(case ho=>rfl);(case hx=>rfl);(case hw=>rfl);(case hc=>first|exact(Aa LL).one);simp only[nn])|((with_reducible apply Ak);(case ho=>rfl);(case hx=>rfl);(case hw=>rfl);(case hc=>first|exact(Aa LL).one);simp only[nn])|(go_at_call 119;refine(Ae _ _).mono ?_;rintro _ _ ⟨rfl,rfl⟩)|(go_at_call 118;refine(Ac _ _).mono ?_;rintro _ _ ⟨rfl,rfl⟩))
     refine(Aa HV _).mono ?_
     rintro _ w16 ⟨rfl,hb⟩
     replace LL:=Ab ((Aa LL).on hb)
     clear hb
     cases tv
     ·go_wp2_with (first|((with_reducible apply Ap);(case ho=>rfl);(case hx=>rfl);(case hw=>rfl);(case hc=>first|exact(Aa LL).one);simp only[nn])|((with_reducible apply Av);(case ho=>rfl);(case hx=>rfl);(case hw=>rfl);(case hc=>first|exact(Aa LL).one);simp only[nn])|((with_reducible apply Ax);(case ho=>rfl);(case hx=>rfl);(case hw=>rfl);(case hc=>first|exact(Aa LL).one);simp only[nn])|((with_reducible apply Aw);(case ho=>rfl);(case hx=>rfl);(case hw=>rfl);(case hc=>first|exact(Aa LL).one);simp only[nn])|((with_reducible apply Au);(case ho=>rfl);(case hx=>rfl);(case hw=>rfl);(case hc=>first|exact(Aa LL).one);simp only[nn])|((with_reducible apply Aq);(case ho=>rfl);(case hx=>rfl);(case hw=>rfl);(case hc=>first|exact(Aa LL).one);simp only[nn])|((with_reducible apply Ak);(case ho=>rfl);(case hx=>rfl);(case hw=>rfl);(case hc=>first|exact(Aa LL).one);simp only[nn])|(go_at_call 119;refine(Ae _ _).mono ?_;rintro _ _ ⟨rfl,rfl⟩)|(go_at_call 118;refine(Ac _ _).mono ?_;rintro _ _ ⟨rfl,rfl⟩))
      go_ret
      exact⟨rfl,(Aa LL).below⟩
     ·go_wp2_with (first|((with_reducible apply Ap);(case ho=>rfl);(case hx=>rfl);(case hw=>rfl);(case hc=>first|exact(Aa LL).one);simp only[nn])|((with_reducible apply Av);(case ho=>rfl);(case hx=>rfl);(case hw=>rfl);(case hc=>first|exact(Aa LL).one);simp only[nn])|((with_reducible apply Ax);(case ho=>rfl);(case hx=>rfl);(case hw=>rfl);(case hc=>first|exact(Aa LL).one);simp only[nn])|((with_reducible apply Aw);(case ho=>rfl);(case hx=>rfl);(case hw=>rfl);(case hc=>first|exact(Aa LL).one);simp only[nn])|((with_reducible apply Au);(case ho=>rfl);(case hx=>rfl);(case hw=>rfl);(case hc=>first|exact(Aa LL).one);simp only[nn])|((with_reducible apply Aq);(case ho=>rfl);(case hx=>rfl);(case hw=>rfl);(case hc=>first|exact(Aa LL).one);simp only[nn])|((with_reducible apply Ak);(case ho=>rfl);(case hx=>rfl);(case hw=>rfl);(case hc=>first|exact(Aa LL).one);simp only[nn])|(go_at_call 119;refine(Ae _ _).mono ?_;rintro _ _ ⟨rfl,rfl⟩)|(go_at_call 118;refine(Ac _ _).mono ?_;rintro _ _ ⟨rfl,rfl⟩))
      go_ret
      exact⟨rfl,(Aa LL).below⟩
  ·have e2:(k==2)=false:=by simp[h2]
   rw[e2]
   cases qe
   ·go_enter func127,ntmps127
    go_wp2_with (first|((with_reducible apply Ap);(case ho=>rfl);(case hx=>rfl);(case hw=>rfl);(case hc=>first|exact(Aa LL).one);simp only[nn])|((with_reducible apply Av);(case ho=>rfl);(case hx=>rfl);(case hw=>rfl);(case hc=>first|exact(Aa LL).one);simp only[nn])|((with_reducible apply Ax);(case ho=>rfl);(case hx=>rfl);(case hw=>rfl);(case hc=>first|exact(Aa LL).one);simp only[nn])|((with_reducible apply Aw);(case ho=>rfl);(case hx=>rfl);(case hw=>rfl);(case hc=>first|exact(Aa LL).one);simp only[nn])|((with_reducible apply Au);(case ho=>rfl);(case hx=>rfl);(case hw=>rfl);(case hc=>first|exact(Aa LL).one);simp only[nn])|((with_reducible apply Aq);(case ho=>rfl);(case hx=>rfl);(case hw=>rfl);(case hc=>first|exact(Aa LL).one);simp only[nn])|((with_reducible apply Ak);(case ho=>rfl);(case hx=>rfl);(case hw=>rfl);(case hc=>first|exact(Aa LL).one);simp only[nn])|(go_at_call 119;refine(Ae _ _).mono ?_;rintro _ _ ⟨rfl,rfl⟩)|(go_at_call 118;refine(Ac _ _).mono ?_;rintro _ _ ⟨rfl,rfl⟩))
    refine(Aa HK _ (Ag (Aa HT) (Aa LL).below)).mono ?_
    rintro _ w17 ⟨rfl,hb⟩
    replace LL:=Ab ((Aa LL).on hb)
    clear hb
    go_wp2_with (first|((with_reducible apply Ap);(case ho=>rfl);(case hx=>rfl);(case hw=>rfl);(case hc=>first|exact(Aa LL).one);simp only[nn])|((with_reducible apply Av);(case ho=>rfl);(case hx=>rfl);(case hw=>rfl);(case hc=>first|exact(Aa LL).one);simp only[nn])|((with_reducible apply Ax);(case ho=>rfl);(case hx=>rfl);(case hw=>rfl);(case hc=>first|exact(Aa LL).one);simp only[nn])|((with_reducible apply Aw);(case ho=>rfl);(case hx=>rfl);(case hw=>rfl);(case hc=>first|exact(Aa LL).one);simp only[nn])|((with_reducible apply Au);(case ho=>rfl);(case hx=>rfl);(case hw=>rfl);(case hc=>first|exact(Aa LL).one);simp only[nn])|((with_reducible apply Aq);(case ho=>rfl);(case hx=>rfl);(case hw=>rfl);(case hc=>first|exact(Aa LL).one);simp only[nn])|((with_reducible apply Ak);(case ho=>rfl);(case hx=>rfl);(case hw=>rfl);(case hc=>first|exact(Aa LL).one);simp only[nn])|(go_at_call 119;refine(Ae _ _).mono ?_;rintro _ _ ⟨rfl,rfl⟩)|(go_at_call 118;refine(Ac _ _).mono ?_;rintro _ _ ⟨rfl,rfl⟩))
    go_ret
    exact⟨rfl,(Aa LL).below⟩
   ·cases qc
    ·go_enter func127,ntmps127
     go_wp2_with (first|((with_reducible apply Ap);(case ho=>rfl);(case hx=>rfl);(case hw=>rfl);(case hc=>first|exact(Aa LL).one);simp only[nn])|((with_reducible apply Av);(case ho=>rfl);(case hx=>rfl);(case hw=>rfl);(case hc=>first|exact(Aa LL).one);simp only[nn])|((with_reducible apply Ax);(case ho=>rfl);(case hx=>rfl);(case hw=>rfl);(case hc=>first|exact(Aa LL).one);simp only[nn])|((with_reducible apply Aw);(case ho=>rfl);(case hx=>rfl);(case hw=>rfl);(case hc=>first|exact(Aa LL).one);simp only[nn])|((with_reducible apply Au);(case ho=>rfl);(case hx=>rfl);(case hw=>rfl);(case hc=>first|exact(Aa LL).one);simp only[nn])|((with_reducible apply Aq);(case ho=>rfl);(case hx=>rfl);(case hw=>rfl);(case hc=>first|exact(Aa LL).one);simp only[nn])|((with_reducible apply Ak);(case ho=>rfl);(case hx=>rfl);(case hw=>rfl);(case hc=>first|exact(Aa LL).one);simp only[nn])|(go_at_call 119;refine(Ae _ _).mono ?_;rintro _ _ ⟨rfl,rfl⟩)|(go_at_call 118;refine(Ac _ _).mono ?_;rintro _ _ ⟨rfl,rfl⟩))
     refine(Aa HK _ (Ag (Aa HT) (Aa LL).below)).mono ?_
     rintro _ w18 ⟨rfl,hb⟩
     replace LL:=Ab ((Aa LL).on hb)
     clear hb
     go_wp2_with (first|((with_reducible apply Ap);(case ho=>rfl);(case hx=>rfl);(case hw=>rfl);(case hc=>first|exact(Aa LL).one);simp only[nn])|((with_reducible apply Av);(case ho=>rfl);(case hx=>rfl);(case hw=>rfl);(case hc=>first|exact(Aa LL).one);simp only[nn])|((with_reducible apply Ax);(case ho=>rfl);(case hx=>rfl);(case hw=>rfl);(case hc=>first|exact(Aa LL).one);simp only[nn])|((with_reducible apply Aw);(case ho=>rfl);(case hx=>rfl);(case hw=>rfl);(case hc=>first|exact(Aa LL).one);simp only[nn])|((with_reducible apply Au);(case ho=>rfl);(case hx=>rfl);(case hw=>rfl);(case hc=>first|exact(Aa LL).one);simp only[nn])|((with_reducible apply Aq);(case ho=>rfl);(case hx=>rfl);(case hw=>rfl);(case hc=>first|exact(Aa LL).one);simp only[nn])|((with_reducible apply Ak);(case ho=>rfl);(case hx=>rfl);(case hw=>rfl);(case hc=>first|exact(Aa LL).one);simp only[nn])|(go_at_call 119;refine(Ae _ _).mono ?_;rintro _ _ ⟨rfl,rfl⟩)|(go_at_call 118;refine(Ac _ _).mono ?_;rintro _ _ ⟨rfl,rfl⟩))
     go_ret
     exact⟨rfl,(Aa LL).below⟩
    ·go_enter func127,ntmps127
     go_wp2_with (first|((with_reducible apply Ap);(case ho=>rfl);(case hx=>rfl);(case hw=>rfl);(case hc=>first|exact(Aa LL).one);simp only[nn])|((with_reducible apply Av);(case ho=>rfl);(case hx=>rfl);(case hw=>rfl);(case hc=>first|exact(Aa LL).one);simp only[nn])|((with_reducible apply Ax);(case ho=>rfl);(case hx=>rfl);(case hw=>rfl);(case hc=>first|exact(Aa LL).one);simp only[nn])|((with_reducible apply Aw);(case ho=>rfl);(case hx=>rfl);(case hw=>rfl);(case hc=>first|exact(Aa LL).one);simp only[nn])|((with_reducible apply Au);(case ho=>rfl);(case hx=>rfl);(case hw=>rfl);(case hc=>first|exact(Aa LL).one);simp only[nn])|((with_reducible apply Aq);(case ho=>rfl);(case hx=>rfl);(case hw=>rfl);(case hc=>first|exact(Aa LL).one);simp only[nn])|((with_reducible apply Ak);(case ho=>rfl);(case hx=>rfl);(case hw=>rfl);(case hc=>first|exact(Aa LL).one);simp only[nn])|(go_at_call 119;refine(Ae _ _).mono ?_;rintro _ _ ⟨rfl,rfl⟩)|(go_at_call 118;refine(Ac _ _).mono ?_;rintro _ _ ⟨rfl,rfl⟩))
     refine(Aa HK _ (Ag (Aa HT) (Aa LL).below)).mono ?_
     rintro _ w19 ⟨rfl,hb⟩
     replace LL:=Ab ((Aa LL).on hb)
     clear hb
     go_wp2_with (first|((with_reducible apply Ap);(case ho=>rfl);(case hx=>rfl);(case hw=>rfl);(case hc=>first|exact(Aa LL).one);simp only[nn])|((with_reducible apply Av);(case ho=>rfl);(case hx=>rfl);(case hw=>rfl);(case hc=>first|exact(Aa LL).one);simp only[nn])|((with_reducible apply Ax);(case ho=>rfl);(case hx=>rfl);(case hw=>rfl);(case hc=>first|exact(Aa LL).one);simp only[nn])|((with_reducible apply Aw);(case ho=>rfl);(case hx=>rfl);(case hw=>rfl);(case hc=>first|exact(Aa LL).one);simp only[nn])|((with_reducible apply Au);(case ho=>rfl);(case hx=>rfl);(case hw=>rfl);(case hc=>first|exact(Aa LL).one);simp only[nn])|((with_reducible apply Aq);(case ho=>rfl);(case hx=>rfl);(case hw=>rfl);(case hc=>first|exact(Aa LL).one);simp only[nn])|((with_reducible apply Ak);(case ho=>rfl);(case hx=>rfl);(case hw=>rfl);(case hc=>first|exact(Aa LL).one);simp only[nn])|(go_at_call 119;refine(Ae _ _).mono ?_;rintro _ _ ⟨rfl,rfl⟩)|(go_at_call 118;refine(Ac _ _).mono ?_;rintro _ _ ⟨rfl,rfl⟩))
     go_ret
     exact⟨rfl,(Aa LL).below⟩
theorem Qg (d:DD) (hd:FD d) (w:World):Calls prog 109 #[d.agg] w fun e w'=>e= .returned (.bool (noV d))/\Below w.heap.size w w':=by
 have HB:=Ab (Bp d hd)
 clear hd
 have LL:=Ab (Lie.new1 w (.D d))
 unfold noV
 generalize Bs d=k at *
 generalize hqe:(d.e !=0)=qe at *
 generalize hqc:(d.c !=0)=qc at *
 have hq0:=Ev d
 rw[hq0]
 clear hq0
 by_cases hk:k=1
 ·subst hk
  cases qe
  ·go_enter func109,ntmps109
   go_wp2_with (first|((with_reducible apply Ap);(case ho=>rfl);(case hx=>rfl);(case hw=>rfl);(case hc=>first|exact(Aa LL).one);simp only[nn])|((with_reducible apply Av);(case ho=>rfl);(case hx=>rfl);(case hw=>rfl);(case hc=>first|exact(Aa LL).one);simp only[nn])|((with_reducible apply Ax);(case ho=>rfl);(case hx=>rfl);(case hw=>rfl);(case hc=>first|exact(Aa LL).one);simp only[nn])|((with_reducible apply Aw);(case ho=>rfl);(case hx=>rfl);(case hw=>rfl);(case hc=>first|exact(Aa LL).one);simp only[nn])|((with_reducible apply Au);(case ho=>rfl);(case hx=>rfl);(case hw=>rfl);(case hc=>first|exact(Aa LL).one);simp only[nn])|((with_reducible apply Aq);(case ho=>rfl);(case hx=>rfl);(case hw=>rfl);(case hc=>first|exact(Aa LL).one);simp only[nn])|((with_reducible apply Ak);(case ho=>rfl);(case hx=>rfl);(case hw=>rfl);(case hc=>first|exact(Aa LL).one);simp only[nn])|(go_at_call 119;refine(Ae _ _).mono ?_;rintro _ _ ⟨rfl,rfl⟩)|(go_at_call 118;refine(Ac _ _).mono ?_;rintro _ _ ⟨rfl,rfl⟩))
   refine(Aa HB _).mono ?_
   rintro _ w20 ⟨rfl,hb⟩
   replace LL:=Ab ((Aa LL).on hb)
   clear hb
   go_wp2_with (first|((with_reducible apply Ap);(case ho=>rfl);(case hx=>rfl);(case hw=>rfl);(case hc=>first|exact(Aa LL).one);simp only[nn])|((with_reducible apply Av);(case ho=>rfl);(case hx=>rfl);(case hw=>rfl);(case hc=>first|exact(Aa LL).one);simp only[nn])|((with_reducible apply Ax);(case ho=>rfl);(case hx=>rfl);(case hw=>rfl);(case hc=>first|exact(Aa LL).one);simp only[nn])|((with_reducible apply Aw);(case ho=>rfl);(case hx=>rfl);(case hw=>rfl);(case hc=>first|exact(Aa LL).one);simp only[nn])|((with_reducible apply Au);(case ho=>rfl);(case hx=>rfl);(case hw=>rfl);(case hc=>first|exact(Aa LL).one);simp only[nn])|((with_reducible apply Aq);(case ho=>rfl);(case hx=>rfl);(case hw=>rfl);(case hc=>first|exact(Aa LL).one);simp only[nn])|((with_reducible apply Ak);(case ho=>rfl);(case hx=>rfl);(case hw=>rfl);(case hc=>first|exact(Aa LL).one);simp only[nn])|(go_at_call 119;refine(Ae _ _).mono ?_;rintro _ _ ⟨rfl,rfl⟩)|(go_at_call 118;refine(Ac _ _).mono ?_;rintro _ _ ⟨rfl,rfl⟩))
   go_ret
   exact⟨rfl,(Aa LL).below⟩
  ·go_enter func109,ntmps109
   go_wp2_with (first|((with_reducible apply Ap);(case ho=>rfl);(case hx=>rfl);(case hw=>rfl);(case hc=>first|exact(Aa LL).one);simp only[nn])|((with_reducible apply Av);(case ho=>rfl);(case hx=>rfl);(case hw=>rfl);(case hc=>first|exact(Aa LL).one);simp only[nn])|((with_reducible apply Ax);(case ho=>rfl);(case hx=>rfl);(case hw=>rfl);(case hc=>first|exact(Aa LL).one);simp only[nn])|((with_reducible apply Aw);(case ho=>rfl);(case hx=>rfl);(case hw=>rfl);(case hc=>first|exact(Aa LL).one);simp only[nn])|((with_reducible apply Au);(case ho=>rfl);(case hx=>rfl);(case hw=>rfl);(case hc=>first|exact(Aa LL).one);simp only[nn])|((with_reducible apply Aq);(case ho=>rfl);(case hx=>rfl);(case hw=>rfl);(case hc=>first|exact(Aa LL).one);simp only[nn])|((with_reducible apply Ak);(case ho=>rfl);(case hx=>rfl);(case hw=>rfl);(case hc=>first|exact(Aa LL).one);simp only[nn])|(go_at_call 119;refine(Ae _ _).mono ?_;rintro _ _ ⟨rfl,rfl⟩)|(go_at_call 118;refine(Ac _ _).mono ?_;rintro _ _ ⟨rfl,rfl⟩))
   refine(Aa HB _).mono ?_
   rintro _ w20 ⟨rfl,hb⟩
   replace LL:=Ab ((Aa LL).on hb)
   clear hb
   go_wp2_with (first|((with_reducible apply Ap);(case ho=>rfl);(case hx=>rfl);(case hw=>rfl);(case hc=>first|exact(Aa LL).one);simp only[nn])|((with_reducible apply Av);(case ho=>rfl);(case hx=>rfl);(case hw=>rfl);(case hc=>first|exact(Aa LL).one);simp only[nn])|((with_reducible apply Ax);(case ho=>rfl);(case hx=>rfl);(case hw=>rfl);(case hc=>first|exact(Aa LL).one);simp only[nn])|((with_reducible apply Aw);(case ho=>rfl);(case hx=>rfl);(case hw=>rfl);(case hc=>first|exact(Aa LL).one);simp only[nn])|((with_reducible apply Au);(case ho=>rfl);(case hx=>rfl);(case hw=>rfl);(case hc=>first|exact(Aa LL).one);simp only[nn])|((with_reducible apply Aq);(case ho=>rfl);(case hx=>rfl);(case hw=>rfl);(case hc=>first|exact(Aa LL).one);simp only[nn])|((with_reducible apply Ak);(case ho=>rfl);(case hx=>rfl);(case hw=>rfl);(case hc=>first|exact(Aa LL).one);simp only[nn])|(go_at_call 119;refine(Ae _ _).mono ?_;rintro _ _ ⟨rfl,rfl⟩)|(go_at_call 118;refine(Ac _ _).mono ?_;rintro _ _ ⟨rfl,rfl⟩))
   go_ret
   exact⟨rfl,(Aa LL).below⟩
 ·have hk2:(k==1)=false:=by simp[hk]
  rw[hk2]
  go_enter func109,ntmps109
  go_wp2_with (first|((with_reducible apply Ap);(case ho=>rfl);(case hx=>rfl);(case hw=>rfl);(case hc=>first|exact(Aa LL).one);simp only[nn])|((with_reducible apply Av);(case ho=>rfl);(case hx=>rfl);(case hw=>rfl);(case hc=>first|exact(Aa LL).one);simp only[nn])|((with_reducible apply Ax);(case ho=>rfl);(case hx=>rfl);(case hw=>rfl);(case hc=>first|exact(Aa LL).one);simp only[nn])|((with_reducible apply Aw);(case ho=>rfl);(case hx=>rfl);(case hw=>rfl);(case hc=>first|exact(Aa LL).one);simp only[nn])|((with_reducible apply Au);(case ho=>rfl);(case hx=>rfl);(case hw=>rfl);(case hc=>first|exact(Aa LL).one);simp only[nn])|((with_reducible apply Aq);(case ho=>rfl);(case hx=>rfl);(case hw=>rfl);(case hc=>first|exact(Aa LL).one);simp only[nn])|((with_reducible apply Ak);(case ho=>rfl);(case hx=>rfl);(case hw=>rfl);(case hc=>first|exact(Aa LL).one);simp only[nn])|(go_at_call 119;refine(Ae _ _).mono ?_;rintro _ _ ⟨rfl,rfl⟩)|(go_at_call 118;refine(Ac _ _).mono ?_;rintro _ _ ⟨rfl,rfl⟩))
  refine(Aa HB _).mono ?_
  rintro _ w20 ⟨rfl,hb⟩
  replace LL:=Ab ((Aa LL).on hb)
  clear hb
  go_wp2_with (first|((with_reducible apply Ap);(case ho=>rfl);(case hx=>rfl);(case hw=>rfl);(case hc=>first|exact(Aa LL).one);simp only[nn])|((with_reducible apply Av);(case ho=>rfl);(case hx=>rfl);(case hw=>rfl);(case hc=>first|exact(Aa LL).one);simp only[nn])|((with_reducible apply Ax);(case ho=>rfl);(case hx=>rfl);(case hw=>rfl);(case hc=>first|exact(Aa LL).one);simp only[nn])|((with_reducible apply Aw);(case ho=>rfl);(case hx=>rfl);(case hw=>rfl);(case hc=>first|exact(Aa LL).one);simp only[nn])|((with_reducible apply Au);(case ho=>rfl);(case hx=>rfl);(case hw=>rfl);(case hc=>first|exact(Aa LL).one);simp only[nn])|((with_reducible apply Aq);(case ho=>rfl);(case hx=>rfl);(case hw=>rfl);(case hc=>first|exact(Aa LL).one);simp only[nn])|((with_reducible apply Ak);(case ho=>rfl);(case hx=>rfl);(case hw=>rfl);(case hc=>first|exact(Aa LL).one);simp only[nn])|(go_at_call 119;refine(Ae _ _).mono ?_;rintro _ _ ⟨rfl,rfl⟩)|(go_at_call 118;refine(Ac _ _).mono ?_;rintro _ _ ⟨rfl,rfl⟩))
  go_ret
  exact⟨rfl,(Aa LL).below⟩
theorem Zbn (d:DD) (hd:FD d) (w:World) (hT:Lib.Utf8Tabs 0 1 w):Calls prog 108 #[d.agg] w fun e w'=>e= .returned (.bool (stV d))/\Below w.heap.size w w':=by
 have HA:=Ab (Qg d hd)
 have HB:=Ab (fun w hT=>ZcQ d hd w hT)
 have HT:=Ab hT
 clear hT
 clear hd
 have LL:=Ab (Lie.new1 w (.D d))
 unfold stV
 generalize noV d=n at *
 generalize Pe d=wh at *
 have hq0:=Ev d
 rw[hq0]
 clear hq0
 go_enter func108,ntmps108
 go_wp2_with (first|((with_reducible apply Ap);(case ho=>rfl);(case hx=>rfl);(case hw=>rfl);(case hc=>first|exact(Aa LL).one);simp only[nn])|((with_reducible apply Av);(case ho=>rfl);(case hx=>rfl);(case hw=>rfl);(case hc=>first|exact(Aa LL).one);simp only[nn])|((with_reducible apply Ax);(case ho=>rfl);(case hx=>rfl);(case hw=>rfl);(case hc=>first|exact(Aa LL).one);simp only[nn])|((with_reducible apply Aw);(case ho=>rfl);(case hx=>rfl);(case hw=>rfl);(case hc=>first|exact(Aa LL).one);simp only[nn])|((with_reducible apply Au);(case ho=>rfl);(case hx=>rfl);(case hw=>rfl);(case hc=>first|exact(Aa LL).one);simp only[nn])|((with_reducible apply Aq);(case ho=>rfl);(case hx=>rfl);(case hw=>rfl);(case hc=>first|exact(Aa LL).one);simp only[nn])|((with_reducible apply Ak);(case ho=>rfl);(case hx=>rfl);(case hw=>rfl);(case hc=>first|exact(Aa LL).one);simp only[nn])|(go_at_call 119;refine(Ae _ _).mono ?_;rintro _ _ ⟨rfl,rfl⟩)|(go_at_call 118;refine(Ac _ _).mono ?_;rintro _ _ ⟨rfl,rfl⟩))
 refine(Aa HA _).mono ?_
 rintro _ w21 ⟨rfl,hb⟩
 replace LL:=Ab ((Aa LL).on hb)
 clear hb
 cases n
 ·go_wp2_with (first|((with_reducible apply Ap);(case ho=>rfl);(case hx=>rfl);(case hw=>rfl);(case hc=>first|exact(Aa LL).one);simp only[nn])|((with_reducible apply Av);(case ho=>rfl);(case hx=>rfl);(case hw=>rfl);(case hc=>first|exact(Aa LL).one);simp only[nn])|((with_reducible apply Ax);(case ho=>rfl);(case hx=>rfl);(case hw=>rfl);(case hc=>first|exact(Aa LL).one);simp only[nn])|((with_reducible apply Aw);(case ho=>rfl);(case hx=>rfl);(case hw=>rfl);(case hc=>first|exact(Aa LL).one);simp only[nn])|((with_reducible apply Au);(case ho=>rfl);(case hx=>rfl);(case hw=>rfl);(case hc=>first|exact(Aa LL).one);simp only[nn])|((with_reducible apply Aq);(case ho=>rfl);(case hx=>rfl);(case hw=>rfl);(case hc=>first|exact(Aa LL).one);simp only[nn])|((with_reducible apply Ak);(case ho=>rfl);(case hx=>rfl);(case hw=>rfl);(case hc=>first|exact(Aa LL).one);simp only[nn])|(go_at_call 119;refine(Ae _ _).mono ?_;rintro _ _ ⟨rfl,rfl⟩)|(go_at_call 118;refine(Ac _ _).mono ?_;rintro _ _ ⟨rfl,rfl⟩))
  refine(Aa HB _ (Ag (Aa HT) (Aa LL).below)).mono ?_
  rintro _ w22 ⟨rfl,hb⟩
  replace LL:=Ab ((Aa LL).on hb)
  clear hb
  go_wp2_with (first|((with_reducible apply Ap);(case ho=>rfl);(case hx=>rfl);(case hw=>rfl);(case hc=>first|exact(Aa LL).one);simp only[nn])|((with_reducible apply Av);(case ho=>rfl);(case hx=>rfl);(case hw=>rfl);(case hc=>first|exact(Aa LL).one);simp only[nn])|((with_reducible apply Ax);(case ho=>rfl);(case hx=>rfl);(case hw=>rfl);(case hc=>first|exact(Aa LL).one);simp only[nn])|((with_reducible apply Aw);(case ho=>rfl);(case hx=>rfl);(case hw=>rfl);(case hc=>first|exact(Aa LL).one);simp only[nn])|((with_reducible apply Au);(case ho=>rfl);(case hx=>rfl);(case hw=>rfl);(case hc=>first|exact(Aa LL).one);simp only[nn])|((with_reducible apply Aq);(case ho=>rfl);(case hx=>rfl);(case hw=>rfl);(case hc=>first|exact(Aa LL).one);simp only[nn])|((with_reducible apply Ak);(case ho=>rfl);(case hx=>rfl);(case hw=>rfl);(case hc=>first|exact(Aa LL).one);simp only[nn])|(go_at_call 119;refine(Ae _ _).mono ?_;rintro _ _ ⟨rfl,rfl⟩)|(go_at_call 118;refine(Ac _ _).mono ?_;rintro _ _ ⟨rfl,rfl⟩))
  go_ret
  exact⟨rfl,(Aa LL).below⟩
 ·go_wp2_with (first|((with_reducible apply Ap);(case ho=>rfl);(case hx=>rfl);(case hw=>rfl);(case hc=>first|exact(Aa LL).one);simp only[nn])|((with_reducible apply Av);(case ho=>rfl);(case hx=>rfl);(case hw=>rfl);(case hc=>first|exact(Aa LL).one);simp only[nn])|((with_reducible apply Ax);(case ho=>rfl);(case hx=>rfl);(case hw=>rfl);(case hc=>first|exact(Aa LL).one);simp only[nn])|((with_reducible apply Aw);(case ho=>rfl);(case hx=>rfl);(case hw=>rfl);(case hc=>first|exact(Aa LL).one);simp only[nn])|((with_reducible apply Au);(case ho=>rfl);(case hx=>rfl);(case hw=>rfl);(case hc=>first|exact(Aa LL).one);simp only[nn])|((with_reducible apply Aq);(case ho=>rfl);(case hx=>rfl);(case hw=>rfl);(case hc=>first|exact(Aa LL).one);simp only[nn])|((with_reducible apply Ak);(case ho=>rfl);(case hx=>rfl);(case hw=>rfl);(case hc=>first|exact(Aa LL).one);simp only[nn])|(go_at_call 119;refine(Ae _ _).mono ?_;rintro _ _ ⟨rfl,rfl⟩)|(go_at_call 118;refine(Ac _ _).mono ?_;rintro _ _ ⟨rfl,rfl⟩))
  go_ret
  exact⟨rfl,(Aa LL).below⟩
