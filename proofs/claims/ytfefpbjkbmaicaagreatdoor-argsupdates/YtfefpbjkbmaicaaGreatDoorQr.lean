import Derived.Test.YtfefpbjkbmaicaaGreatDoorQq
set_option linter.all false
namespace Go.Proofs.YtfefpbjkbmaicaaGreatDoor
set_option maxRecDepth 100000
set_option maxHeartbeats 0
section
open Go Go.Proofs Go.RowKit FM
theorem Xq (d:DD) (hd:FD d) (w:World):Calls Tryz.prog 11 #[d.agg] w fun e w'=>e= .returned (.bool (Rq d))/\Below w.heap.size w w':=by
 have HG:=Ac (Zf d hd)
 have HKV:=Ac (Et d.v)
 have HKG:=Ac (Et d.g)
 have HKS:=Ac (Et d.s)
 clear hd
 have LL:=Ac (Lie.new1 w (.D d))
 unfold Rq
 generalize Lz d=gd at *
 generalize hkv:(d.v.k !=0)=kv at *
 generalize hkg:(d.g.k !=0)=kg at *
 generalize hks:(d.s.k !=0)=ks at *
 generalize hqa:(d.w !=0)=qa at *
 clear hkv hkg hks
 have hq0:=Gi d
 rw[hq0]
 clear hq0
 go_enter Tryz.func11,Tryz.ntmps11
 go_wp2_with (first|go_skip|((with_reducible apply Bh);(case ho=>rfl);(case hw=>rfl);(case hx=>rfl);(case hc=>first|exact(Aa LL).one);simp only[nn])|((with_reducible apply Bo);(case ho=>rfl);(case hw=>rfl);(case hx=>rfl);(case hc=>first|exact(Aa LL).one);simp only[nn])|((with_reducible apply Bt);(case ho=>rfl);(case hw=>rfl);(case hx=>rfl);(case hc=>first|exact(Aa LL).one);simp only[nn])|((with_reducible apply Bq);(case ho=>rfl);(case hw=>rfl);(case hx=>rfl);(case hc=>first|exact(Aa LL).one);simp only[nn])|((with_reducible apply Bl);(case ho=>rfl);(case hw=>rfl);(case hx=>rfl);(case hc=>first|exact(Aa LL).one);simp only[nn])|((with_reducible apply Bj);(case ho=>rfl);(case hw=>rfl);(case hx=>rfl);(case hc=>first|exact(Aa LL).one);simp only[nn])|((with_reducible apply At);(case ho=>rfl);(case hw=>rfl);(case hx=>rfl);(case hc=>first|exact(Aa LL).one);simp only[nn])|(go_at_call 100;refine(Ae _ _).mono ?_;rintro _ _ ⟨rfl,rfl⟩)|(go_at_call 99;refine(Ab _ _).mono ?_;rintro _ _ ⟨rfl,rfl⟩)|(go_at_call 72;refine(Ad _ _).mono ?_;rintro _ _ ⟨rfl,rfl⟩))
 refine(Aa HG _).mono ?_
 rintro _ w1 ⟨rfl,hb⟩
 replace LL:=Ac ((Aa LL).on hb)
 clear hb
 cases gd
 ·go_wp2_with (first|go_skip|((with_reducible apply Bh);(case ho=>rfl);(case hw=>rfl);(case hx=>rfl);(case hc=>first|exact(Aa LL).one);simp only[nn])|((with_reducible apply Bo);(case ho=>rfl);(case hw=>rfl);(case hx=>rfl);(case hc=>first|exact(Aa LL).one);simp only[nn])|((with_reducible apply Bt);(case ho=>rfl);(case hw=>rfl);(case hx=>rfl);(case hc=>first|exact(Aa LL).one);simp only[nn])|((with_reducible apply Bq);(case ho=>rfl);(case hw=>rfl);(case hx=>rfl);(case hc=>first|exact(Aa LL).one);simp only[nn])|((with_reducible apply Bl);(case ho=>rfl);(case hw=>rfl);(case hx=>rfl);(case hc=>first|exact(Aa LL).one);simp only[nn])|((with_reducible apply Bj);(case ho=>rfl);(case hw=>rfl);(case hx=>rfl);(case hc=>first|exact(Aa LL).one);simp only[nn])|((with_reducible apply At);(case ho=>rfl);(case hw=>rfl);(case hx=>rfl);(case hc=>first|exact(Aa LL).one);simp only[nn])|(go_at_call 100;refine(Ae _ _).mono ?_;rintro _ _ ⟨rfl,rfl⟩)|(go_at_call 99;refine(Ab _ _).mono ?_;rintro _ _ ⟨rfl,rfl⟩)|(go_at_call 72;refine(Ad _ _).mono ?_;rintro _ _ ⟨rfl,rfl⟩))
  go_ret
  exact⟨rfl,(Aa LL).below⟩
 ·go_wp2_with (first|go_skip|((with_reducible apply Bh);(case ho=>rfl);(case hw=>rfl);(case hx=>rfl);(case hc=>first|exact(Aa LL).one);simp only[nn])|((with_reducible apply Bo);(case ho=>rfl);(case hw=>rfl);(case hx=>rfl);(case hc=>first|exact(Aa LL).one);simp only[nn])|((with_reducible apply Bt);(case ho=>rfl);(case hw=>rfl);(case hx=>rfl);(case hc=>first|exact(Aa LL).one);simp only[nn])|((with_reducible apply Bq);(case ho=>rfl);(case hw=>rfl);(case hx=>rfl);(case hc=>first|exact(Aa LL).one);simp only[nn])|((with_reducible apply Bl);(case ho=>rfl);(case hw=>rfl);(case hx=>rfl);(case hc=>first|exact(Aa LL).one);simp only[nn])|((with_reducible apply Bj);(case ho=>rfl);(case hw=>rfl);(case hx=>rfl);(case hc=>first|exact(Aa LL).one);simp only[nn])|((with_reducible apply At);(case ho=>rfl);(case hw=>rfl);(case hx=>rfl);(case hc=>first|exact(Aa LL).one);simp only[nn])|(go_at_call 100;refine(Ae _ _).mono ?_;rintro _ _ ⟨rfl,rfl⟩)|(go_at_call 99;refine(Ab _ _).mono ?_;rintro _ _ ⟨rfl,rfl⟩)|(go_at_call 72;refine(Ad _ _).mono ?_;rintro _ _ ⟨rfl,rfl⟩))
  refine(Aa HKG _).mono ?_
  rintro _ w2 ⟨rfl,hb⟩
  replace LL:=Ac ((Aa LL).on hb)
  clear hb
  cases kg
  ·go_wp2_with (first|go_skip|((with_reducible apply Bh);(case ho=>rfl);(case hw=>rfl);(case hx=>rfl);(case hc=>first|exact(Aa LL).one);simp only[nn])|((with_reducible apply Bo);(case ho=>rfl);(case hw=>rfl);(case hx=>rfl);(case hc=>first|exact(Aa LL).one);simp only[nn])|((with_reducible apply Bt);(case ho=>rfl);(case hw=>rfl);(case hx=>rfl);(case hc=>first|exact(Aa LL).one);simp only[nn])|((with_reducible apply Bq);(case ho=>rfl);(case hw=>rfl);(case hx=>rfl);(case hc=>first|exact(Aa LL).one);simp only[nn])|((with_reducible apply Bl);(case ho=>rfl);(case hw=>rfl);(case hx=>rfl);(case hc=>first|exact(Aa LL).one);simp only[nn])|((with_reducible apply Bj);(case ho=>rfl);(case hw=>rfl);(case hx=>rfl);(case hc=>first|exact(Aa LL).one);simp only[nn])|((with_reducible apply At);(case ho=>rfl);(case hw=>rfl);(case hx=>rfl);(case hc=>first|exact(Aa LL).one);simp only[nn])|(go_at_call 100;refine(Ae _ _).mono ?_;rintro _ _ ⟨rfl,rfl⟩)|(go_at_call 99;refine(Ab _ _).mono ?_;rintro _ _ ⟨rfl,rfl⟩)|(go_at_call 72;refine(Ad _ _).mono ?_;rintro _ _ ⟨rfl,rfl⟩))
   refine(Aa HKS _).mono ?_
   rintro _ w3 ⟨rfl,hb⟩
   replace LL:=Ac ((Aa LL).on hb)
   clear hb
   go_wp2_with (first|go_skip|((with_reducible apply Bh);(case ho=>rfl);(case hw=>rfl);(case hx=>rfl);(case hc=>first|exact(Aa LL).one);simp only[nn])|((with_reducible apply Bo);(case ho=>rfl);(case hw=>rfl);(case hx=>rfl);(case hc=>first|exact(Aa LL).one);simp only[nn])|((with_reducible apply Bt);(case ho=>rfl);(case hw=>rfl);(case hx=>rfl);(case hc=>first|exact(Aa LL).one);simp only[nn])|((with_reducible apply Bq);(case ho=>rfl);(case hw=>rfl);(case hx=>rfl);(case hc=>first|exact(Aa LL).one);simp only[nn])|((with_reducible apply Bl);(case ho=>rfl);(case hw=>rfl);(case hx=>rfl);(case hc=>first|exact(Aa LL).one);simp only[nn])|((with_reducible apply Bj);(case ho=>rfl);(case hw=>rfl);(case hx=>rfl);(case hc=>first|exact(Aa LL).one);simp only[nn])|((with_reducible apply At);(case ho=>rfl);(case hw=>rfl);(case hx=>rfl);(case hc=>first|exact(Aa LL).one);simp only[nn])|(go_at_call 100;refine(Ae _ _).mono ?_;rintro _ _ ⟨rfl,rfl⟩)|(go_at_call 99;refine(Ab _ _).mono ?_;rintro _ _ ⟨rfl,rfl⟩)|(go_at_call 72;refine(Ad _ _).mono ?_;rintro _ _ ⟨rfl,rfl⟩))
   go_ret
   exact⟨rfl,(Aa LL).below⟩
  ·go_wp2_with (first|go_skip|((with_reducible apply Bh);(case ho=>rfl);(case hw=>rfl);(case hx=>rfl);(case hc=>first|exact(Aa LL).one);simp only[nn])|((with_reducible apply Bo);(case ho=>rfl);(case hw=>rfl);(case hx=>rfl);(case hc=>first|exact(Aa LL).one);simp only[nn])|((with_reducible apply Bt);(case ho=>rfl);(case hw=>rfl);(case hx=>rfl);(case hc=>first|exact(Aa LL).one);simp only[nn])|((with_reducible apply Bq);(case ho=>rfl);(case hw=>rfl);(case hx=>rfl);(case hc=>first|exact(Aa LL).one);simp only[nn])|((with_reducible apply Bl);(case ho=>rfl);(case hw=>rfl);(case hx=>rfl);(case hc=>first|exact(Aa LL).one);simp only[nn])|((with_reducible apply Bj);(case ho=>rfl);(case hw=>rfl);(case hx=>rfl);(case hc=>first|exact(Aa LL).one);simp only[nn])|((with_reducible apply At);(case ho=>rfl);(case hw=>rfl);(case hx=>rfl);(case hc=>first|exact(Aa LL).one);simp only[nn])|(go_at_call 100;refine(Ae _ _).mono ?_;rintro _ _ ⟨rfl,rfl⟩)|(go_at_call 99;refine(Ab _ _).mono ?_;rintro _ _ ⟨rfl,rfl⟩)|(go_at_call 72;refine(Ad _ _).mono ?_;rintro _ _ ⟨rfl,rfl⟩))
   go_ret
   exact⟨rfl,(Aa LL).below⟩
theorem Mq (d:DD) (hd:FD d) (w:World):Calls Tryz.prog 15 #[d.agg] w fun e w'=>e= .returned (.bool (Rn d))/\Below w.heap.size w w':=by
 have HG:=Ac (Zf d hd)
 have HKV:=Ac (Et d.v)
 have HKG:=Ac (Et d.g)
 have HKS:=Ac (Et d.s)
 clear hd
 have LL:=Ac (Lie.new1 w (.D d))
 unfold Rn
 generalize Lz d=gd at *
 generalize hkv:(d.v.k !=0)=kv at *
 generalize hkg:(d.g.k !=0)=kg at *
 generalize hks:(d.s.k !=0)=ks at *
 generalize hqa:(d.w !=0)=qa at *
 clear hkv hkg hks
 have hq0:=Gi d
 rw[hq0]
 clear hq0
 go_enter Tryz.func15,Tryz.ntmps15
 go_wp2_with (first|go_skip|((with_reducible apply Bh);(case ho=>rfl);(case hw=>rfl);(case hx=>rfl);(case hc=>first|exact(Aa LL).one);simp only[nn])|((with_reducible apply Bo);(case ho=>rfl);(case hw=>rfl);(case hx=>rfl);(case hc=>first|exact(Aa LL).one);simp only[nn])|((with_reducible apply Bt);(case ho=>rfl);(case hw=>rfl);(case hx=>rfl);(case hc=>first|exact(Aa LL).one);simp only[nn])|((with_reducible apply Bq);(case ho=>rfl);(case hw=>rfl);(case hx=>rfl);(case hc=>first|exact(Aa LL).one);simp only[nn])|((with_reducible apply Bl);(case ho=>rfl);(case hw=>rfl);(case hx=>rfl);(case hc=>first|exact(Aa LL).one);simp only[nn])|((with_reducible apply Bj);(case ho=>rfl);(case hw=>rfl);(case hx=>rfl);(case hc=>first|exact(Aa LL).one);simp only[nn])|((with_reducible apply At);(case ho=>rfl);(case hw=>rfl);(case hx=>rfl);(case hc=>first|exact(Aa LL).one);simp only[nn])|(go_at_call 100;refine(Ae _ _).mono ?_;rintro _ _ ⟨rfl,rfl⟩)|(go_at_call 99;refine(Ab _ _).mono ?_;rintro _ _ ⟨rfl,rfl⟩)|(go_at_call 72;refine(Ad _ _).mono ?_;rintro _ _ ⟨rfl,rfl⟩))
 refine(Aa HG _).mono ?_
 rintro _ w4 ⟨rfl,hb⟩
 replace LL:=Ac ((Aa LL).on hb)
 clear hb
 cases gd
 ·go_wp2_with (first|go_skip|((with_reducible apply Bh);(case ho=>rfl);(case hw=>rfl);(case hx=>rfl);(case hc=>first|exact(Aa LL).one);simp only[nn])|((with_reducible apply Bo);(case ho=>rfl);(case hw=>rfl);(case hx=>rfl);(case hc=>first|exact(Aa LL).one);simp only[nn])|((with_reducible apply Bt);(case ho=>rfl);(case hw=>rfl);(case hx=>rfl);(case hc=>first|exact(Aa LL).one);simp only[nn])|((with_reducible apply Bq);(case ho=>rfl);(case hw=>rfl);(case hx=>rfl);(case hc=>first|exact(Aa LL).one);simp only[nn])|((with_reducible apply Bl);(case ho=>rfl);(case hw=>rfl);(case hx=>rfl);(case hc=>first|exact(Aa LL).one);simp only[nn])|((with_reducible apply Bj);(case ho=>rfl);(case hw=>rfl);(case hx=>rfl);(case hc=>first|exact(Aa LL).one);simp only[nn])|((with_reducible apply At);(case ho=>rfl);(case hw=>rfl);(case hx=>rfl);(case hc=>first|exact(Aa LL).one);simp only[nn])|(go_at_call 100;refine(Ae _ _).mono ?_;rintro _ _ ⟨rfl,rfl⟩)|(go_at_call 99;refine(Ab _ _).mono ?_;rintro _ _ ⟨rfl,rfl⟩)|(go_at_call 72;refine(Ad _ _).mono ?_;rintro _ _ ⟨rfl,rfl⟩))
  go_ret
  exact⟨rfl,(Aa LL).below⟩
 ·go_wp2_with (first|go_skip|((with_reducible apply Bh);(case ho=>rfl);(case hw=>rfl);(case hx=>rfl);(case hc=>first|exact(Aa LL).one);simp only[nn])|((with_reducible apply Bo);(case ho=>rfl);(case hw=>rfl);(case hx=>rfl);(case hc=>first|exact(Aa LL).one);simp only[nn])|((with_reducible apply Bt);(case ho=>rfl);(case hw=>rfl);(case hx=>rfl);(case hc=>first|exact(Aa LL).one);simp only[nn])|((with_reducible apply Bq);(case ho=>rfl);(case hw=>rfl);(case hx=>rfl);(case hc=>first|exact(Aa LL).one);simp only[nn])|((with_reducible apply Bl);(case ho=>rfl);(case hw=>rfl);(case hx=>rfl);(case hc=>first|exact(Aa LL).one);simp only[nn])|((with_reducible apply Bj);(case ho=>rfl);(case hw=>rfl);(case hx=>rfl);(case hc=>first|exact(Aa LL).one);simp only[nn])|((with_reducible apply At);(case ho=>rfl);(case hw=>rfl);(case hx=>rfl);(case hc=>first|exact(Aa LL).one);simp only[nn])|(go_at_call 100;refine(Ae _ _).mono ?_;rintro _ _ ⟨rfl,rfl⟩)|(go_at_call 99;refine(Ab _ _).mono ?_;rintro _ _ ⟨rfl,rfl⟩)|(go_at_call 72;refine(Ad _ _).mono ?_;rintro _ _ ⟨rfl,rfl⟩))
  refine(Aa HKV _).mono ?_
  rintro _ w5 ⟨rfl,hb⟩
  replace LL:=Ac ((Aa LL).on hb)
  clear hb
  cases kv
  ·go_wp2_with (first|go_skip|((with_reducible apply Bh);(case ho=>rfl);(case hw=>rfl);(case hx=>rfl);(case hc=>first|exact(Aa LL).one);simp only[nn])|((with_reducible apply Bo);(case ho=>rfl);(case hw=>rfl);(case hx=>rfl);(case hc=>first|exact(Aa LL).one);simp only[nn])|((with_reducible apply Bt);(case ho=>rfl);(case hw=>rfl);(case hx=>rfl);(case hc=>first|exact(Aa LL).one);simp only[nn])|((with_reducible apply Bq);(case ho=>rfl);(case hw=>rfl);(case hx=>rfl);(case hc=>first|exact(Aa LL).one);simp only[nn])|((with_reducible apply Bl);(case ho=>rfl);(case hw=>rfl);(case hx=>rfl);(case hc=>first|exact(Aa LL).one);simp only[nn])|((with_reducible apply Bj);(case ho=>rfl);(case hw=>rfl);(case hx=>rfl);(case hc=>first|exact(Aa LL).one);simp only[nn])|((with_reducible apply At);(case ho=>rfl);(case hw=>rfl);(case hx=>rfl);(case hc=>first|exact(Aa LL).one);simp only[nn])|(go_at_call 100;refine(Ae _ _).mono ?_;rintro _ _ ⟨rfl,rfl⟩)|(go_at_call 99;refine(Ab _ _).mono ?_;rintro _ _ ⟨rfl,rfl⟩)|(go_at_call 72;refine(Ad _ _).mono ?_;rintro _ _ ⟨rfl,rfl⟩))
   go_ret
   exact⟨rfl,(Aa LL).below⟩
  ·go_wp2_with (first|go_skip|((with_reducible apply Bh);(case ho=>rfl);(case hw=>rfl);(case hx=>rfl);(case hc=>first|exact(Aa LL).one);simp only[nn])|((with_reducible apply Bo);(case ho=>rfl);(case hw=>rfl);(case hx=>rfl);(case hc=>first|exact(Aa LL).one);simp only[nn])|((with_reducible apply Bt);(case ho=>rfl);(case hw=>rfl);(case hx=>rfl);(case hc=>first|exact(Aa LL).one);simp only[nn])|((with_reducible apply Bq);(case ho=>rfl);(case hw=>rfl);(case hx=>rfl);(case hc=>first|exact(Aa LL).one);simp only[nn])|((with_reducible apply Bl);(case ho=>rfl);(case hw=>rfl);(case hx=>rfl);(case hc=>first|exact(Aa LL).one);simp only[nn])|((with_reducible apply Bj);(case ho=>rfl);(case hw=>rfl);(case hx=>rfl);(case hc=>first|exact(Aa LL).one);simp only[nn])|((with_reducible apply At);(case ho=>rfl);(case hw=>rfl);(case hx=>rfl);(case hc=>first|exact(Aa LL).one);simp only[nn])|(go_at_call 100;refine(Ae _ _).mono ?_;rintro _ _ ⟨rfl,rfl⟩)|(go_at_call 99;refine(Ab _ _).mono ?_;rintro _ _ ⟨rfl,rfl⟩)|(go_at_call 72;refine(Ad _ _).mono ?_;rintro _ _ ⟨rfl,rfl⟩))
   go_ret
   exact⟨rfl,(Aa LL).below⟩
