import Derived.Test.YtfefpbjkbmaicaaGreatDoorRb
set_option linter.all false
namespace Go.Proofs.YtfefpbjkbmaicaaGreatDoor
set_option maxRecDepth 100000
set_option maxHeartbeats 0
section
open Go Go.Proofs Go.Maps Go.RowKit FM Tryz
attribute [local go_sem] Av Ap Dv Du De Au Ao Az Dd Gu Gt
def HP.tab (h:HP) (j:Nat) (q:OB) (T':TT):HP:={h with l:=h.l.set j {q with T:=T'}}
def DelP (h:HP) (j:Nat) (q:OB) (k:KK) (h1:HP) (y:Bool):Prop:=(q.T.find k=none/\h1=h/\y=true)∨((q.T.find k).isSome=true/\(getD q.T k).c=1/\h1=h/\y=false)∨((q.T.find k).isSome=true/\(getD q.T k).c≠1/\y=true/\ ∃T':TT,h1=h.tab j q T'/\T'.last=q.T.last/\pr T'=delP (pr q.T) k)
theorem ex_eqTy {o:Oper} {a:Act} {w:World} {x y:Operand} {n m:Int} (ho:o.op= .binOp .eql 27 x y 27) (hx:a.eval x= .int .i64 n) (hc:a.eval y= .int .i64 m) (h:n=m):(execOp a.eval o).run prog w= .ok (.value (.bool true)) w:=by
 unfold execOp
 simp only[ho,hx,hc]
 simp[go_sem,eqGuard,h]
theorem ex_eqTn {o:Oper} {a:Act} {w:World} {x y:Operand} {n m:Int} (ho:o.op= .binOp .eql 27 x y 27) (hx:a.eval x= .int .i64 n) (hc:a.eval y= .int .i64 m) (h:n≠m):(execOp a.eval o).run prog w= .ok (.value (.bool false)) w:=by
 unfold execOp
 simp only[ho,hx,hc]
 simp[go_sem,eqGuard,h]
theorem ZaQ (h:HP) (j:Nat) (q:OB) (k:KK) (w:World) (H:h.Is w) (hl:h.l.length<=65536) (hj:h.l[j]? =some q) (hk:OkK k) (hlast:q.T.last<100000):Calls prog 152 #[.agg #[], .pointer (some ⟨h.b,0,none⟩), .int .i64 ((j:Int)+1),k.agg] w fun e w'=> ∃(h1:HP) (y:Bool),e= .returned (.tuple #[.bool y, .nilIface])/\DelP h j q k h1 y/\h.To h1 w w':=by
 have hC:Hid (OkK k):=Ac hk
 cases hfi:q.T.find k with
 |none=>
  have SS:=Ac H.start
  rw[Ec]
  go_enter func152,ntmps152
  go_wp2_with (first|go_skip|((with_reducible show wpList ..);first|((refine bx0 70 (by rfl) rfl rfl (Aa SS) ?_);intro X0 B0 S0;replace SS:=Ac S0;clear S0;simp only[nn])|(refine zB 42 (k.cs) (by rfl) rfl rfl rfl SS ?_;clear SS;intro Xa Ba SS;simp only[nn])|(refine zL (k.cs) 42 2 1 rwK szK (by rfl) rfl rfl SS rfl rfl rfl ?_;simp only[nn])))
  have T0:h.To h w _:=HP.To.end H (Aa SS) rfl
  refine(Zo h j q k _ ((Aa SS).hp 0 rfl) hl hj hk).mono ?_
  rintro _ Y1 ⟨rfl,hb1⟩
  replace SS:=Ac ((Aa SS).on hb1)
  clear hb1 T0
  rw[hfi]
  go_wp2_with (first|go_skip|((with_reducible show wpList ..);first|(refine zA 29 (Bx.cs) (by rfl) rfl SS ?_;clear SS;intro Xb Bb SS;simp only[nn])|(refine zS ((getD q.T k).cs) 2 29 (by rfl) rfl rfl rfl rfl (Jg _) szD SS rfl ?_;clear SS;intro Xz SS;simp only[nn])))
  go_ret2
  exact⟨h,true,rfl, .inl ⟨hfi,rfl,rfl⟩,HP.To.end H (Aa SS) rfl⟩
 |some r=>
  by_cases hc:(getD q.T k).c=1
  ·have SS:=Ac H.start
   rw[Ec]
   go_enter func152,ntmps152
   go_wp2_with (first|go_skip|((with_reducible show wpList ..);first|((refine bx0 70 (by rfl) rfl rfl (Aa SS) ?_);intro X0 B0 S0;replace SS:=Ac S0;clear S0;simp only[nn])|(refine zB 42 (k.cs) (by rfl) rfl rfl rfl SS ?_;clear SS;intro Xa Ba SS;simp only[nn])|(refine zL (k.cs) 42 2 1 rwK szK (by rfl) rfl rfl SS rfl rfl rfl ?_;simp only[nn])))
   have T0:h.To h w _:=HP.To.end H (Aa SS) rfl
   refine(Zo h j q k _ ((Aa SS).hp 0 rfl) hl hj hk).mono ?_
   rintro _ Y1 ⟨rfl,hb1⟩
   replace SS:=Ac ((Aa SS).on hb1)
   clear hb1 T0
   rw[hfi]
   go_wp2_with (first|go_skip|((with_reducible show wpList ..);first|(refine zA 29 (Bx.cs) (by rfl) rfl SS ?_;clear SS;intro Xb Bb SS;simp only[nn])|(refine zS ((getD q.T k).cs) 2 29 (by rfl) rfl rfl rfl rfl (Jg _) szD SS rfl ?_;clear SS;intro Xz SS;simp only[nn])|(refine rd rfl (Aj 27 isAgg27 rfl rfl ((Aa SS).hold 2 rfl) rfl) ?_)|(refine rd rfl (ex_eqTy rfl rfl rfl hc) ?_)))
   go_ret2
   exact⟨h,false,rfl, .inr (.inl ⟨by rw[hfi];rfl,hc,rfl,rfl⟩),HP.To.end H (Aa SS) rfl⟩
  ·have SS:=Ac H.start
   rw[Ec]
   go_enter func152,ntmps152
   go_wp2_with (first|go_skip|((with_reducible show wpList ..);first|((refine bx0 70 (by rfl) rfl rfl (Aa SS) ?_);intro X0 B0 S0;replace SS:=Ac S0;clear S0;simp only[nn])|(refine zB 42 (k.cs) (by rfl) rfl rfl rfl SS ?_;clear SS;intro Xa Ba SS;simp only[nn])|(refine zL (k.cs) 42 2 1 rwK szK (by rfl) rfl rfl SS rfl rfl rfl ?_;simp only[nn])))
   have T0:h.To h w _:=HP.To.end H (Aa SS) rfl
   refine(Zo h j q k _ ((Aa SS).hp 0 rfl) hl hj hk).mono ?_
   rintro _ Y1 ⟨rfl,hb1⟩
   replace SS:=Ac ((Aa SS).on hb1)
   clear hb1 T0
   rw[hfi]
   go_wp2_with (first|go_skip|((with_reducible show wpList ..);first|(refine zA 29 (Bx.cs) (by rfl) rfl SS ?_;clear SS;intro Xb Bb SS;simp only[nn])|(refine zS ((getD q.T k).cs) 2 29 (by rfl) rfl rfl rfl rfl (Jg _) szD SS rfl ?_;clear SS;intro Xz SS;simp only[nn])|(refine rd rfl (Aj 27 isAgg27 rfl rfl ((Aa SS).hold 2 rfl) rfl) ?_)|(refine rd rfl (ex_eqTn rfl rfl rfl hc) ?_)))
   have hS:Sy w _ h.blocks [hpO h,Al Ba k.cs,Al Bb (Dq Bx.cs 0 (getD q.T k).cs)]:=(Aa SS).drew
   clear SS
   refine wp_region_held_drew (P:=prog) (S:=fun _=>True) (by kernel_rfl) (trivial) (fun hS0=> ?_)
   refine gp 0 (some 29) (.pointer (some ⟨h.b,0,none⟩)) rfl rfl (trivial) ?_
   refine gp 1 (some 30) (.int .i64 ((j:Int)+1)) rfl rfl (trivial) ?_
   refine gr (rs:= [2,6]) (gc 2 (some 31) rfl rfl (Qn h j q _ (hS.hp 0 rfl) hj hl) ?_ (gv 6 (some 35) rfl rfl (Ax (vs:=k.cs) 42 2 rwK szK rfl rfl (hS.hold 1 rfl) rfl rfl) (trivial) ?_ gn))
   ·rintro e Y1 ⟨rfl,rfl⟩
    refine⟨_,rfl,trivial, ?_⟩
    refine gp 3 (some 32) (.pointer (some ⟨q.b,0,none⟩)) rfl rfl (trivial) ?_
    refine gp 4 (some 33) (.pointer (some ⟨q.b,7,none⟩)) rfl rfl (trivial) ?_
    refine gr (rs:= [5,6]) (gv 5 (some 34) rfl rfl (Aj 105 isAgg105 rfl rfl ((hS.hp 0 rfl).ob hj).1 rfl) (trivial) ?_ (gv 6 (some 35) rfl rfl (Ax (vs:=k.cs) 42 2 rwK szK rfl rfl (hS.hold 1 rfl) rfl rfl) (trivial) ?_ gn))
    ·simp only[nn]
     refine gr (rs:= [6]) (gv 6 (some 35) rfl rfl (Ax (vs:=k.cs) 42 2 rwK szK rfl rfl (hS.hold 1 rfl) rfl rfl) (trivial) ?_ gn)
     simp only[nn]
     refine gr (rs:= [7]) (gc 7 (some 36) rfl rfl (Un q.T k _ ((hS.hp 0 rfl).ob hj).2.1 hk hlast) ?_ gn)
     rintro e Y4 ⟨rfl,T',hT4,ht4,hla4,hf4,hs4,hlv4⟩
     have hq4:=Sy.heap hS 0 rfl ((hS.hp 0 rfl).table hj hT4 ht4 hf4 hs4)
     refine⟨_,rfl,trivial, ?_⟩
     refine wpAnyH_done (by kernel_rfl) ?_ _
     try simp only[nn]
     have SS:=Ac hq4
     have HP_:=Ac (And.intro hla4 hlv4)
     clear hla4 hlv4
     go_wp2
     go_ret2
     exact⟨h.tab j q T',true,rfl, .inr (.inr ⟨by rw[hfi];rfl,hc,rfl,T',rfl,(Aa HP_).1,ZaP (Aa HP_).2⟩),HP.To.end H (Aa SS) rfl⟩
    ·simp only[nn]
     refine gr (rs:= [5]) (gv 5 (some 34) rfl rfl (Aj 105 isAgg105 rfl rfl ((hS.hp 0 rfl).ob hj).1 rfl) (trivial) ?_ gn)
     simp only[nn]
     refine gr (rs:= [7]) (gc 7 (some 36) rfl rfl (Un q.T k _ ((hS.hp 0 rfl).ob hj).2.1 hk hlast) ?_ gn)
     rintro e Y7 ⟨rfl,T',hT7,ht7,hla7,hf7,hs7,hlv7⟩
     have hq7:=Sy.heap hS 0 rfl ((hS.hp 0 rfl).table hj hT7 ht7 hf7 hs7)
     refine⟨_,rfl,trivial, ?_⟩
     refine wpAnyH_done (by kernel_rfl) ?_ _
     try simp only[nn]
     have SS:=Ac hq7
     have HP_:=Ac (And.intro hla7 hlv7)
     clear hla7 hlv7
     go_wp2
     go_ret2
     exact⟨h.tab j q T',true,rfl, .inr (.inr ⟨by rw[hfi];rfl,hc,rfl,T',rfl,(Aa HP_).1,ZaP (Aa HP_).2⟩),HP.To.end H (Aa SS) rfl⟩
   ·simp only[nn]
    refine gr (rs:= [2]) (gc 2 (some 31) rfl rfl (Qn h j q _ (hS.hp 0 rfl) hj hl) ?_ gn)
    rintro e Y9 ⟨rfl,rfl⟩
    refine⟨_,rfl,trivial, ?_⟩
    refine gp 3 (some 32) (.pointer (some ⟨q.b,0,none⟩)) rfl rfl (trivial) ?_
    refine gp 4 (some 33) (.pointer (some ⟨q.b,7,none⟩)) rfl rfl (trivial) ?_
    refine gr (rs:= [5]) (gv 5 (some 34) rfl rfl (Aj 105 isAgg105 rfl rfl ((hS.hp 0 rfl).ob hj).1 rfl) (trivial) ?_ gn)
    simp only[nn]
    refine gr (rs:= [7]) (gc 7 (some 36) rfl rfl (Un q.T k _ ((hS.hp 0 rfl).ob hj).2.1 hk hlast) ?_ gn)
    rintro e Y11 ⟨rfl,T',hT11,ht11,hla11,hf11,hs11,hlv11⟩
    have hq11:=Sy.heap hS 0 rfl ((hS.hp 0 rfl).table hj hT11 ht11 hf11 hs11)
    refine⟨_,rfl,trivial, ?_⟩
    refine wpAnyH_done (by kernel_rfl) ?_ _
    try simp only[nn]
    have SS:=Ac hq11
    have HP_:=Ac (And.intro hla11 hlv11)
    clear hla11 hlv11
    go_wp2
    go_ret2
    exact⟨h.tab j q T',true,rfl, .inr (.inr ⟨by rw[hfi];rfl,hc,rfl,T',rfl,(Aa HP_).1,ZaP (Aa HP_).2⟩),HP.To.end H (Aa SS) rfl⟩
