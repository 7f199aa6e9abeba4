import Derived.Test.YtieahhciibdnaaaGreatDoorQx
set_option linter.all false
namespace Go.Proofs.YtieahhciibdnaaaGreatDoor
set_option maxRecDepth 100000
set_option maxHeartbeats 0
section
open Go Go.Proofs Go.Maps Go.RowKit FM Tryz
attribute [local go_sem] Ak Ae Aq Dl Dk Bl Af Aj Ad Bj Et Es
theorem ord_keys (h:HP) (j:Nat) (q:OB) (w:World) (H:h.Is w) (hl:h.l.length<=65536) (hj:h.l[j]? =some q) (hT:Tabs w) (hP:TabL (q.T.live.map (·.k)) w) (hlast:q.T.last<4000000) (hlv:q.T.live.length<=1500000):Calls prog 162 #[.agg #[], .pointer (some ⟨h.b,0,none⟩), .int .i64 ((j:Int)+1)] w fun e w'=> ∃v,e= .returned (.tuple #[v, .nilIface])/\OwnK w' w.heap.size v (ordK ((pr q.T).map (·.1)))/\Below w.heap.size w w':=by
 have SS:=Ab (Sy.nil w [])
 go_enter func162,ntmps162
 go_wp2_with (first|go_skip|((with_reducible show wpList ..);first|((refine bx0 85 (by rfl) rfl rfl (Aa SS) ?_);intro X0 B0 S0;replace SS:=Ab S0;clear S0;simp only[nn])))
 refine(Pf h j q _ (H.on (Aa SS).fr.below) hj hl).mono ?_
 rintro _ _ ⟨rfl,rfl⟩
 have HI:=(H.on (Aa SS).fr.below).ob hj
 have HO:=Ab HI.1
 go_wp2_with (first|go_skip|((with_reducible show wpList ..);first|(refine rd rfl (Ag 121 isAgg121 rfl rfl (Aa HO) rfl) ?_)))
 have hb:=(Aa SS).fr.below
 refine(keys28 q.T _ HI.2.1 hlast hlv (hT.on hb).1 (hP.on hb)).mono ?_
 rintro _ Y ⟨v,rfl,hO,hbY⟩
 have HF:=Ab (And.intro hO hbY)
 clear hO hbY
 go_wp2
 go_ret2
 refine⟨v,rfl, ?_,hb.trans ((Aa HF).2.mono hb.size)⟩
 have e:(pr q.T).map (·.1)=q.T.live.map (·.k):=by unfold pr;rw[List.map_map];rfl
 rw[e]
 exact Vs (Aa HF).1 hb.size
def HP.shut (h:HP) (j:Nat) (q:OB):HP:={h with l:=h.l.set j {q with x:=false}}
theorem Ua (h:HP) (j:Nat) (q:OB) (w:World) (H:h.Is w) (hl:h.l.length<=65536) (hj:h.l[j]? =some q):Calls prog 67 #[.agg #[], .pointer (some ⟨h.b,0,none⟩), .int .i64 ((j:Int)+1)] w fun e w'=>e= .returned (.tuple #[.bool true, .nilIface])/\h.To (h.shut j q) w w':=by
 have SS:=Ab H.start
 go_enter func67,ntmps67
 go_wp2_with (first|go_skip|((with_reducible show wpList ..);first|((refine bx0 85 (by rfl) rfl rfl (Aa SS) ?_);intro X0 B0 S0;replace SS:=Ab S0;clear S0;simp only[nn])))
 refine(Pf h j q _ ((Aa SS).hp 0 rfl) hj hl).mono ?_
 rintro _ _ ⟨rfl,rfl⟩
 go_wp2_with (first|go_skip|((with_reducible show wpList ..);first|((refine stO (vs:= [.bool false]) (h.shut j q) (j:=j) (q:=q) (q':={q with x:=false}) 0 4 (by rfl) rfl rfl rfl rfl (by simp[Value.oneCell']) sz_b (Aa SS) rfl hj (by simp) rfl rfl rfl rfl rfl (by simp[Bz,OB.cs,VV.cs]) ?_);intro X1 S1;replace SS:=Ab S1;clear S1;simp only[nn])))
 go_ret2
 exact⟨rfl,HP.To.end H (Aa SS) rfl⟩
def HP.tab (h:HP) (j:Nat) (q:OB) (T':TT):HP:={h with l:=h.l.set j {q with T:=T'}}
def DelP (h:HP) (j:Nat) (q:OB) (k:KK) (h1:HP) (y:Bool):Prop:=(q.T.find k=none/\h1=h/\y=true)∨((q.T.find k).isSome=true/\(getD q.T k).c=1/\h1=h/\y=false)∨((q.T.find k).isSome=true/\(getD q.T k).c≠1/\y=true/\ ∃T':TT,h1=h.tab j q T'/\T'.last=q.T.last/\pr T'=delP (pr q.T) k)
theorem Uz {o:Oper} {a:Act} {w:World} {x y:Operand} {n m:Int} (ho:o.op= .binOp .eql 46 x y 46) (hx:a.eval x= .int .i64 n) (hc:a.eval y= .int .i64 m) (h:n=m):(execOp a.eval o).run prog w= .ok (.value (.bool true)) w:=by
 unfold execOp
 simp only[ho,hx,hc]
 simp[go_sem,eqGuard,h]
theorem Mn {o:Oper} {a:Act} {w:World} {x y:Operand} {n m:Int} (ho:o.op= .binOp .eql 46 x y 46) (hx:a.eval x= .int .i64 n) (hc:a.eval y= .int .i64 m) (h:n≠m):(execOp a.eval o).run prog w= .ok (.value (.bool false)) w:=by
 unfold execOp
 simp only[ho,hx,hc]
 simp[go_sem,eqGuard,h]
theorem Zcn (h:HP) (j:Nat) (q:OB) (k:KK) (w:World) (H:h.Is w) (hl:h.l.length<=65536) (hj:h.l[j]? =some q) (hk:OkK k) (hm:q.m=true) (hs:k.n≠0) (hlast:q.T.last<100000):Calls prog 158 #[.agg #[], .pointer (some ⟨h.b,0,none⟩), .int .i64 ((j:Int)+1),k.agg] w fun e w'=> ∃(h1:HP) (y:Bool),e= .returned (.tuple #[.bool y, .nilIface])/\DelP h j q k h1 y/\h.To h1 w w':=by
 have hC:Hid (OkK k):=Ab hk
 cases hfi:q.T.find k with
 |none=>
  have SS:=Ab H.start
  rw[Dg]
  go_enter func158,ntmps158
  go_wp2_with (first|go_skip|((with_reducible show wpList ..);first|((refine bx0 85 (by rfl) rfl rfl (Aa SS) ?_);intro X0 B0 S0;replace SS:=Ab S0;clear S0;simp only[nn])|(refine zB 45 (k.cs) (by rfl) rfl rfl rfl SS ?_;clear SS;intro Xa Ba SS;simp only[nn])|(refine zL (k.cs) 45 2 1 rwK szK (by rfl) rfl rfl SS rfl rfl rfl ?_;simp only[nn])))
  have T0:h.To h w _:=HP.To.end H (Aa SS) rfl
  refine(ZcZ h j q k _ ((Aa SS).hp 0 rfl) hl hj hk hm hs).mono ?_
  rintro _ Y1 ⟨rfl,hb1⟩
  replace SS:=Ab ((Aa SS).on hb1)
  clear hb1 T0
  rw[hfi]
  go_wp2_with (first|go_skip|((with_reducible show wpList ..);first|(refine zA 48 (Ar.cs) (by rfl) rfl SS ?_;clear SS;intro Xb Bb SS;simp only[nn])|(refine zS ((getD q.T k).cs) 2 48 (by rfl) rfl rfl rfl rfl (Gf _) szD SS rfl ?_;clear SS;intro Xz SS;simp only[nn])))
  go_ret2
  exact⟨h,true,rfl, .inl ⟨hfi,rfl,rfl⟩,HP.To.end H (Aa SS) rfl⟩
 |some r=>
  by_cases hc:(getD q.T k).c=1
  ·have SS:=Ab H.start
   rw[Dg]
   go_enter func158,ntmps158
   go_wp2_with (first|go_skip|((with_reducible show wpList ..);first|((refine bx0 85 (by rfl) rfl rfl (Aa SS) ?_);intro X0 B0 S0;replace SS:=Ab S0;clear S0;simp only[nn])|(refine zB 45 (k.cs) (by rfl) rfl rfl rfl SS ?_;clear SS;intro Xa Ba SS;simp only[nn])|(refine zL (k.cs) 45 2 1 rwK szK (by rfl) rfl rfl SS rfl rfl rfl ?_;simp only[nn])))
   have T0:h.To h w _:=HP.To.end H (Aa SS) rfl
   refine(ZcZ h j q k _ ((Aa SS).hp 0 rfl) hl hj hk hm hs).mono ?_
   rintro _ Y1 ⟨rfl,hb1⟩
   replace SS:=Ab ((Aa SS).on hb1)
   clear hb1 T0
   rw[hfi]
   go_wp2_with (first|go_skip|((with_reducible show wpList ..);first|(refine zA 48 (Ar.cs) (by rfl) rfl SS ?_;clear SS;intro Xb Bb SS;simp only[nn])|(refine zS ((getD q.T k).cs) 2 48 (by rfl) rfl rfl rfl rfl (Gf _) szD SS rfl ?_;clear SS;intro Xz SS;simp only[nn])|(refine rd rfl (Ag 46 isAgg46 rfl rfl ((Aa SS).hold 2 rfl) rfl) ?_)|(refine rd rfl (Uz rfl rfl rfl hc) ?_)))
   go_ret2
   exact⟨h,false,rfl, .inr (.inl ⟨by rw[hfi];rfl,hc,rfl,rfl⟩),HP.To.end H (Aa SS) rfl⟩
  ·have SS:=Ab H.start
   rw[Dg]
   go_enter func158,ntmps158
   go_wp2_with (first|go_skip|((with_reducible show wpList ..);first|((refine bx0 85 (by rfl) rfl rfl (Aa SS) ?_);intro X0 B0 S0;replace SS:=Ab S0;clear S0;simp only[nn])|(refine zB 45 (k.cs) (by rfl) rfl rfl rfl SS ?_;clear SS;intro Xa Ba SS;simp only[nn])|(refine zL (k.cs) 45 2 1 rwK szK (by rfl) rfl rfl SS rfl rfl rfl ?_;simp only[nn])))
   have T0:h.To h w _:=HP.To.end H (Aa SS) rfl
   refine(ZcZ h j q k _ ((Aa SS).hp 0 rfl) hl hj hk hm hs).mono ?_
   rintro _ Y1 ⟨rfl,hb1⟩
   replace SS:=Ab ((Aa SS).on hb1)
   clear hb1 T0
   rw[hfi]
   go_wp2_with (first|go_skip|((with_reducible show wpList ..);first|(refine zA 48 (Ar.cs) (by rfl) rfl SS ?_;clear SS;intro Xb Bb SS;simp only[nn])|(refine zS ((getD q.T k).cs) 2 48 (by rfl) rfl rfl rfl rfl (Gf _) szD SS rfl ?_;clear SS;intro Xz SS;simp only[nn])|(refine rd rfl (Ag 46 isAgg46 rfl rfl ((Aa SS).hold 2 rfl) rfl) ?_)|(refine rd rfl (Mn rfl rfl rfl hc) ?_)))
   have hS:Sy w _ h.blocks [hpO h,Ao Ba k.cs,Ao Bb (Bz Ar.cs 0 (getD q.T k).cs)]:=(Aa SS).drew
   clear SS
   refine wp_region_held_drew (P:=prog) (S:=fun _=>True) (by kernel_rfl) (trivial) (fun hS0=> ?_)
   refine gp 0 (some 29) (.pointer (some ⟨h.b,0,none⟩)) rfl rfl (trivial) ?_
   refine gp 1 (some 30) (.int .i64 ((j:Int)+1)) rfl rfl (trivial) ?_
   refine gr (rs:= [2,6]) (gc 2 (some 31) rfl rfl (Pf h j q _ (hS.hp 0 rfl) hj hl) ?_ (gv 6 (some 35) rfl rfl (Am (vs:=k.cs) 45 2 rwK szK rfl rfl (hS.hold 1 rfl) rfl rfl) (trivial) ?_ gn))
   ·rintro e Y1 ⟨rfl,rfl⟩
    refine⟨_,rfl,trivial, ?_⟩
    refine gp 3 (some 32) (.pointer (some ⟨q.b,0,none⟩)) rfl rfl (trivial) ?_
    refine gp 4 (some 33) (.pointer (some ⟨q.b,7,none⟩)) rfl rfl (trivial) ?_
    refine gr (rs:= [5,6]) (gv 5 (some 34) rfl rfl (Ag 121 isAgg121 rfl rfl ((hS.hp 0 rfl).ob hj).1 rfl) (trivial) ?_ (gv 6 (some 35) rfl rfl (Am (vs:=k.cs) 45 2 rwK szK rfl rfl (hS.hold 1 rfl) rfl rfl) (trivial) ?_ gn))
    ·simp only[nn]
     refine gr (rs:= [6]) (gv 6 (some 35) rfl rfl (Am (vs:=k.cs) 45 2 rwK szK rfl rfl (hS.hold 1 rfl) rfl rfl) (trivial) ?_ gn)
     simp only[nn]
     refine gr (rs:= [7]) (gc 7 (some 36) rfl rfl (Yl q.T k _ ((hS.hp 0 rfl).ob hj).2.1 hk hlast) ?_ gn)
     rintro e Y4 ⟨rfl,T',hT4,ht4,hla4,hf4,hs4,hlv4⟩
     have hq4:=Sy.heap hS 0 rfl ((hS.hp 0 rfl).table hj hT4 ht4 hf4 hs4)
     refine⟨_,rfl,trivial, ?_⟩
     refine dn ?_
     try simp only[nn]
     have SS:=Ab hq4
     have HP_:=Ab (And.intro hla4 hlv4)
     clear hla4 hlv4
     go_wp2
     go_ret2
     exact⟨h.tab j q T',true,rfl, .inr (.inr ⟨by rw[hfi];rfl,hc,rfl,T',rfl,(Aa HP_).1,Zcl (Aa HP_).2⟩),HP.To.end H (Aa SS) rfl⟩
    ·simp only[nn]
     refine gr (rs:= [5]) (gv 5 (some 34) rfl rfl (Ag 121 isAgg121 rfl rfl ((hS.hp 0 rfl).ob hj).1 rfl) (trivial) ?_ gn)
     simp only[nn]
     refine gr (rs:= [7]) (gc 7 (some 36) rfl rfl (Yl q.T k _ ((hS.hp 0 rfl).ob hj).2.1 hk hlast) ?_ gn)
     rintro e Y7 ⟨rfl,T',hT7,ht7,hla7,hf7,hs7,hlv7⟩
     have hq7:=Sy.heap hS 0 rfl ((hS.hp 0 rfl).table hj hT7 ht7 hf7 hs7)
     refine⟨_,rfl,trivial, ?_⟩
     refine dn ?_
     try simp only[nn]
     have SS:=Ab hq7
     have HP_:=Ab (And.intro hla7 hlv7)
     clear hla7 hlv7
     go_wp2
     go_ret2
     exact⟨h.tab j q T',true,rfl, .inr (.inr ⟨by rw[hfi];rfl,hc,rfl,T',rfl,(Aa HP_).1,Zcl (Aa HP_).2⟩),HP.To.end H (Aa SS) rfl⟩
   ·simp only[nn]
    refine gr (rs:= [2]) (gc 2 (some 31) rfl rfl (Pf h j q _ (hS.hp 0 rfl) hj hl) ?_ gn)
    rintro e Y9 ⟨rfl,rfl⟩
    refine⟨_,rfl,trivial, ?_⟩
    refine gp 3 (some 32) (.pointer (some ⟨q.b,0,none⟩)) rfl rfl (trivial) ?_
    refine gp 4 (some 33) (.pointer (some ⟨q.b,7,none⟩)) rfl rfl (trivial) ?_
    refine gr (rs:= [5]) (gv 5 (some 34) rfl rfl (Ag 121 isAgg121 rfl rfl ((hS.hp 0 rfl).ob hj).1 rfl) (trivial) ?_ gn)
    simp only[nn]
    refine gr (rs:= [7]) (gc 7 (some 36) rfl rfl (Yl q.T k _ ((hS.hp 0 rfl).ob hj).2.1 hk hlast) ?_ gn)
    rintro e Y11 ⟨rfl,T',hT11,ht11,hla11,hf11,hs11,hlv11⟩
    have hq11:=Sy.heap hS 0 rfl ((hS.hp 0 rfl).table hj hT11 ht11 hf11 hs11)
    refine⟨_,rfl,trivial, ?_⟩
    refine dn ?_
    try simp only[nn]
    have SS:=Ab hq11
    have HP_:=Ab (And.intro hla11 hlv11)
    clear hla11 hlv11
    go_wp2
    go_ret2
    exact⟨h.tab j q T',true,rfl, .inr (.inr ⟨by rw[hfi];rfl,hc,rfl,T',rfl,(Aa HP_).1,Zcl (Aa HP_).2⟩),HP.To.end H (Aa SS) rfl⟩
