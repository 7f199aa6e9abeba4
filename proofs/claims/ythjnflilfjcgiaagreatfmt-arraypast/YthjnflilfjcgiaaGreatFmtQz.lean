import Derived.Test.YthjnflilfjcgiaaGreatFmtQy
set_option linter.all false
namespace Go.Proofs.YthjnflilfjcgiaaGreatFmt
set_option maxRecDepth 100000
set_option maxHeartbeats 0
section
open Go Go.Proofs Go.Maps Go.RowKit FM Tryz
attribute [local go_sem] Ad Ag Ak Df Bi Ae Bg
theorem ord_keys (h:HP) (j:Nat) (q:OB) (w:World) (H:h.Is w) (hl:h.l.length<=65536) (hj:h.l[j]? =some q) (hT:Tabs w) (hlast:q.T.last<4000000) (hlv:q.T.live.length<=1500000):Calls prog 153 #[.agg #[], .pointer (some ⟨h.b,0,none⟩), .int .i64 ((j:Int)+1)] w fun e w'=> ∃v,e= .returned (.tuple #[v, .nilIface])/\OwnK w' w.heap.size v (ZcY ((pr q.T).map (·.1)))/\Below w.heap.size w w':=by
 have SS:=Ab (Sy.nil w [])
 go_enter func153,ntmps153
 go_wp2_with (first|go_skip|((with_reducible show wpList ..);first|((refine bx0 81 (by rfl) rfl rfl (Aa SS) ?_);intro X0 B0 S0;replace SS:=Ab S0;clear S0;simp only[nn])))
 refine(Qu h j q _ (H.on (Aa SS).fr.below) hj hl).mono ?_
 rintro _ _ ⟨rfl,rfl⟩
 have HI:=(H.on (Aa SS).fr.below).ob hj
 have HO:=Ab HI.1
 go_wp2_with (first|go_skip|((with_reducible show wpList ..);first|(refine rd rfl (Ai 135 isAgg135 rfl rfl (Aa HO) rfl) ?_)))
 have hb:=(Aa SS).fr.below
 refine(keys28 q.T _ HI.2.1 hlast hlv (hT.on hb).1 (hT.on hb).2).mono ?_
 rintro _ Y ⟨v,rfl,hO,hbY⟩
 have HF:=Ab (And.intro hO hbY)
 clear hO hbY
 go_wp2
 go_ret2
 refine⟨v,rfl, ?_,hb.trans ((Aa HF).2.mono hb.size)⟩
 have e:(pr q.T).map (·.1)=q.T.live.map (·.k):=by unfold pr;rw[List.map_map];rfl
 rw[e]
 exact Uj (Aa HF).1 hb.size
def HP.tab (h:HP) (j:Nat) (q:OB) (T':TT):HP:={h with l:=h.l.set j {q with T:=T'}}
def DelP (h:HP) (j:Nat) (q:OB) (k:KK) (h1:HP) (y:Bool):Prop:=(q.T.find k=none/\h1=h/\y=true)∨((q.T.find k).isSome=true/\(getD q.T k).c=1/\h1=h/\y=false)∨((q.T.find k).isSome=true/\(getD q.T k).c≠1/\y=true/\ ∃T':TT,h1=h.tab j q T'/\T'.last=q.T.last/\pr T'=Zde (pr q.T) k)
theorem Ub {o:Oper} {a:Act} {w:World} {x y:Operand} {n m:Int} (ho:o.op= .binOp .eql 51 x y 51) (hx:a.eval x= .int .i64 n) (hc:a.eval y= .int .i64 m) (h:n=m):(execOp a.eval o).run prog w= .ok (.value (.bool true)) w:=by
 unfold execOp
 simp only[ho,hx,hc]
 simp[go_sem,eqGuard,h]
theorem ex_eqTn {o:Oper} {a:Act} {w:World} {x y:Operand} {n m:Int} (ho:o.op= .binOp .eql 51 x y 51) (hx:a.eval x= .int .i64 n) (hc:a.eval y= .int .i64 m) (h:n≠m):(execOp a.eval o).run prog w= .ok (.value (.bool false)) w:=by
 unfold execOp
 simp only[ho,hx,hc]
 simp[go_sem,eqGuard,h]
theorem ZbG (h:HP) (j:Nat) (q:OB) (k:KK) (w:World) (H:h.Is w) (hl:h.l.length<=65536) (hj:h.l[j]? =some q) (hk:OkK k) (hlast:q.T.last<100000):Calls prog 192 #[.agg #[], .pointer (some ⟨h.b,0,none⟩), .int .i64 ((j:Int)+1),k.agg] w fun e w'=> ∃(h1:HP) (y:Bool),e= .returned (.tuple #[.bool y, .nilIface])/\DelP h j q k h1 y/\h.To h1 w w':=by
 have hC:Hid (OkK k):=Ab hk
 cases hfi:q.T.find k with
 |none=>
  have SS:=Ab H.start
  rw[Le]
  go_enter func192,ntmps192
  go_wp2_with (first|go_skip|((with_reducible show wpList ..);first|((refine bx0 81 (by rfl) rfl rfl (Aa SS) ?_);intro X0 B0 S0;replace SS:=Ab S0;clear S0;simp only[nn])|(refine zB 42 (k.cs) (by rfl) rfl rfl rfl SS ?_;clear SS;intro Xa Ba SS;simp only[nn])|(refine zL (k.cs) 42 2 1 rwK szK (by rfl) rfl rfl SS rfl rfl rfl ?_;simp only[nn])))
  have T0:h.To h w _:=HP.To.end H (Aa SS) rfl
  refine(Zcb h j q k _ ((Aa SS).hp 0 rfl) hl hj hk).mono ?_
  rintro _ Y1 ⟨rfl,hb1⟩
  replace SS:=Ab ((Aa SS).on hb1)
  clear hb1 T0
  rw[hfi]
  go_wp2_with (first|go_skip|((with_reducible show wpList ..);first|(refine zA 53 (Ap.cs) (by rfl) rfl SS ?_;clear SS;intro Xb Bb SS;simp only[nn])|(refine zS ((getD q.T k).cs) 2 53 (by rfl) rfl rfl rfl rfl (Jy _) szD SS rfl ?_;clear SS;intro Xz SS;simp only[nn])))
  go_ret2
  exact⟨h,true,rfl, .inl ⟨hfi,rfl,rfl⟩,HP.To.end H (Aa SS) rfl⟩
 |some r=>
  by_cases hc:(getD q.T k).c=1
  ·have SS:=Ab H.start
   rw[Le]
   go_enter func192,ntmps192
   go_wp2_with (first|go_skip|((with_reducible show wpList ..);first|((refine bx0 81 (by rfl) rfl rfl (Aa SS) ?_);intro X0 B0 S0;replace SS:=Ab S0;clear S0;simp only[nn])|(refine zB 42 (k.cs) (by rfl) rfl rfl rfl SS ?_;clear SS;intro Xa Ba SS;simp only[nn])|(refine zL (k.cs) 42 2 1 rwK szK (by rfl) rfl rfl SS rfl rfl rfl ?_;simp only[nn])))
   have T0:h.To h w _:=HP.To.end H (Aa SS) rfl
   refine(Zcb h j q k _ ((Aa SS).hp 0 rfl) hl hj hk).mono ?_
   rintro _ Y1 ⟨rfl,hb1⟩
   replace SS:=Ab ((Aa SS).on hb1)
   clear hb1 T0
   rw[hfi]
   go_wp2_with (first|go_skip|((with_reducible show wpList ..);first|(refine zA 53 (Ap.cs) (by rfl) rfl SS ?_;clear SS;intro Xb Bb SS;simp only[nn])|(refine zS ((getD q.T k).cs) 2 53 (by rfl) rfl rfl rfl rfl (Jy _) szD SS rfl ?_;clear SS;intro Xz SS;simp only[nn])|(refine rd rfl (Ai 51 isAgg51 rfl rfl ((Aa SS).hold 2 rfl) rfl) ?_)|(refine rd rfl (Ub rfl rfl rfl hc) ?_)))
   go_ret2
   exact⟨h,false,rfl, .inr (.inl ⟨by rw[hfi];rfl,hc,rfl,rfl⟩),HP.To.end H (Aa SS) rfl⟩
  ·have SS:=Ab H.start
   rw[Le]
   go_enter func192,ntmps192
   go_wp2_with (first|go_skip|((with_reducible show wpList ..);first|((refine bx0 81 (by rfl) rfl rfl (Aa SS) ?_);intro X0 B0 S0;replace SS:=Ab S0;clear S0;simp only[nn])|(refine zB 42 (k.cs) (by rfl) rfl rfl rfl SS ?_;clear SS;intro Xa Ba SS;simp only[nn])|(refine zL (k.cs) 42 2 1 rwK szK (by rfl) rfl rfl SS rfl rfl rfl ?_;simp only[nn])))
   have T0:h.To h w _:=HP.To.end H (Aa SS) rfl
   refine(Zcb h j q k _ ((Aa SS).hp 0 rfl) hl hj hk).mono ?_
   rintro _ Y1 ⟨rfl,hb1⟩
   replace SS:=Ab ((Aa SS).on hb1)
   clear hb1 T0
   rw[hfi]
   go_wp2_with (first|go_skip|((with_reducible show wpList ..);first|(refine zA 53 (Ap.cs) (by rfl) rfl SS ?_;clear SS;intro Xb Bb SS;simp only[nn])|(refine zS ((getD q.T k).cs) 2 53 (by rfl) rfl rfl rfl rfl (Jy _) szD SS rfl ?_;clear SS;intro Xz SS;simp only[nn])|(refine rd rfl (Ai 51 isAgg51 rfl rfl ((Aa SS).hold 2 rfl) rfl) ?_)|(refine rd rfl (ex_eqTn rfl rfl rfl hc) ?_)))
   have hS:Sy w _ h.blocks [hpO h,Am Ba k.cs,Am Bb (Dp Ap.cs 0 (getD q.T k).cs)]:=(Aa SS).drew
   clear SS
   refine wp_region_held_drew (P:=prog) (S:=fun _=>True) (by kernel_rfl) (trivial) (fun hS0=> ?_)
   refine gp 0 (some 29) (.pointer (some ⟨h.b,0,none⟩)) rfl rfl (trivial) ?_
   refine gp 1 (some 30) (.int .i64 ((j:Int)+1)) rfl rfl (trivial) ?_
   refine gr (rs:= [2,6]) (gc 2 (some 31) rfl rfl (Qu h j q _ (hS.hp 0 rfl) hj hl) ?_ (gv 6 (some 35) rfl rfl (Aj (vs:=k.cs) 42 2 rwK szK rfl rfl (hS.hold 1 rfl) rfl rfl) (trivial) ?_ gn))
   ·rintro e Y1 ⟨rfl,rfl⟩
    refine⟨_,rfl,trivial, ?_⟩
    refine gp 3 (some 32) (.pointer (some ⟨q.b,0,none⟩)) rfl rfl (trivial) ?_
    refine gp 4 (some 33) (.pointer (some ⟨q.b,7,none⟩)) rfl rfl (trivial) ?_
    refine gr (rs:= [5,6]) (gv 5 (some 34) rfl rfl (Ai 135 isAgg135 rfl rfl ((hS.hp 0 rfl).ob hj).1 rfl) (trivial) ?_ (gv 6 (some 35) rfl rfl (Aj (vs:=k.cs) 42 2 rwK szK rfl rfl (hS.hold 1 rfl) rfl rfl) (trivial) ?_ gn))
    ·simp only[nn]
     refine gr (rs:= [6]) (gv 6 (some 35) rfl rfl (Aj (vs:=k.cs) 42 2 rwK szK rfl rfl (hS.hold 1 rfl) rfl rfl) (trivial) ?_ gn)
     simp only[nn]
     refine gr (rs:= [7]) (gc 7 (some 36) rfl rfl (Vo q.T k _ ((hS.hp 0 rfl).ob hj).2.1 hk hlast) ?_ gn)
     rintro e Y4 ⟨rfl,T',hT4,ht4,hla4,hf4,hs4,hlv4⟩
     have hq4:=Sy.heap hS 0 rfl ((hS.hp 0 rfl).table hj hT4 ht4 hf4 hs4)
     refine⟨_,rfl,trivial, ?_⟩
     refine wpAnyH_done (by kernel_rfl) ?_ _
     try simp only[nn]
     have SS:=Ab hq4
     have HP_:=Ab (And.intro hla4 hlv4)
     clear hla4 hlv4
     go_wp2
     go_ret2
     exact⟨h.tab j q T',true,rfl, .inr (.inr ⟨by rw[hfi];rfl,hc,rfl,T',rfl,(Aa HP_).1,ZbC (Aa HP_).2⟩),HP.To.end H (Aa SS) rfl⟩
    ·simp only[nn]
     refine gr (rs:= [5]) (gv 5 (some 34) rfl rfl (Ai 135 isAgg135 rfl rfl ((hS.hp 0 rfl).ob hj).1 rfl) (trivial) ?_ gn)
     simp only[nn]
     refine gr (rs:= [7]) (gc 7 (some 36) rfl rfl (Vo q.T k _ ((hS.hp 0 rfl).ob hj).2.1 hk hlast) ?_ gn)
     rintro e Y7 ⟨rfl,T',hT7,ht7,hla7,hf7,hs7,hlv7⟩
     have hq7:=Sy.heap hS 0 rfl ((hS.hp 0 rfl).table hj hT7 ht7 hf7 hs7)
     refine⟨_,rfl,trivial, ?_⟩
     refine wpAnyH_done (by kernel_rfl) ?_ _
     try simp only[nn]
     have SS:=Ab hq7
     have HP_:=Ab (And.intro hla7 hlv7)
     clear hla7 hlv7
     go_wp2
     go_ret2
     exact⟨h.tab j q T',true,rfl, .inr (.inr ⟨by rw[hfi];rfl,hc,rfl,T',rfl,(Aa HP_).1,ZbC (Aa HP_).2⟩),HP.To.end H (Aa SS) rfl⟩
   ·simp only[nn]
    refine gr (rs:= [2]) (gc 2 (some 31) rfl rfl (Qu h j q _ (hS.hp 0 rfl) hj hl) ?_ gn)
    rintro e Y9 ⟨rfl,rfl⟩
    refine⟨_,rfl,trivial, ?_⟩
    refine gp 3 (some 32) (.pointer (some ⟨q.b,0,none⟩)) rfl rfl (trivial) ?_
    refine gp 4 (some 33) (.pointer (some ⟨q.b,7,none⟩)) rfl rfl (trivial) ?_
    refine gr (rs:= [5]) (gv 5 (some 34) rfl rfl (Ai 135 isAgg135 rfl rfl ((hS.hp 0 rfl).ob hj).1 rfl) (trivial) ?_ gn)
    simp only[nn]
    refine gr (rs:= [7]) (gc 7 (some 36) rfl rfl (Vo q.T k _ ((hS.hp 0 rfl).ob hj).2.1 hk hlast) ?_ gn)
    rintro e Y11 ⟨rfl,T',hT11,ht11,hla11,hf11,hs11,hlv11⟩
    have hq11:=Sy.heap hS 0 rfl ((hS.hp 0 rfl).table hj hT11 ht11 hf11 hs11)
    refine⟨_,rfl,trivial, ?_⟩
    refine wpAnyH_done (by kernel_rfl) ?_ _
    try simp only[nn]
    have SS:=Ab hq11
    have HP_:=Ab (And.intro hla11 hlv11)
    clear hla11 hlv11
    go_wp2
    go_ret2
    exact⟨h.tab j q T',true,rfl, .inr (.inr ⟨by rw[hfi];rfl,hc,rfl,T',rfl,(Aa HP_).1,ZbC (Aa HP_).2⟩),HP.To.end H (Aa SS) rfl⟩
def Zap (h:HP) (j:Nat) (q:OB) (k:KK) (d:DD) (h1:HP) (y:Bool):Prop:=y=Rl q.x (getD q.T k) d/\((y=false/\h1=h)∨(y=true/\ ∃T':TT,h1=h.tab j q T'/\T'.last<=q.T.last+1/\pr T'=ZaH (pr q.T) k (Du q.x (getD q.T k) d)))
theorem Zf (T:TT) (k:KK) (d:DD) (w:World) (hT:T.Is w) (hU:Lib.Utf8Tabs 4 5 w) (hk:OkK k) (hl:T.last<4000000) (hTT: ∀b∈T.blocks,6<=b) (hg:goodK k=true):Calls prog 78 #[.pointer (some ⟨T.t,0,none⟩),k.agg,d.agg] w fun e w'=>e= .returned (.int .i64 0)/\ ∃T':TT,T'.Is w'/\T'.t=T.t/\Fr w w' T.blocks/\(∀b∈T'.blocks,b∈T.blocks∨w.heap.size<=b)/\PutT T k d T':=by
 refine(put12 T k d w hT hU hk hl hTT).mono (fun e w' hh=> ?_)
 obtain⟨h1,T',a,b,c,d2,e2⟩:=hh
 exact⟨by rw[h1,if_pos hg],T',a,b,c,d2,e2⟩
theorem Kz (h:HP) (j:Nat) (q:OB) (k:KK) (d:DD) (w:World) (H:h.Is w) (hl:h.l.length<=65536) (hj:h.l[j]? =some q) (hT:Tabs w) (hk:OkK k) (hg:goodK k=true) (hFn:FD (getD q.T k)) (hFd:FD d) (hlast:q.T.last<4000000):Calls prog 58 #[.agg #[], .pointer (some ⟨h.b,0,none⟩), .int .i64 ((j:Int)+1),k.agg,d.agg] w fun e w'=> ∃(h1:HP) (y:Bool),e= .returned (.tuple #[.bool y, .nilIface])/\Zap h j q k d h1 y/\h.To h1 w w':=by
 have HA:=fun (w:World) (hT:Tabs w)=>Zdo q.x (getD q.T k) d hFn hFd w hT.1
 cases hb:Rl q.x (getD q.T k) d with
 |false=>
  simp only[hb] at HA
  have SS:=Ab H.start
  rw[Le,Vp]
  go_enter func58,ntmps58
  go_wp2_with (first|go_skip|((with_reducible show wpList ..);first|((refine bx0 81 (by rfl) rfl rfl (Aa SS) ?_);intro X0 B0 S0;replace SS:=Ab S0;clear S0;simp only[nn])|(refine zB 42 (k.cs) (by rfl) rfl rfl rfl SS ?_;clear SS;intro Xa Ba SS;simp only[nn])|(refine zB 53 (d.cs) (by rfl) rfl rfl rfl SS ?_;clear SS;intro Xb Bb SS;simp only[nn])))
  refine(Qu h j q _ ((Aa SS).hp 0 rfl) hj hl).mono ?_
  rintro _ _ ⟨rfl,rfl⟩
  go_wp2
  have hS2:Sy w _ h.blocks [hpO h,Am Ba k.cs,Am Bb d.cs]:=(Aa SS).drew
  clear SS
  have cu: ∀{X:World} {M:List Ob},Sy w X h.blocks ([hpO h,Am Ba k.cs,Am Bb d.cs]++M)->Sy w X h.blocks [hpO h,Am Ba k.cs,Am Bb d.cs]:=fun h=>Sy.left h
  refine wp_region_held_drew (P:=prog) (S:=fun X=>Sy w X h.blocks _) (by kernel_rfl) (hS2) (fun hS0=> ?_)
  refine gp 0 (some 22) (.pointer (some ⟨q.b,0,none⟩)) rfl rfl (hS2) ?_
  refine gp 1 (some 23) (.pointer (some ⟨q.b,0,none⟩)) rfl rfl (hS2) ?_
  refine gp 2 (some 24) (.pointer (some ⟨q.b,7,none⟩)) rfl rfl (hS2) ?_
  refine gq 3 (some 25) (.pointer (some ⟨q.T.t,0,none⟩)) rfl rfl (fun X hX=>Ai 135 isAgg135 rfl rfl ((hX.hp 0 rfl).ob hj).1 rfl) (hS2) ?_
  refine gq 4 (some 26) (.agg k.cs.toArray) rfl rfl (fun X hX=>Aj (vs:=k.cs) 42 2 rwK szK rfl rfl (hX.hold 1 rfl) rfl rfl) (hS2) ?_
  refine gr (rs:= [5,9]) (gcB 5 (some 27) rfl rfl hS2 (Vd q.T k _ ((hS2.hp 0 rfl).ob hj).2.1 hk) id ?_ (Mw (v:= .agg (Ap.cs).toArray) 9 (some 13) 53 (Ap.cs) rfl rfl (by kernel_rfl) rfl (fun w=>by kernel_rfl) rfl (Nat.succ_pos _) hS2 (fun _ hZ=>cu hZ) ?_ gn))
  ·intro Ys1 hqs1
   refine gp 6 (some 21) (.tuple #[(getD q.T k).agg, .bool (q.T.find k).isSome]) rfl rfl (hqs1) ?_
   refine gp 7 (some 28) ((getD q.T k).agg) rfl rfl (hqs1) ?_
   refine gp 8 (some 29) (.bool (q.T.find k).isSome) rfl rfl (hqs1) ?_
   refine gr (rs:= [9]) (Mw (v:= .agg (Ap.cs).toArray) 9 (some 13) 53 (Ap.cs) rfl rfl (by kernel_rfl) rfl (fun w=>by kernel_rfl) rfl (Nat.succ_pos _) hqs1 (fun _ hZ=>cu hZ) ?_ gn)
   intro Ys2 Bs2 hEs2 hqs2
   clear hEs2
   simp only[nn]
   refine gr (rs:= [10]) (Lv (vs:=(getD q.T k).cs) (new:=(getD q.T k).cs) 10 3 53 rfl rfl (by kernel_rfl) rfl rfl rfl rfl (Jy _) szD hqs2 rfl (by simp[Dp,VV.cs,KK.cs,DD.cs,OB.cs,hcs,Ap,Be]) (by simp[Dp,VV.cs,KK.cs,DD.cs,OB.cs,hcs,Ap,Be]) (fun _ hZ=>cu hZ) ?_ gn)
   intro Ys3 hqs3
   refine gp 11 (some 14) (.bool (q.T.find k).isSome) rfl rfl (cu hqs3) ?_
   refine wpAnyH_done (by kernel_rfl) ?_ _
   try simp only[nn]
   have SS:=Ab hqs3
   go_wp2
   have hS3:Sy w _ h.blocks [hpO h,Am Ba k.cs,Am Bb d.cs,Am Bs2 ((getD q.T k).cs)]:=(Aa SS).drew
   clear SS
   have cu: ∀{X:World} {M:List Ob},Sy w X h.blocks ([hpO h,Am Ba k.cs,Am Bb d.cs,Am Bs2 ((getD q.T k).cs)]++M)->Sy w X h.blocks [hpO h,Am Ba k.cs,Am Bb d.cs,Am Bs2 ((getD q.T k).cs)]:=fun h=>Sy.left h
   refine wp_region_held_drew (P:=prog) (S:=fun X=>Sy w X h.blocks _) (by kernel_rfl) (hS3) (fun hS0=> ?_)
   refine gp 0 (some 31) (.pointer (some ⟨q.b,0,none⟩)) rfl rfl (hS3) ?_
   refine gp 1 (some 32) (.pointer (some ⟨q.b,0,none⟩)) rfl rfl (hS3) ?_
   refine gp 2 (some 33) (.pointer (some ⟨q.b,6,none⟩)) rfl rfl (hS3) ?_
   refine gq 3 (some 34) (.bool q.x) rfl rfl (fun X hX=>Ai 4 isAgg4 rfl rfl ((hX.hp 0 rfl).ob hj).1 rfl) (hS3) ?_
   refine gq 4 (some 35) (.agg ((getD q.T k).cs).toArray) rfl rfl (fun X hX=>Aj (vs:=(getD q.T k).cs) 53 18 rwD szD rfl rfl (hX.hold 3 rfl) rfl rfl) (hS3) ?_
   refine gq 5 (some 36) (.agg (d.cs).toArray) rfl rfl (fun X hX=>Aj (vs:=d.cs) 53 18 rwD szD rfl rfl (hX.hold 2 rfl) rfl rfl) (hS3) ?_
   refine gr (rs:= [6,11]) (gcB 6 (some 37) rfl rfl hS3 (HA _ (hT.fr hS3.fr H.low)) id ?_ (Mw (v:= .agg (Ap.cs).toArray) 11 (some 15) 53 (Ap.cs) rfl rfl (by kernel_rfl) rfl (fun w=>by kernel_rfl) rfl (Nat.succ_pos _) hS3 (fun _ hZ=>cu hZ) ?_ gn))
   ·intro Yt1 hqt1
    refine gp 7 (some 30) (.tuple #[(Du q.x (getD q.T k) d).agg, .bool false, .int .i64 (Kf (getD q.T k) d)]) rfl rfl (hqt1) ?_
    refine gp 8 (some 38) ((Du q.x (getD q.T k) d).agg) rfl rfl (hqt1) ?_
    refine gp 9 (some 39) (.bool false) rfl rfl (hqt1) ?_
    refine gp 10 (some 40) (.int .i64 (Kf (getD q.T k) d)) rfl rfl (hqt1) ?_
    refine gr (rs:= [11]) (Mw (v:= .agg (Ap.cs).toArray) 11 (some 15) 53 (Ap.cs) rfl rfl (by kernel_rfl) rfl (fun w=>by kernel_rfl) rfl (Nat.succ_pos _) hqt1 (fun _ hZ=>cu hZ) ?_ gn)
    intro Yt2 Bt2 hEt2 hqt2
    clear hEt2
    simp only[nn]
    refine gr (rs:= [12]) (Lv (vs:=(Du q.x (getD q.T k) d).cs) (new:=(Du q.x (getD q.T k) d).cs) 12 4 53 rfl rfl (by kernel_rfl) rfl rfl rfl rfl (Jy _) szD hqt2 rfl (by simp[Dp,VV.cs,KK.cs,DD.cs,OB.cs,hcs,Ap,Be]) (by simp[Dp,VV.cs,KK.cs,DD.cs,OB.cs,hcs,Ap,Be]) (fun _ hZ=>cu hZ) ?_ gn)
    intro Yt3 hqt3
    refine gp 13 (some 16) (.bool false) rfl rfl (cu hqt3) ?_
    refine gp 14 (some 17) (.int .i64 (Kf (getD q.T k) d)) rfl rfl (cu hqt3) ?_
    refine wpAnyH_done (by kernel_rfl) ?_ _
    try simp only[nn]
    have SS:=Ab hqt3
    go_wp2
    go_ret2
    exact⟨h,false,rfl,⟨hb.symm, .inl ⟨rfl,rfl⟩⟩,HP.To.end H (Aa SS) rfl⟩
   ·intro Yt4 Bt4 hEt4 hqt4
    clear hEt4
    simp only[nn]
    refine gr (rs:= [6]) (gcB 6 (some 37) rfl rfl hqt4 (HA _ (hT.fr hqt4.fr H.low)) (fun x=>cu x) ?_ gn)
    intro Yt5 hqt5
    refine gp 7 (some 30) (.tuple #[(Du q.x (getD q.T k) d).agg, .bool false, .int .i64 (Kf (getD q.T k) d)]) rfl rfl (cu hqt5) ?_
    refine gp 8 (some 38) ((Du q.x (getD q.T k) d).agg) rfl rfl (cu hqt5) ?_
    refine gp 9 (some 39) (.bool false) rfl rfl (cu hqt5) ?_
    refine gp 10 (some 40) (.int .i64 (Kf (getD q.T k) d)) rfl rfl (cu hqt5) ?_
    refine gr (rs:= [12]) (Lv (vs:=(Du q.x (getD q.T k) d).cs) (new:=(Du q.x (getD q.T k) d).cs) 12 4 53 rfl rfl (by kernel_rfl) rfl rfl rfl rfl (Jy _) szD hqt5 rfl (by simp[Dp,VV.cs,KK.cs,DD.cs,OB.cs,hcs,Ap,Be]) (by simp[Dp,VV.cs,KK.cs,DD.cs,OB.cs,hcs,Ap,Be]) (fun _ hZ=>cu hZ) ?_ gn)
    intro Yt6 hqt6
    refine gp 13 (some 16) (.bool false) rfl rfl (cu hqt6) ?_
    refine gp 14 (some 17) (.int .i64 (Kf (getD q.T k) d)) rfl rfl (cu hqt6) ?_
    refine wpAnyH_done (by kernel_rfl) ?_ _
    try simp only[nn]
    have SS:=Ab hqt6
    go_wp2
    go_ret2
    exact⟨h,false,rfl,⟨hb.symm, .inl ⟨rfl,rfl⟩⟩,HP.To.end H (Aa SS) rfl⟩
  ·intro Ys4 Bs4 hEs4 hqs4
   clear hEs4
   simp only[nn]
   refine gr (rs:= [5]) (gcB 5 (some 27) rfl rfl hqs4 (Vd q.T k _ ((hqs4.hp 0 rfl).ob hj).2.1 hk) (fun x=>cu x) ?_ gn)
   intro Ys5 hqs5
   refine gp 6 (some 21) (.tuple #[(getD q.T k).agg, .bool (q.T.find k).isSome]) rfl rfl (cu hqs5) ?_
   refine gp 7 (some 28) ((getD q.T k).agg) rfl rfl (cu hqs5) ?_
   refine gp 8 (some 29) (.bool (q.T.find k).isSome) rfl rfl (cu hqs5) ?_
   refine gr (rs:= [10]) (Lv (vs:=(getD q.T k).cs) (new:=(getD q.T k).cs) 10 3 53 rfl rfl (by kernel_rfl) rfl rfl rfl rfl (Jy _) szD hqs5 rfl (by simp[Dp,VV.cs,KK.cs,DD.cs,OB.cs,hcs,Ap,Be]) (by simp[Dp,VV.cs,KK.cs,DD.cs,OB.cs,hcs,Ap,Be]) (fun _ hZ=>cu hZ) ?_ gn)
   intro Ys6 hqs6
   refine gp 11 (some 14) (.bool (q.T.find k).isSome) rfl rfl (cu hqs6) ?_
   refine wpAnyH_done (by kernel_rfl) ?_ _
   try simp only[nn]
   have SS:=Ab hqs6
   go_wp2
   have hS3:Sy w _ h.blocks [hpO h,Am Ba k.cs,Am Bb d.cs,Am Bs4 ((getD q.T k).cs)]:=(Aa SS).drew
   clear SS
   have cu: ∀{X:World} {M:List Ob},Sy w X h.blocks ([hpO h,Am Ba k.cs,Am Bb d.cs,Am Bs4 ((getD q.T k).cs)]++M)->Sy w X h.blocks [hpO h,Am Ba k.cs,Am Bb d.cs,Am Bs4 ((getD q.T k).cs)]:=fun h=>Sy.left h
   refine wp_region_held_drew (P:=prog) (S:=fun X=>Sy w X h.blocks _) (by kernel_rfl) (hS3) (fun hS0=> ?_)
   refine gp 0 (some 31) (.pointer (some ⟨q.b,0,none⟩)) rfl rfl (hS3) ?_
   refine gp 1 (some 32) (.pointer (some ⟨q.b,0,none⟩)) rfl rfl (hS3) ?_
   refine gp 2 (some 33) (.pointer (some ⟨q.b,6,none⟩)) rfl rfl (hS3) ?_
   refine gq 3 (some 34) (.bool q.x) rfl rfl (fun X hX=>Ai 4 isAgg4 rfl rfl ((hX.hp 0 rfl).ob hj).1 rfl) (hS3) ?_
   refine gq 4 (some 35) (.agg ((getD q.T k).cs).toArray) rfl rfl (fun X hX=>Aj (vs:=(getD q.T k).cs) 53 18 rwD szD rfl rfl (hX.hold 3 rfl) rfl rfl) (hS3) ?_
   refine gq 5 (some 36) (.agg (d.cs).toArray) rfl rfl (fun X hX=>Aj (vs:=d.cs) 53 18 rwD szD rfl rfl (hX.hold 2 rfl) rfl rfl) (hS3) ?_
   refine gr (rs:= [6,11]) (gcB 6 (some 37) rfl rfl hS3 (HA _ (hT.fr hS3.fr H.low)) id ?_ (Mw (v:= .agg (Ap.cs).toArray) 11 (some 15) 53 (Ap.cs) rfl rfl (by kernel_rfl) rfl (fun w=>by kernel_rfl) rfl (Nat.succ_pos _) hS3 (fun _ hZ=>cu hZ) ?_ gn))
   ·intro Yt1 hqt1
    refine gp 7 (some 30) (.tuple #[(Du q.x (getD q.T k) d).agg, .bool false, .int .i64 (Kf (getD q.T k) d)]) rfl rfl (hqt1) ?_
    refine gp 8 (some 38) ((Du q.x (getD q.T k) d).agg) rfl rfl (hqt1) ?_
    refine gp 9 (some 39) (.bool false) rfl rfl (hqt1) ?_
    refine gp 10 (some 40) (.int .i64 (Kf (getD q.T k) d)) rfl rfl (hqt1) ?_
    refine gr (rs:= [11]) (Mw (v:= .agg (Ap.cs).toArray) 11 (some 15) 53 (Ap.cs) rfl rfl (by kernel_rfl) rfl (fun w=>by kernel_rfl) rfl (Nat.succ_pos _) hqt1 (fun _ hZ=>cu hZ) ?_ gn)
    intro Yt2 Bt2 hEt2 hqt2
    clear hEt2
    simp only[nn]
    refine gr (rs:= [12]) (Lv (vs:=(Du q.x (getD q.T k) d).cs) (new:=(Du q.x (getD q.T k) d).cs) 12 4 53 rfl rfl (by kernel_rfl) rfl rfl rfl rfl (Jy _) szD hqt2 rfl (by simp[Dp,VV.cs,KK.cs,DD.cs,OB.cs,hcs,Ap,Be]) (by simp[Dp,VV.cs,KK.cs,DD.cs,OB.cs,hcs,Ap,Be]) (fun _ hZ=>cu hZ) ?_ gn)
    intro Yt3 hqt3
    refine gp 13 (some 16) (.bool false) rfl rfl (cu hqt3) ?_
    refine gp 14 (some 17) (.int .i64 (Kf (getD q.T k) d)) rfl rfl (cu hqt3) ?_
    refine wpAnyH_done (by kernel_rfl) ?_ _
    try simp only[nn]
    have SS:=Ab hqt3
    go_wp2
    go_ret2
    exact⟨h,false,rfl,⟨hb.symm, .inl ⟨rfl,rfl⟩⟩,HP.To.end H (Aa SS) rfl⟩
   ·intro Yt4 Bt4 hEt4 hqt4
    clear hEt4
    simp only[nn]
    refine gr (rs:= [6]) (gcB 6 (some 37) rfl rfl hqt4 (HA _ (hT.fr hqt4.fr H.low)) (fun x=>cu x) ?_ gn)
    intro Yt5 hqt5
    refine gp 7 (some 30) (.tuple #[(Du q.x (getD q.T k) d).agg, .bool false, .int .i64 (Kf (getD q.T k) d)]) rfl rfl (cu hqt5) ?_
    refine gp 8 (some 38) ((Du q.x (getD q.T k) d).agg) rfl rfl (cu hqt5) ?_
    refine gp 9 (some 39) (.bool false) rfl rfl (cu hqt5) ?_
    refine gp 10 (some 40) (.int .i64 (Kf (getD q.T k) d)) rfl rfl (cu hqt5) ?_
    refine gr (rs:= [12]) (Lv (vs:=(Du q.x (getD q.T k) d).cs) (new:=(Du q.x (getD q.T k) d).cs) 12 4 53 rfl rfl (by kernel_rfl) rfl rfl rfl rfl (Jy _) szD hqt5 rfl (by simp[Dp,VV.cs,KK.cs,DD.cs,OB.cs,hcs,Ap,Be]) (by simp[Dp,VV.cs,KK.cs,DD.cs,OB.cs,hcs,Ap,Be]) (fun _ hZ=>cu hZ) ?_ gn)
    intro Yt6 hqt6
    refine gp 13 (some 16) (.bool false) rfl rfl (cu hqt6) ?_
    refine gp 14 (some 17) (.int .i64 (Kf (getD q.T k) d)) rfl rfl (cu hqt6) ?_
    refine wpAnyH_done (by kernel_rfl) ?_ _
    try simp only[nn]
    have SS:=Ab hqt6
    go_wp2
    go_ret2
    exact⟨h,false,rfl,⟨hb.symm, .inl ⟨rfl,rfl⟩⟩,HP.To.end H (Aa SS) rfl⟩
 |true=>
  simp only[hb] at HA
  have SS:=Ab H.start
  rw[Le,Vp]
  go_enter func58,ntmps58
  go_wp2_with (first|go_skip|((with_reducible show wpList ..);first|((refine bx0 81 (by rfl) rfl rfl (Aa SS) ?_);intro X0 B0 S0;replace SS:=Ab S0;clear S0;simp only[nn])|(refine zB 42 (k.cs) (by rfl) rfl rfl rfl SS ?_;clear SS;intro Xa Ba SS;simp only[nn])|(refine zB 53 (d.cs) (by rfl) rfl rfl rfl SS ?_;clear SS;intro Xb Bb SS;simp only[nn])))
  refine(Qu h j q _ ((Aa SS).hp 0 rfl) hj hl).mono ?_
  rintro _ _ ⟨rfl,rfl⟩
  go_wp2
  have hS2:Sy w _ h.blocks [hpO h,Am Ba k.cs,Am Bb d.cs]:=(Aa SS).drew
  clear SS
  have cu: ∀{X:World} {M:List Ob},Sy w X h.blocks ([hpO h,Am Ba k.cs,Am Bb d.cs]++M)->Sy w X h.blocks [hpO h,Am Ba k.cs,Am Bb d.cs]:=fun h=>Sy.left h
  refine wp_region_held_drew (P:=prog) (S:=fun X=>Sy w X h.blocks _) (by kernel_rfl) (hS2) (fun hS0=> ?_)
  refine gp 0 (some 22) (.pointer (some ⟨q.b,0,none⟩)) rfl rfl (hS2) ?_
  refine gp 1 (some 23) (.pointer (some ⟨q.b,0,none⟩)) rfl rfl (hS2) ?_
  refine gp 2 (some 24) (.pointer (some ⟨q.b,7,none⟩)) rfl rfl (hS2) ?_
  refine gq 3 (some 25) (.pointer (some ⟨q.T.t,0,none⟩)) rfl rfl (fun X hX=>Ai 135 isAgg135 rfl rfl ((hX.hp 0 rfl).ob hj).1 rfl) (hS2) ?_
  refine gq 4 (some 26) (.agg k.cs.toArray) rfl rfl (fun X hX=>Aj (vs:=k.cs) 42 2 rwK szK rfl rfl (hX.hold 1 rfl) rfl rfl) (hS2) ?_
  refine gr (rs:= [5,9]) (gcB 5 (some 27) rfl rfl hS2 (Vd q.T k _ ((hS2.hp 0 rfl).ob hj).2.1 hk) id ?_ (Mw (v:= .agg (Ap.cs).toArray) 9 (some 13) 53 (Ap.cs) rfl rfl (by kernel_rfl) rfl (fun w=>by kernel_rfl) rfl (Nat.succ_pos _) hS2 (fun _ hZ=>cu hZ) ?_ gn))
  ·intro Ys1 hqs1
   refine gp 6 (some 21) (.tuple #[(getD q.T k).agg, .bool (q.T.find k).isSome]) rfl rfl (hqs1) ?_
   refine gp 7 (some 28) ((getD q.T k).agg) rfl rfl (hqs1) ?_
   refine gp 8 (some 29) (.bool (q.T.find k).isSome) rfl rfl (hqs1) ?_
   refine gr (rs:= [9]) (Mw (v:= .agg (Ap.cs).toArray) 9 (some 13) 53 (Ap.cs) rfl rfl (by kernel_rfl) rfl (fun w=>by kernel_rfl) rfl (Nat.succ_pos _) hqs1 (fun _ hZ=>cu hZ) ?_ gn)
   intro Ys2 Bs2 hEs2 hqs2
   clear hEs2
   simp only[nn]
   refine gr (rs:= [10]) (Lv (vs:=(getD q.T k).cs) (new:=(getD q.T k).cs) 10 3 53 rfl rfl (by kernel_rfl) rfl rfl rfl rfl (Jy _) szD hqs2 rfl (by simp[Dp,VV.cs,KK.cs,DD.cs,OB.cs,hcs,Ap,Be]) (by simp[Dp,VV.cs,KK.cs,DD.cs,OB.cs,hcs,Ap,Be]) (fun _ hZ=>cu hZ) ?_ gn)
   intro Ys3 hqs3
   refine gp 11 (some 14) (.bool (q.T.find k).isSome) rfl rfl (cu hqs3) ?_
   refine wpAnyH_done (by kernel_rfl) ?_ _
   try simp only[nn]
   have SS:=Ab hqs3
   go_wp2
   have hS3:Sy w _ h.blocks [hpO h,Am Ba k.cs,Am Bb d.cs,Am Bs2 ((getD q.T k).cs)]:=(Aa SS).drew
   clear SS
   have cu: ∀{X:World} {M:List Ob},Sy w X h.blocks ([hpO h,Am Ba k.cs,Am Bb d.cs,Am Bs2 ((getD q.T k).cs)]++M)->Sy w X h.blocks [hpO h,Am Ba k.cs,Am Bb d.cs,Am Bs2 ((getD q.T k).cs)]:=fun h=>Sy.left h
   refine wp_region_held_drew (P:=prog) (S:=fun X=>Sy w X h.blocks _) (by kernel_rfl) (hS3) (fun hS0=> ?_)
   refine gp 0 (some 31) (.pointer (some ⟨q.b,0,none⟩)) rfl rfl (hS3) ?_
   refine gp 1 (some 32) (.pointer (some ⟨q.b,0,none⟩)) rfl rfl (hS3) ?_
   refine gp 2 (some 33) (.pointer (some ⟨q.b,6,none⟩)) rfl rfl (hS3) ?_
   refine gq 3 (some 34) (.bool q.x) rfl rfl (fun X hX=>Ai 4 isAgg4 rfl rfl ((hX.hp 0 rfl).ob hj).1 rfl) (hS3) ?_
   refine gq 4 (some 35) (.agg ((getD q.T k).cs).toArray) rfl rfl (fun X hX=>Aj (vs:=(getD q.T k).cs) 53 18 rwD szD rfl rfl (hX.hold 3 rfl) rfl rfl) (hS3) ?_
   refine gq 5 (some 36) (.agg (d.cs).toArray) rfl rfl (fun X hX=>Aj (vs:=d.cs) 53 18 rwD szD rfl rfl (hX.hold 2 rfl) rfl rfl) (hS3) ?_
   refine gr (rs:= [6,11]) (gcB 6 (some 37) rfl rfl hS3 (HA _ (hT.fr hS3.fr H.low)) id ?_ (Mw (v:= .agg (Ap.cs).toArray) 11 (some 15) 53 (Ap.cs) rfl rfl (by kernel_rfl) rfl (fun w=>by kernel_rfl) rfl (Nat.succ_pos _) hS3 (fun _ hZ=>cu hZ) ?_ gn))
   ·intro Yt1 hqt1
    refine gp 7 (some 30) (.tuple #[(Du q.x (getD q.T k) d).agg, .bool true, .int .i64 (Kf (getD q.T k) d)]) rfl rfl (hqt1) ?_
    refine gp 8 (some 38) ((Du q.x (getD q.T k) d).agg) rfl rfl (hqt1) ?_
    refine gp 9 (some 39) (.bool true) rfl rfl (hqt1) ?_
    refine gp 10 (some 40) (.int .i64 (Kf (getD q.T k) d)) rfl rfl (hqt1) ?_
    refine gr (rs:= [11]) (Mw (v:= .agg (Ap.cs).toArray) 11 (some 15) 53 (Ap.cs) rfl rfl (by kernel_rfl) rfl (fun w=>by kernel_rfl) rfl (Nat.succ_pos _) hqt1 (fun _ hZ=>cu hZ) ?_ gn)
    intro Yt2 Bt2 hEt2 hqt2
    clear hEt2
    simp only[nn]
    refine gr (rs:= [12]) (Lv (vs:=(Du q.x (getD q.T k) d).cs) (new:=(Du q.x (getD q.T k) d).cs) 12 4 53 rfl rfl (by kernel_rfl) rfl rfl rfl rfl (Jy _) szD hqt2 rfl (by simp[Dp,VV.cs,KK.cs,DD.cs,OB.cs,hcs,Ap,Be]) (by simp[Dp,VV.cs,KK.cs,DD.cs,OB.cs,hcs,Ap,Be]) (fun _ hZ=>cu hZ) ?_ gn)
    intro Yt3 hqt3
    refine gp 13 (some 16) (.bool true) rfl rfl (cu hqt3) ?_
    refine gp 14 (some 17) (.int .i64 (Kf (getD q.T k) d)) rfl rfl (cu hqt3) ?_
    refine wpAnyH_done (by kernel_rfl) ?_ _
    try simp only[nn]
    have SS:=Ab hqt3
    go_wp2
    have hS5:Sy w _ h.blocks [hpO h,Am Ba k.cs,Am Bb d.cs,Am Bs2 ((getD q.T k).cs),Am Bt2 ((Du q.x (getD q.T k) d).cs)]:=(Aa SS).drew
    clear SS
    refine wp_region_held_drew (P:=prog) (S:=fun X=>Holds X q.b q.cs/\Holds X Ba k.cs/\Holds X Bt2 ((Du q.x (getD q.T k) d).cs)) (by kernel_rfl) (⟨((hS5.hp 0 rfl).ob hj).1,hS5.hold 1 rfl,hS5.hold 4 rfl⟩) (fun hS0=> ?_)
    refine gp 0 (some 42) (.pointer (some ⟨q.b,0,none⟩)) rfl rfl (⟨((hS5.hp 0 rfl).ob hj).1,hS5.hold 1 rfl,hS5.hold 4 rfl⟩) ?_
    refine gp 1 (some 43) (.pointer (some ⟨q.b,0,none⟩)) rfl rfl (⟨((hS5.hp 0 rfl).ob hj).1,hS5.hold 1 rfl,hS5.hold 4 rfl⟩) ?_
    refine gp 2 (some 44) (.pointer (some ⟨q.b,7,none⟩)) rfl rfl (⟨((hS5.hp 0 rfl).ob hj).1,hS5.hold 1 rfl,hS5.hold 4 rfl⟩) ?_
    refine gq 3 (some 45) (.pointer (some ⟨q.T.t,0,none⟩)) rfl rfl (fun X hX=>Ai 135 isAgg135 rfl rfl hX.1 rfl) (⟨((hS5.hp 0 rfl).ob hj).1,hS5.hold 1 rfl,hS5.hold 4 rfl⟩) ?_
    refine gq 4 (some 46) (.agg k.cs.toArray) rfl rfl (fun X hX=>Aj (vs:=k.cs) 42 2 rwK szK rfl rfl hX.2.1 rfl rfl) (⟨((hS5.hp 0 rfl).ob hj).1,hS5.hold 1 rfl,hS5.hold 4 rfl⟩) ?_
    refine gq 5 (some 47) (.agg ((Du q.x (getD q.T k) d).cs).toArray) rfl rfl (fun X hX=>Aj (vs:=(Du q.x (getD q.T k) d).cs) 53 18 rwD szD rfl rfl hX.2.2 rfl rfl) (⟨((hS5.hp 0 rfl).ob hj).1,hS5.hold 1 rfl,hS5.hold 4 rfl⟩) ?_
    refine gr (rs:= [6]) (gc 6 (some 48) rfl rfl (Zf q.T k (Du q.x (getD q.T k) d) _ ((hS5.hp 0 rfl).ob hj).2.1 (hT.fr hS5.fr H.low).1 hk hlast (fun b hb=>by have:=(hS5.hp 0 rfl).low_tab hj b hb;omega) hg) ?_ gn)
    rintro e Yp1 ⟨rfl,T',hT2,ht2,hf2,hs2,hPT⟩
    have hI0:=hS5.hp 0 rfl
    have hO:=(hI0.ob hj).1.block (hf2.block _ ((hI0.ob hj).1.lt (by rw[Lm];omega)) (hI0.ob hj).2.2)
    have HTI:=Ab (hI0.ob hj).2.1
    have hqp:=Sy.heap hS5 0 rfl (hI0.table hj hT2 ht2 hf2 hs2)
    refine⟨_,rfl,⟨hO,hqp.hold 1 rfl,hqp.hold 4 rfl⟩, ?_⟩
    refine wpAnyH_done (by kernel_rfl) ?_ _
    try simp only[nn]
    have SS:=Ab hqp
    go_wp2
    go_ret2
    exact⟨h.tab j q T',true,rfl,⟨hb.symm, .inr ⟨rfl,T',rfl,hPT.last,Zg (Aa HTI) hg hPT⟩⟩,HP.To.end H (Aa SS) rfl⟩
   ·intro Yt4 Bt4 hEt4 hqt4
    clear hEt4
    simp only[nn]
    refine gr (rs:= [6]) (gcB 6 (some 37) rfl rfl hqt4 (HA _ (hT.fr hqt4.fr H.low)) (fun x=>cu x) ?_ gn)
    intro Yt5 hqt5
    refine gp 7 (some 30) (.tuple #[(Du q.x (getD q.T k) d).agg, .bool true, .int .i64 (Kf (getD q.T k) d)]) rfl rfl (cu hqt5) ?_
    refine gp 8 (some 38) ((Du q.x (getD q.T k) d).agg) rfl rfl (cu hqt5) ?_
    refine gp 9 (some 39) (.bool true) rfl rfl (cu hqt5) ?_
    refine gp 10 (some 40) (.int .i64 (Kf (getD q.T k) d)) rfl rfl (cu hqt5) ?_
    refine gr (rs:= [12]) (Lv (vs:=(Du q.x (getD q.T k) d).cs) (new:=(Du q.x (getD q.T k) d).cs) 12 4 53 rfl rfl (by kernel_rfl) rfl rfl rfl rfl (Jy _) szD hqt5 rfl (by simp[Dp,VV.cs,KK.cs,DD.cs,OB.cs,hcs,Ap,Be]) (by simp[Dp,VV.cs,KK.cs,DD.cs,OB.cs,hcs,Ap,Be]) (fun _ hZ=>cu hZ) ?_ gn)
    intro Yt6 hqt6
    refine gp 13 (some 16) (.bool true) rfl rfl (cu hqt6) ?_
    refine gp 14 (some 17) (.int .i64 (Kf (getD q.T k) d)) rfl rfl (cu hqt6) ?_
    refine wpAnyH_done (by kernel_rfl) ?_ _
    try simp only[nn]
    have SS:=Ab hqt6
    go_wp2
    have hS5:Sy w _ h.blocks [hpO h,Am Ba k.cs,Am Bb d.cs,Am Bs2 ((getD q.T k).cs),Am Bt4 ((Du q.x (getD q.T k) d).cs)]:=(Aa SS).drew
    clear SS
    refine wp_region_held_drew (P:=prog) (S:=fun X=>Holds X q.b q.cs/\Holds X Ba k.cs/\Holds X Bt4 ((Du q.x (getD q.T k) d).cs)) (by kernel_rfl) (⟨((hS5.hp 0 rfl).ob hj).1,hS5.hold 1 rfl,hS5.hold 4 rfl⟩) (fun hS0=> ?_)
    refine gp 0 (some 42) (.pointer (some ⟨q.b,0,none⟩)) rfl rfl (⟨((hS5.hp 0 rfl).ob hj).1,hS5.hold 1 rfl,hS5.hold 4 rfl⟩) ?_
    refine gp 1 (some 43) (.pointer (some ⟨q.b,0,none⟩)) rfl rfl (⟨((hS5.hp 0 rfl).ob hj).1,hS5.hold 1 rfl,hS5.hold 4 rfl⟩) ?_
    refine gp 2 (some 44) (.pointer (some ⟨q.b,7,none⟩)) rfl rfl (⟨((hS5.hp 0 rfl).ob hj).1,hS5.hold 1 rfl,hS5.hold 4 rfl⟩) ?_
    refine gq 3 (some 45) (.pointer (some ⟨q.T.t,0,none⟩)) rfl rfl (fun X hX=>Ai 135 isAgg135 rfl rfl hX.1 rfl) (⟨((hS5.hp 0 rfl).ob hj).1,hS5.hold 1 rfl,hS5.hold 4 rfl⟩) ?_
    refine gq 4 (some 46) (.agg k.cs.toArray) rfl rfl (fun X hX=>Aj (vs:=k.cs) 42 2 rwK szK rfl rfl hX.2.1 rfl rfl) (⟨((hS5.hp 0 rfl).ob hj).1,hS5.hold 1 rfl,hS5.hold 4 rfl⟩) ?_
    refine gq 5 (some 47) (.agg ((Du q.x (getD q.T k) d).cs).toArray) rfl rfl (fun X hX=>Aj (vs:=(Du q.x (getD q.T k) d).cs) 53 18 rwD szD rfl rfl hX.2.2 rfl rfl) (⟨((hS5.hp 0 rfl).ob hj).1,hS5.hold 1 rfl,hS5.hold 4 rfl⟩) ?_
    refine gr (rs:= [6]) (gc 6 (some 48) rfl rfl (Zf q.T k (Du q.x (getD q.T k) d) _ ((hS5.hp 0 rfl).ob hj).2.1 (hT.fr hS5.fr H.low).1 hk hlast (fun b hb=>by have:=(hS5.hp 0 rfl).low_tab hj b hb;omega) hg) ?_ gn)
    rintro e Yp1 ⟨rfl,T',hT2,ht2,hf2,hs2,hPT⟩
    have hI0:=hS5.hp 0 rfl
    have hO:=(hI0.ob hj).1.block (hf2.block _ ((hI0.ob hj).1.lt (by rw[Lm];omega)) (hI0.ob hj).2.2)
    have HTI:=Ab (hI0.ob hj).2.1
    have hqp:=Sy.heap hS5 0 rfl (hI0.table hj hT2 ht2 hf2 hs2)
    refine⟨_,rfl,⟨hO,hqp.hold 1 rfl,hqp.hold 4 rfl⟩, ?_⟩
    refine wpAnyH_done (by kernel_rfl) ?_ _
    try simp only[nn]
    have SS:=Ab hqp
    go_wp2
    go_ret2
    exact⟨h.tab j q T',true,rfl,⟨hb.symm, .inr ⟨rfl,T',rfl,hPT.last,Zg (Aa HTI) hg hPT⟩⟩,HP.To.end H (Aa SS) rfl⟩
  ·intro Ys4 Bs4 hEs4 hqs4
   clear hEs4
   simp only[nn]
   refine gr (rs:= [5]) (gcB 5 (some 27) rfl rfl hqs4 (Vd q.T k _ ((hqs4.hp 0 rfl).ob hj).2.1 hk) (fun x=>cu x) ?_ gn)
   intro Ys5 hqs5
   refine gp 6 (some 21) (.tuple #[(getD q.T k).agg, .bool (q.T.find k).isSome]) rfl rfl (cu hqs5) ?_
   refine gp 7 (some 28) ((getD q.T k).agg) rfl rfl (cu hqs5) ?_
   refine gp 8 (some 29) (.bool (q.T.find k).isSome) rfl rfl (cu hqs5) ?_
   refine gr (rs:= [10]) (Lv (vs:=(getD q.T k).cs) (new:=(getD q.T k).cs) 10 3 53 rfl rfl (by kernel_rfl) rfl rfl rfl rfl (Jy _) szD hqs5 rfl (by simp[Dp,VV.cs,KK.cs,DD.cs,OB.cs,hcs,Ap,Be]) (by simp[Dp,VV.cs,KK.cs,DD.cs,OB.cs,hcs,Ap,Be]) (fun _ hZ=>cu hZ) ?_ gn)
   intro Ys6 hqs6
   refine gp 11 (some 14) (.bool (q.T.find k).isSome) rfl rfl (cu hqs6) ?_
   refine wpAnyH_done (by kernel_rfl) ?_ _
   try simp only[nn]
   have SS:=Ab hqs6
   go_wp2
   have hS3:Sy w _ h.blocks [hpO h,Am Ba k.cs,Am Bb d.cs,Am Bs4 ((getD q.T k).cs)]:=(Aa SS).drew
   clear SS
   have cu: ∀{X:World} {M:List Ob},Sy w X h.blocks ([hpO h,Am Ba k.cs,Am Bb d.cs,Am Bs4 ((getD q.T k).cs)]++M)->Sy w X h.blocks [hpO h,Am Ba k.cs,Am Bb d.cs,Am Bs4 ((getD q.T k).cs)]:=fun h=>Sy.left h
   refine wp_region_held_drew (P:=prog) (S:=fun X=>Sy w X h.blocks _) (by kernel_rfl) (hS3) (fun hS0=> ?_)
   refine gp 0 (some 31) (.pointer (some ⟨q.b,0,none⟩)) rfl rfl (hS3) ?_
   refine gp 1 (some 32) (.pointer (some ⟨q.b,0,none⟩)) rfl rfl (hS3) ?_
   refine gp 2 (some 33) (.pointer (some ⟨q.b,6,none⟩)) rfl rfl (hS3) ?_
   refine gq 3 (some 34) (.bool q.x) rfl rfl (fun X hX=>Ai 4 isAgg4 rfl rfl ((hX.hp 0 rfl).ob hj).1 rfl) (hS3) ?_
   refine gq 4 (some 35) (.agg ((getD q.T k).cs).toArray) rfl rfl (fun X hX=>Aj (vs:=(getD q.T k).cs) 53 18 rwD szD rfl rfl (hX.hold 3 rfl) rfl rfl) (hS3) ?_
   refine gq 5 (some 36) (.agg (d.cs).toArray) rfl rfl (fun X hX=>Aj (vs:=d.cs) 53 18 rwD szD rfl rfl (hX.hold 2 rfl) rfl rfl) (hS3) ?_
   refine gr (rs:= [6,11]) (gcB 6 (some 37) rfl rfl hS3 (HA _ (hT.fr hS3.fr H.low)) id ?_ (Mw (v:= .agg (Ap.cs).toArray) 11 (some 15) 53 (Ap.cs) rfl rfl (by kernel_rfl) rfl (fun w=>by kernel_rfl) rfl (Nat.succ_pos _) hS3 (fun _ hZ=>cu hZ) ?_ gn))
   ·intro Yt1 hqt1
    refine gp 7 (some 30) (.tuple #[(Du q.x (getD q.T k) d).agg, .bool true, .int .i64 (Kf (getD q.T k) d)]) rfl rfl (hqt1) ?_
    refine gp 8 (some 38) ((Du q.x (getD q.T k) d).agg) rfl rfl (hqt1) ?_
    refine gp 9 (some 39) (.bool true) rfl rfl (hqt1) ?_
    refine gp 10 (some 40) (.int .i64 (Kf (getD q.T k) d)) rfl rfl (hqt1) ?_
    refine gr (rs:= [11]) (Mw (v:= .agg (Ap.cs).toArray) 11 (some 15) 53 (Ap.cs) rfl rfl (by kernel_rfl) rfl (fun w=>by kernel_rfl) rfl (Nat.succ_pos _) hqt1 (fun _ hZ=>cu hZ) ?_ gn)
    intro Yt2 Bt2 hEt2 hqt2
    clear hEt2
    simp only[nn]
    refine gr (rs:= [12]) (Lv (vs:=(Du q.x (getD q.T k) d).cs) (new:=(Du q.x (getD q.T k) d).cs) 12 4 53 rfl rfl (by kernel_rfl) rfl rfl rfl rfl (Jy _) szD hqt2 rfl (by simp[Dp,VV.cs,KK.cs,DD.cs,OB.cs,hcs,Ap,Be]) (by simp[Dp,VV.cs,KK.cs,DD.cs,OB.cs,hcs,Ap,Be]) (fun _ hZ=>cu hZ) ?_ gn)
    intro Yt3 hqt3
    refine gp 13 (some 16) (.bool true) rfl rfl (cu hqt3) ?_
    refine gp 14 (some 17) (.int .i64 (Kf (getD q.T k) d)) rfl rfl (cu hqt3) ?_
    refine wpAnyH_done (by kernel_rfl) ?_ _
    try simp only[nn]
    have SS:=Ab hqt3
    go_wp2
    have hS5:Sy w _ h.blocks [hpO h,Am Ba k.cs,Am Bb d.cs,Am Bs4 ((getD q.T k).cs),Am Bt2 ((Du q.x (getD q.T k) d).cs)]:=(Aa SS).drew
    clear SS
    refine wp_region_held_drew (P:=prog) (S:=fun X=>Holds X q.b q.cs/\Holds X Ba k.cs/\Holds X Bt2 ((Du q.x (getD q.T k) d).cs)) (by kernel_rfl) (⟨((hS5.hp 0 rfl).ob hj).1,hS5.hold 1 rfl,hS5.hold 4 rfl⟩) (fun hS0=> ?_)
    refine gp 0 (some 42) (.pointer (some ⟨q.b,0,none⟩)) rfl rfl (⟨((hS5.hp 0 rfl).ob hj).1,hS5.hold 1 rfl,hS5.hold 4 rfl⟩) ?_
    refine gp 1 (some 43) (.pointer (some ⟨q.b,0,none⟩)) rfl rfl (⟨((hS5.hp 0 rfl).ob hj).1,hS5.hold 1 rfl,hS5.hold 4 rfl⟩) ?_
    refine gp 2 (some 44) (.pointer (some ⟨q.b,7,none⟩)) rfl rfl (⟨((hS5.hp 0 rfl).ob hj).1,hS5.hold 1 rfl,hS5.hold 4 rfl⟩) ?_
    refine gq 3 (some 45) (.pointer (some ⟨q.T.t,0,none⟩)) rfl rfl (fun X hX=>Ai 135 isAgg135 rfl rfl hX.1 rfl) (⟨((hS5.hp 0 rfl).ob hj).1,hS5.hold 1 rfl,hS5.hold 4 rfl⟩) ?_
    refine gq 4 (some 46) (.agg k.cs.toArray) rfl rfl (fun X hX=>Aj (vs:=k.cs) 42 2 rwK szK rfl rfl hX.2.1 rfl rfl) (⟨((hS5.hp 0 rfl).ob hj).1,hS5.hold 1 rfl,hS5.hold 4 rfl⟩) ?_
    refine gq 5 (some 47) (.agg ((Du q.x (getD q.T k) d).cs).toArray) rfl rfl (fun X hX=>Aj (vs:=(Du q.x (getD q.T k) d).cs) 53 18 rwD szD rfl rfl hX.2.2 rfl rfl) (⟨((hS5.hp 0 rfl).ob hj).1,hS5.hold 1 rfl,hS5.hold 4 rfl⟩) ?_
    refine gr (rs:= [6]) (gc 6 (some 48) rfl rfl (Zf q.T k (Du q.x (getD q.T k) d) _ ((hS5.hp 0 rfl).ob hj).2.1 (hT.fr hS5.fr H.low).1 hk hlast (fun b hb=>by have:=(hS5.hp 0 rfl).low_tab hj b hb;omega) hg) ?_ gn)
    rintro e Yp1 ⟨rfl,T',hT2,ht2,hf2,hs2,hPT⟩
    have hI0:=hS5.hp 0 rfl
    have hO:=(hI0.ob hj).1.block (hf2.block _ ((hI0.ob hj).1.lt (by rw[Lm];omega)) (hI0.ob hj).2.2)
    have HTI:=Ab (hI0.ob hj).2.1
    have hqp:=Sy.heap hS5 0 rfl (hI0.table hj hT2 ht2 hf2 hs2)
    refine⟨_,rfl,⟨hO,hqp.hold 1 rfl,hqp.hold 4 rfl⟩, ?_⟩
    refine wpAnyH_done (by kernel_rfl) ?_ _
    try simp only[nn]
    have SS:=Ab hqp
    go_wp2
    go_ret2
    exact⟨h.tab j q T',true,rfl,⟨hb.symm, .inr ⟨rfl,T',rfl,hPT.last,Zg (Aa HTI) hg hPT⟩⟩,HP.To.end H (Aa SS) rfl⟩
   ·intro Yt4 Bt4 hEt4 hqt4
    clear hEt4
    simp only[nn]
    refine gr (rs:= [6]) (gcB 6 (some 37) rfl rfl hqt4 (HA _ (hT.fr hqt4.fr H.low)) (fun x=>cu x) ?_ gn)
    intro Yt5 hqt5
    refine gp 7 (some 30) (.tuple #[(Du q.x (getD q.T k) d).agg, .bool true, .int .i64 (Kf (getD q.T k) d)]) rfl rfl (cu hqt5) ?_
    refine gp 8 (some 38) ((Du q.x (getD q.T k) d).agg) rfl rfl (cu hqt5) ?_
    refine gp 9 (some 39) (.bool true) rfl rfl (cu hqt5) ?_
    refine gp 10 (some 40) (.int .i64 (Kf (getD q.T k) d)) rfl rfl (cu hqt5) ?_
    refine gr (rs:= [12]) (Lv (vs:=(Du q.x (getD q.T k) d).cs) (new:=(Du q.x (getD q.T k) d).cs) 12 4 53 rfl rfl (by kernel_rfl) rfl rfl rfl rfl (Jy _) szD hqt5 rfl (by simp[Dp,VV.cs,KK.cs,DD.cs,OB.cs,hcs,Ap,Be]) (by simp[Dp,VV.cs,KK.cs,DD.cs,OB.cs,hcs,Ap,Be]) (fun _ hZ=>cu hZ) ?_ gn)
    intro Yt6 hqt6
    refine gp 13 (some 16) (.bool true) rfl rfl (cu hqt6) ?_
    refine gp 14 (some 17) (.int .i64 (Kf (getD q.T k) d)) rfl rfl (cu hqt6) ?_
    refine wpAnyH_done (by kernel_rfl) ?_ _
    try simp only[nn]
    have SS:=Ab hqt6
    go_wp2
    have hS5:Sy w _ h.blocks [hpO h,Am Ba k.cs,Am Bb d.cs,Am Bs4 ((getD q.T k).cs),Am Bt4 ((Du q.x (getD q.T k) d).cs)]:=(Aa SS).drew
    clear SS
    refine wp_region_held_drew (P:=prog) (S:=fun X=>Holds X q.b q.cs/\Holds X Ba k.cs/\Holds X Bt4 ((Du q.x (getD q.T k) d).cs)) (by kernel_rfl) (⟨((hS5.hp 0 rfl).ob hj).1,hS5.hold 1 rfl,hS5.hold 4 rfl⟩) (fun hS0=> ?_)
    refine gp 0 (some 42) (.pointer (some ⟨q.b,0,none⟩)) rfl rfl (⟨((hS5.hp 0 rfl).ob hj).1,hS5.hold 1 rfl,hS5.hold 4 rfl⟩) ?_
    refine gp 1 (some 43) (.pointer (some ⟨q.b,0,none⟩)) rfl rfl (⟨((hS5.hp 0 rfl).ob hj).1,hS5.hold 1 rfl,hS5.hold 4 rfl⟩) ?_
    refine gp 2 (some 44) (.pointer (some ⟨q.b,7,none⟩)) rfl rfl (⟨((hS5.hp 0 rfl).ob hj).1,hS5.hold 1 rfl,hS5.hold 4 rfl⟩) ?_
    refine gq 3 (some 45) (.pointer (some ⟨q.T.t,0,none⟩)) rfl rfl (fun X hX=>Ai 135 isAgg135 rfl rfl hX.1 rfl) (⟨((hS5.hp 0 rfl).ob hj).1,hS5.hold 1 rfl,hS5.hold 4 rfl⟩) ?_
    refine gq 4 (some 46) (.agg k.cs.toArray) rfl rfl (fun X hX=>Aj (vs:=k.cs) 42 2 rwK szK rfl rfl hX.2.1 rfl rfl) (⟨((hS5.hp 0 rfl).ob hj).1,hS5.hold 1 rfl,hS5.hold 4 rfl⟩) ?_
    refine gq 5 (some 47) (.agg ((Du q.x (getD q.T k) d).cs).toArray) rfl rfl (fun X hX=>Aj (vs:=(Du q.x (getD q.T k) d).cs) 53 18 rwD szD rfl rfl hX.2.2 rfl rfl) (⟨((hS5.hp 0 rfl).ob hj).1,hS5.hold 1 rfl,hS5.hold 4 rfl⟩) ?_
    refine gr (rs:= [6]) (gc 6 (some 48) rfl rfl (Zf q.T k (Du q.x (getD q.T k) d) _ ((hS5.hp 0 rfl).ob hj).2.1 (hT.fr hS5.fr H.low).1 hk hlast (fun b hb=>by have:=(hS5.hp 0 rfl).low_tab hj b hb;omega) hg) ?_ gn)
    rintro e Yp1 ⟨rfl,T',hT2,ht2,hf2,hs2,hPT⟩
    have hI0:=hS5.hp 0 rfl
    have hO:=(hI0.ob hj).1.block (hf2.block _ ((hI0.ob hj).1.lt (by rw[Lm];omega)) (hI0.ob hj).2.2)
    have HTI:=Ab (hI0.ob hj).2.1
    have hqp:=Sy.heap hS5 0 rfl (hI0.table hj hT2 ht2 hf2 hs2)
    refine⟨_,rfl,⟨hO,hqp.hold 1 rfl,hqp.hold 4 rfl⟩, ?_⟩
    refine wpAnyH_done (by kernel_rfl) ?_ _
    try simp only[nn]
    have SS:=Ab hqp
    go_wp2
    go_ret2
    exact⟨h.tab j q T',true,rfl,⟨hb.symm, .inr ⟨rfl,T',rfl,hPT.last,Zg (Aa HTI) hg hPT⟩⟩,HP.To.end H (Aa SS) rfl⟩
