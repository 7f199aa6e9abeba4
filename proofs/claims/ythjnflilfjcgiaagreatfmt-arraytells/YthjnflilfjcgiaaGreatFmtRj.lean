import Derived.Test.YthjnflilfjcgiaaGreatFmtRi
set_option linter.all false
namespace Go.Proofs.YthjnflilfjcgiaaGreatFmt
set_option maxRecDepth 100000
set_option maxHeartbeats 0
section
open Go Go.Proofs Go.Maps Go.RowKit FM
attribute [local go_sem] mm_DefineOwnProperty mm_GetOwnProperty mm_HasProperty mm_Get mm_Delete mm_OwnPropertyKeys ta_caller
theorem own_h (h:HP) (j:Nat) (q:OB) (k:KK) (w:World) (H:h.Is w) (hl:h.l.length<=65536) (hj:h.l[j]? =some q) (hk:OkK k):Calls Tryz.prog 154 #[.pointer (some ⟨h.b,0,none⟩), .int .i64 ((j:Int)+1),k.agg] w fun e w'=>e= .returned (.tuple #[(getD q.T k).agg, .bool (q.T.find k).isSome, .nilIface])/\Below w.heap.size w w':=by
 have SS:=hide (Sy.nil w [])
 rw[kagg]
 go_enter Tryz.func154,Tryz.ntmps154
 go_wp2_with (first|go_skip|((with_reducible show wpList ..);first|(refine zB 42 (k.cs) (by rfl) rfl rfl rfl SS ?_;clear SS;intro Xa Ba SS;simp only[nn])|(refine zA 53 (zeroD.cs) (by rfl) rfl SS ?_;clear SS;intro Xb Bb SS;simp only[nn])))
 have hS:Sy w _ [] [boxO Ba k.cs,boxO Bb zeroD.cs]:=(uh SS).drew
 clear SS
 have cu: ∀{X:World} {M:List Ob},Sy w X [] ([boxO Ba k.cs]++M)->Sy w X [] [boxO Ba k.cs]:=fun h=>Sy.left h
 refine wp_region_held_drew (P:=Tryz.prog) (S:=fun X=>Sy w X [] [boxO Ba k.cs]) (by kernel_rfl) (cu hS) (fun hS0=> ?_)
 refine gp 0 (some 9) (.pointer (some ⟨h.b,0,none⟩)) rfl rfl (cu hS) ?_
 simp only[nn]
 refine gp 1 (some 10) (.int .i64 ((j:Int)+1)) rfl rfl (cu hS) ?_
 simp only[nn]
 refine gp 6 (some 15) (.pointer (some ⟨h.b,0,none⟩)) rfl rfl (cu hS) ?_
 simp only[nn]
 refine gp 7 (some 16) (.int .i64 ((j:Int)+1)) rfl rfl (cu hS) ?_
 simp only[nn]
 refine gq 8 (some 17) (.agg k.cs.toArray) rfl rfl (fun X hX=>ex_loadN (vs:=k.cs) 42 2 rwK szK rfl rfl (hX.hold 0 rfl) rfl rfl) (cu hS) ?_
 simp only[nn]
 refine gr (rs:= [2]) (gcW 2 (some 11) rfl rfl (cu hS) (at_h h j q _ (H.on hS.fr.below) hj hl) ?_ gn)
 refine gp 3 (some 12) (.pointer (some ⟨q.b,0,none⟩)) rfl rfl (cu hS) ?_
 simp only[nn]
 refine gp 4 (some 13) (.pointer (some ⟨q.b,8,none⟩)) rfl rfl (cu hS) ?_
 simp only[nn]
 refine gq 5 (some 14) (.iface 83 (.agg #[])) rfl rfl (fun X hX=>ex_load1 122 Tryz.isAgg122 rfl rfl ((H.on hX.fr.below).ob hj).1 rfl) (cu hS) ?_
 simp only[nn]
 refine gr (rs:= [9]) (gcB 9 (some 18) rfl rfl hS (ord_own h j q k _ (H.on hS.fr.below) hl hj hk) (fun x=>cu x) ?_ gn)
 intro Y2 hq2
 refine gp 10 (some 19) ((getD q.T k).agg) rfl rfl (cu hq2) ?_
 simp only[nn]
 refine gp 11 (some 20) (.bool (q.T.find k).isSome) rfl rfl (cu hq2) ?_
 simp only[nn]
 refine gp 12 (some 21) (.nilIface) rfl rfl (cu hq2) ?_
 simp only[nn]
 refine gr (rs:= [13]) (gstS (vs:=(getD q.T k).cs) (new:=(getD q.T k).cs) 13 1 53 rfl rfl (by kernel_rfl) rfl rfl rfl rfl (oneD _) szD hq2 rfl (by simp[cput,VV.cs,KK.cs,DD.cs,OB.cs,hcs,zeroD,zeroV]) (by simp[cput,VV.cs,KK.cs,DD.cs,OB.cs,hcs,zeroD,zeroV]) (fun _ hZ=>cu hZ) ?_ gn)
 intro Y3 hq3
 refine gp 14 (some 7) (.bool (q.T.find k).isSome) rfl rfl (cu hq3) ?_
 simp only[nn]
 refine gp 15 (some 8) (.nilIface) rfl rfl (cu hq3) ?_
 simp only[nn]
 refine wpAnyH_done (by kernel_rfl) ?_ _
 try simp only[nn]
 have SS:=hide hq3
 go_wp2
 refine bodyPost_ret (res_ctt rwD szD rfl rfl rfl rfl ((uh SS).hold 1 rfl) rfl) rfl ?_
 exact⟨rfl,(uh SS).fr.below⟩
end
section
open Go Go.Proofs Go.Maps Go.RowKit FM Tryz
attribute [local go_sem] mm_DefineOwnProperty mm_GetOwnProperty mm_HasProperty mm_Get mm_Delete mm_OwnPropertyKeys ta_caller
theorem ord_keys (h:HP) (j:Nat) (q:OB) (w:World) (H:h.Is w) (hl:h.l.length<=65536) (hj:h.l[j]? =some q) (hT:Tabs w) (hlast:q.T.last<4000000) (hlv:q.T.live.length<=1500000):Calls prog 153 #[.agg #[], .pointer (some ⟨h.b,0,none⟩), .int .i64 ((j:Int)+1)] w fun e w'=> ∃v,e= .returned (.tuple #[v, .nilIface])/\OwnK w' w.heap.size v (ordK ((pr q.T).map (·.1)))/\Below w.heap.size w w':=by
 have SS:=hide (Sy.nil w [])
 go_enter func153,ntmps153
 go_wp2_with (first|go_skip|((with_reducible show wpList ..);first|((refine bx0 81 (by rfl) rfl rfl (uh SS) ?_);intro X0 B0 S0;replace SS:=hide S0;clear S0;simp only[nn])))
 refine(at_h h j q _ (H.on (uh SS).fr.below) hj hl).mono ?_
 rintro _ _ ⟨rfl,rfl⟩
 have HI:=(H.on (uh SS).fr.below).ob hj
 have HO:=hide HI.1
 go_wp2_with (first|go_skip|((with_reducible show wpList ..);first|(refine rd rfl (ex_load1 135 isAgg135 rfl rfl (uh HO) rfl) ?_;simp only[nn])))
 have hb:=(uh SS).fr.below
 refine(keys28 q.T _ HI.2.1 hlast hlv (hT.on hb).1 (hT.on hb).2).mono ?_
 rintro _ Y ⟨v,rfl,hO,hbY⟩
 have HF:=hide (And.intro hO hbY)
 clear hO hbY
 go_wp2
 go_ret2
 refine⟨v,rfl, ?_,hb.trans ((uh HF).2.mono hb.size)⟩
 have e:(pr q.T).map (·.1)=q.T.live.map (·.k):=by unfold pr;rw[List.map_map];rfl
 rw[e]
 exact own_mono (uh HF).1 hb.size
def HP.tab (h:HP) (j:Nat) (q:OB) (T':TT):HP:={h with l:=h.l.set j {q with T:=T'}}
def DelP (h:HP) (j:Nat) (q:OB) (k:KK) (h1:HP) (y:Bool):Prop:=(q.T.find k=none/\h1=h/\y=true)∨((q.T.find k).isSome=true/\(getD q.T k).c=1/\h1=h/\y=false)∨((q.T.find k).isSome=true/\(getD q.T k).c≠1/\y=true/\ ∃T':TT,h1=h.tab j q T'/\T'.last=q.T.last/\pr T'=delP (pr q.T) k)
theorem ex_eqTy {o:Oper} {a:Act} {w:World} {x y:Operand} {n m:Int} (ho:o.op= .binOp .eql 51 x y 51) (hx:a.eval x= .int .i64 n) (hc:a.eval y= .int .i64 m) (h:n=m):(execOp a.eval o).run prog w= .ok (.value (.bool true)) w:=by
 unfold execOp
 simp only[ho,hx,hc]
 simp[go_sem,eqGuard,h]
theorem ex_eqTn {o:Oper} {a:Act} {w:World} {x y:Operand} {n m:Int} (ho:o.op= .binOp .eql 51 x y 51) (hx:a.eval x= .int .i64 n) (hc:a.eval y= .int .i64 m) (h:n≠m):(execOp a.eval o).run prog w= .ok (.value (.bool false)) w:=by
 unfold execOp
 simp only[ho,hx,hc]
 simp[go_sem,eqGuard,h]
theorem ord_delete (h:HP) (j:Nat) (q:OB) (k:KK) (w:World) (H:h.Is w) (hl:h.l.length<=65536) (hj:h.l[j]? =some q) (hk:OkK k) (hlast:q.T.last<100000):Calls prog 192 #[.agg #[], .pointer (some ⟨h.b,0,none⟩), .int .i64 ((j:Int)+1),k.agg] w fun e w'=> ∃(h1:HP) (y:Bool),e= .returned (.tuple #[.bool y, .nilIface])/\DelP h j q k h1 y/\h.To h1 w w':=by
 have hC:Hid (OkK k):=hide hk
 cases hfi:q.T.find k with
 |none=>
  have SS:=hide H.start
  rw[kagg]
  go_enter func192,ntmps192
  go_wp2_with (first|go_skip|((with_reducible show wpList ..);first|((refine bx0 81 (by rfl) rfl rfl (uh SS) ?_);intro X0 B0 S0;replace SS:=hide S0;clear S0;simp only[nn])|(refine zB 42 (k.cs) (by rfl) rfl rfl rfl SS ?_;clear SS;intro Xa Ba SS;simp only[nn])|(refine zL (k.cs) 42 2 1 rwK szK (by rfl) rfl rfl SS rfl rfl rfl ?_;simp only[nn])))
  have T0:h.To h w _:=HP.To.end H (uh SS) rfl
  refine(own_h h j q k _ ((uh SS).hp 0 rfl) hl hj hk).mono ?_
  rintro _ Y1 ⟨rfl,hb1⟩
  replace SS:=hide ((uh SS).on hb1)
  clear hb1 T0
  rw[hfi]
  go_wp2_with (first|go_skip|((with_reducible show wpList ..);first|(refine zA 53 (zeroD.cs) (by rfl) rfl SS ?_;clear SS;intro Xb Bb SS;simp only[nn])|(refine zS ((getD q.T k).cs) 2 53 (by rfl) rfl rfl rfl rfl (oneD _) szD SS rfl ?_;clear SS;intro Xz SS;simp only[nn])))
  go_ret2
  exact⟨h,true,rfl, .inl ⟨hfi,rfl,rfl⟩,HP.To.end H (uh SS) rfl⟩
 |some r=>
  by_cases hc:(getD q.T k).c=1
  ·have SS:=hide H.start
   rw[kagg]
   go_enter func192,ntmps192
   go_wp2_with (first|go_skip|((with_reducible show wpList ..);first|((refine bx0 81 (by rfl) rfl rfl (uh SS) ?_);intro X0 B0 S0;replace SS:=hide S0;clear S0;simp only[nn])|(refine zB 42 (k.cs) (by rfl) rfl rfl rfl SS ?_;clear SS;intro Xa Ba SS;simp only[nn])|(refine zL (k.cs) 42 2 1 rwK szK (by rfl) rfl rfl SS rfl rfl rfl ?_;simp only[nn])))
   have T0:h.To h w _:=HP.To.end H (uh SS) rfl
   refine(own_h h j q k _ ((uh SS).hp 0 rfl) hl hj hk).mono ?_
   rintro _ Y1 ⟨rfl,hb1⟩
   replace SS:=hide ((uh SS).on hb1)
   clear hb1 T0
   rw[hfi]
   go_wp2_with (first|go_skip|((with_reducible show wpList ..);first|(refine zA 53 (zeroD.cs) (by rfl) rfl SS ?_;clear SS;intro Xb Bb SS;simp only[nn])|(refine zS ((getD q.T k).cs) 2 53 (by rfl) rfl rfl rfl rfl (oneD _) szD SS rfl ?_;clear SS;intro Xz SS;simp only[nn])|(refine rd rfl (ex_load1 51 isAgg51 rfl rfl ((uh SS).hold 2 rfl) rfl) ?_;simp only[nn])|(refine rd rfl (ex_eqTy rfl rfl rfl hc) ?_;simp only[nn])))
   go_ret2
   exact⟨h,false,rfl, .inr (.inl ⟨by rw[hfi];rfl,hc,rfl,rfl⟩),HP.To.end H (uh SS) rfl⟩
  ·have SS:=hide H.start
   rw[kagg]
   go_enter func192,ntmps192
   go_wp2_with (first|go_skip|((with_reducible show wpList ..);first|((refine bx0 81 (by rfl) rfl rfl (uh SS) ?_);intro X0 B0 S0;replace SS:=hide S0;clear S0;simp only[nn])|(refine zB 42 (k.cs) (by rfl) rfl rfl rfl SS ?_;clear SS;intro Xa Ba SS;simp only[nn])|(refine zL (k.cs) 42 2 1 rwK szK (by rfl) rfl rfl SS rfl rfl rfl ?_;simp only[nn])))
   have T0:h.To h w _:=HP.To.end H (uh SS) rfl
   refine(own_h h j q k _ ((uh SS).hp 0 rfl) hl hj hk).mono ?_
   rintro _ Y1 ⟨rfl,hb1⟩
   replace SS:=hide ((uh SS).on hb1)
   clear hb1 T0
   rw[hfi]
   go_wp2_with (first|go_skip|((with_reducible show wpList ..);first|(refine zA 53 (zeroD.cs) (by rfl) rfl SS ?_;clear SS;intro Xb Bb SS;simp only[nn])|(refine zS ((getD q.T k).cs) 2 53 (by rfl) rfl rfl rfl rfl (oneD _) szD SS rfl ?_;clear SS;intro Xz SS;simp only[nn])|(refine rd rfl (ex_load1 51 isAgg51 rfl rfl ((uh SS).hold 2 rfl) rfl) ?_;simp only[nn])|(refine rd rfl (ex_eqTn rfl rfl rfl hc) ?_;simp only[nn])))
   have hS:Sy w _ h.blocks [hpO h,boxO Ba k.cs,boxO Bb (cput zeroD.cs 0 (getD q.T k).cs)]:=(uh SS).drew
   clear SS
   refine wp_region_held_drew (P:=prog) (S:=fun _=>True) (by kernel_rfl) (trivial) (fun hS0=> ?_)
   refine gp 0 (some 29) (.pointer (some ⟨h.b,0,none⟩)) rfl rfl (trivial) ?_
   simp only[nn]
   refine gp 1 (some 30) (.int .i64 ((j:Int)+1)) rfl rfl (trivial) ?_
   simp only[nn]
   refine gr (rs:= [2,6]) (gc 2 (some 31) rfl rfl (at_h h j q _ (hS.hp 0 rfl) hj hl) ?_ (gv 6 (some 35) rfl rfl (ex_loadN (vs:=k.cs) 42 2 rwK szK rfl rfl (hS.hold 1 rfl) rfl rfl) (trivial) ?_ gn))
   ·rintro e Y1 ⟨rfl,rfl⟩
    refine⟨_,rfl,trivial, ?_⟩
    refine gp 3 (some 32) (.pointer (some ⟨q.b,0,none⟩)) rfl rfl (trivial) ?_
    simp only[nn]
    refine gp 4 (some 33) (.pointer (some ⟨q.b,7,none⟩)) rfl rfl (trivial) ?_
    simp only[nn]
    refine gr (rs:= [5,6]) (gv 5 (some 34) rfl rfl (ex_load1 135 isAgg135 rfl rfl ((hS.hp 0 rfl).ob hj).1 rfl) (trivial) ?_ (gv 6 (some 35) rfl rfl (ex_loadN (vs:=k.cs) 42 2 rwK szK rfl rfl (hS.hold 1 rfl) rfl rfl) (trivial) ?_ gn))
    ·simp only[nn]
     refine gr (rs:= [6]) (gv 6 (some 35) rfl rfl (ex_loadN (vs:=k.cs) 42 2 rwK szK rfl rfl (hS.hold 1 rfl) rfl rfl) (trivial) ?_ gn)
     simp only[nn]
     refine gr (rs:= [7]) (gc 7 (some 36) rfl rfl (delete14 q.T k _ ((hS.hp 0 rfl).ob hj).2.1 hk hlast) ?_ gn)
     rintro e Y4 ⟨rfl,T',hT4,ht4,hla4,hf4,hs4,hlv4⟩
     have hq4:=Sy.heap hS 0 rfl ((hS.hp 0 rfl).table hj hT4 ht4 hf4 hs4)
     refine⟨_,rfl,trivial, ?_⟩
     refine wpAnyH_done (by kernel_rfl) ?_ _
     try simp only[nn]
     have SS:=hide hq4
     have HP_:=hide (And.intro hla4 hlv4)
     clear hla4 hlv4
     go_wp2
     go_ret2
     exact⟨h.tab j q T',true,rfl, .inr (.inr ⟨by rw[hfi];rfl,hc,rfl,T',rfl,(uh HP_).1,pr_del (uh HP_).2⟩),HP.To.end H (uh SS) rfl⟩
    ·simp only[nn]
     refine gr (rs:= [5]) (gv 5 (some 34) rfl rfl (ex_load1 135 isAgg135 rfl rfl ((hS.hp 0 rfl).ob hj).1 rfl) (trivial) ?_ gn)
     simp only[nn]
     refine gr (rs:= [7]) (gc 7 (some 36) rfl rfl (delete14 q.T k _ ((hS.hp 0 rfl).ob hj).2.1 hk hlast) ?_ gn)
     rintro e Y7 ⟨rfl,T',hT7,ht7,hla7,hf7,hs7,hlv7⟩
     have hq7:=Sy.heap hS 0 rfl ((hS.hp 0 rfl).table hj hT7 ht7 hf7 hs7)
     refine⟨_,rfl,trivial, ?_⟩
     refine wpAnyH_done (by kernel_rfl) ?_ _
     try simp only[nn]
     have SS:=hide hq7
     have HP_:=hide (And.intro hla7 hlv7)
     clear hla7 hlv7
     go_wp2
     go_ret2
     exact⟨h.tab j q T',true,rfl, .inr (.inr ⟨by rw[hfi];rfl,hc,rfl,T',rfl,(uh HP_).1,pr_del (uh HP_).2⟩),HP.To.end H (uh SS) rfl⟩
   ·simp only[nn]
    refine gr (rs:= [2]) (gc 2 (some 31) rfl rfl (at_h h j q _ (hS.hp 0 rfl) hj hl) ?_ gn)
    rintro e Y9 ⟨rfl,rfl⟩
    refine⟨_,rfl,trivial, ?_⟩
    refine gp 3 (some 32) (.pointer (some ⟨q.b,0,none⟩)) rfl rfl (trivial) ?_
    simp only[nn]
    refine gp 4 (some 33) (.pointer (some ⟨q.b,7,none⟩)) rfl rfl (trivial) ?_
    simp only[nn]
    refine gr (rs:= [5]) (gv 5 (some 34) rfl rfl (ex_load1 135 isAgg135 rfl rfl ((hS.hp 0 rfl).ob hj).1 rfl) (trivial) ?_ gn)
    simp only[nn]
    refine gr (rs:= [7]) (gc 7 (some 36) rfl rfl (delete14 q.T k _ ((hS.hp 0 rfl).ob hj).2.1 hk hlast) ?_ gn)
    rintro e Y11 ⟨rfl,T',hT11,ht11,hla11,hf11,hs11,hlv11⟩
    have hq11:=Sy.heap hS 0 rfl ((hS.hp 0 rfl).table hj hT11 ht11 hf11 hs11)
    refine⟨_,rfl,trivial, ?_⟩
    refine wpAnyH_done (by kernel_rfl) ?_ _
    try simp only[nn]
    have SS:=hide hq11
    have HP_:=hide (And.intro hla11 hlv11)
    clear hla11 hlv11
    go_wp2
    go_ret2
    exact⟨h.tab j q T',true,rfl, .inr (.inr ⟨by rw[hfi];rfl,hc,rfl,T',rfl,(uh HP_).1,pr_del (uh HP_).2⟩),HP.To.end H (uh SS) rfl⟩
