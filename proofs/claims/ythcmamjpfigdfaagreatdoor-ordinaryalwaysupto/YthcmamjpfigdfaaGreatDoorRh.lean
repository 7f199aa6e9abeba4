import Derived.Test.YthcmamjpfigdfaaGreatDoorRg
set_option linter.all false
namespace Go.Proofs.YthcmamjpfigdfaaGreatDoor
set_option maxRecDepth 100000
set_option maxHeartbeats 0
section
open Go Go.Proofs Go.Maps Go.RowKit FM
attribute [local go_sem] Am Al Ar Ah Ao Ai Au Dg Df Bh Ak Az
theorem Jr (h:HP) (j:Nat) (q:OB) (k:KK) (w:World) (H:h.Is w) (hl:h.l.length<=65536) (hj:h.l[j]? =some q) (hk:OkK k):Calls Tryz.prog 210 #[.pointer (some ⟨h.b,0,none⟩), .int .i64 ((j:Int)+1),k.agg] w fun e w'=>e= .returned (.tuple #[(getD q.T k).agg, .bool (q.T.find k).isSome, .nilIface])/\Below w.heap.size w w':=by
 have SS:=Ab (Sy.nil w [])
 rw[Dj]
 go_enter Tryz.func210,Tryz.ntmps210
 go_wp2_with (first|go_skip|((with_reducible show wpList ..);first|(refine zB 37 (k.cs) (by rfl) rfl rfl rfl SS ?_;clear SS;intro Xa Ba SS;simp only[nn])|(refine zA 43 (zeroD.cs) (by rfl) rfl SS ?_;clear SS;intro Xb Bb SS;simp only[nn])))
 have hS:Sy w _ [] [Aq Ba k.cs,Aq Bb zeroD.cs]:=(Aa SS).drew
 clear SS
 have cu: ∀{X:World} {M:List Ob},Sy w X [] ([Aq Ba k.cs]++M)->Sy w X [] [Aq Ba k.cs]:=fun h=>Sy.left h
 refine wp_region_held_drew (P:=Tryz.prog) (S:=fun X=>Sy w X [] [Aq Ba k.cs]) (by kernel_rfl) (cu hS) (fun hS0=> ?_)
 refine gp 0 (some 9) (.pointer (some ⟨h.b,0,none⟩)) rfl rfl (cu hS) ?_
 refine gp 1 (some 10) (.int .i64 ((j:Int)+1)) rfl rfl (cu hS) ?_
 refine gp 6 (some 15) (.pointer (some ⟨h.b,0,none⟩)) rfl rfl (cu hS) ?_
 refine gp 7 (some 16) (.int .i64 ((j:Int)+1)) rfl rfl (cu hS) ?_
 refine gq 8 (some 17) (.agg k.cs.toArray) rfl rfl (fun X hX=>Af (vs:=k.cs) 37 2 rwK szK rfl rfl (hX.hold 0 rfl) rfl rfl) (cu hS) ?_
 refine gr (rs:= [2]) (gcW 2 (some 11) rfl rfl (cu hS) (Jq h j q _ (H.on hS.fr.below) hj hl) ?_ gn)
 refine gp 3 (some 12) (.pointer (some ⟨q.b,0,none⟩)) rfl rfl (cu hS) ?_
 refine gp 4 (some 13) (.pointer (some ⟨q.b,8,none⟩)) rfl rfl (cu hS) ?_
 refine gq 5 (some 14) (.iface 109 (.agg #[])) rfl rfl (fun X hX=>Ad 153 Tryz.isAgg153 rfl rfl ((H.on hX.fr.below).ob hj).1 rfl) (cu hS) ?_
 refine gr (rs:= [9]) (gcB 9 (some 18) rfl rfl hS (Zcb h j q k _ (H.on hS.fr.below) hl hj hk) (fun x=>cu x) ?_ gn)
 intro Y2 hq2
 refine gp 10 (some 19) ((getD q.T k).agg) rfl rfl (cu hq2) ?_
 refine gp 11 (some 20) (.bool (q.T.find k).isSome) rfl rfl (cu hq2) ?_
 refine gp 12 (some 21) (.nilIface) rfl rfl (cu hq2) ?_
 refine gr (rs:= [13]) (Nh (vs:=(getD q.T k).cs) (new:=(getD q.T k).cs) 13 1 43 rfl rfl (by kernel_rfl) rfl rfl rfl rfl (Dz _) szD hq2 rfl (by simp[Bo,VV.cs,KK.cs,DD.cs,OB.cs,hcs,zeroD,Av]) (by simp[Bo,VV.cs,KK.cs,DD.cs,OB.cs,hcs,zeroD,Av]) (fun _ hZ=>cu hZ) ?_ gn)
 intro Y3 hq3
 refine gp 14 (some 7) (.bool (q.T.find k).isSome) rfl rfl (cu hq3) ?_
 refine gp 15 (some 8) (.nilIface) rfl rfl (cu hq3) ?_
 refine dn ?_
 try simp only[nn]
 have SS:=Ab hq3
 go_wp2
 refine bodyPost_ret (Lq rwD szD rfl rfl rfl rfl ((Aa SS).hold 1 rfl) rfl) rfl ?_
 exact⟨rfl,(Aa SS).fr.below⟩
end
section
open Go Go.Proofs Go.Maps Go.RowKit FM Tryz
attribute [local go_sem] Am Al Ar Ah Ao Ai Au Dg Df Bh Ak Az
theorem Zf7 (h:HP) (j:Nat) (q:OB) (w:World) (H:h.Is w) (hl:h.l.length<=65536) (hj:h.l[j]? =some q):Calls prog 203 #[.agg #[], .pointer (some ⟨h.b,0,none⟩), .int .i64 ((j:Int)+1)] w fun e w'=>e= .returned (.tuple #[q.p.agg, .nilIface])/\Below w.heap.size w w':=by
 have SS:=Ab (Sy.nil w [])
 go_enter func203,ntmps203
 go_wp2_with (first|go_skip|((with_reducible show wpList ..);first|((refine bx0 109 (by rfl) rfl rfl (Aa SS) ?_);intro X0 B0 S0;replace SS:=Ab S0;clear S0;simp only[nn])|(refine zA 40 (Av.cs) (by rfl) rfl SS ?_;clear SS;intro Xc Bc SS;simp only[nn])))
 refine(Jq h j q _ (H.on (Aa SS).fr.below) hj hl).mono ?_
 rintro _ _ ⟨rfl,rfl⟩
 have HO:=Ab ((H.on (Aa SS).fr.below).ob hj).1
 go_wp2_with (first|go_skip|((with_reducible show wpList ..);first|(refine rd rfl (Af (vs:=q.p.cs) 40 5 rwV szV rfl rfl (Aa HO) rfl rfl) ?_)|(refine zS (q.p.cs) 0 40 (by rfl) rfl rfl rfl rfl (Ea _) szV SS rfl ?_;clear SS;intro Xz SS;simp only[nn])))
 refine bodyPost_ret (Gf rwV szV rfl rfl rfl ((Aa SS).hold 0 rfl) rfl) rfl ?_
 exact⟨rfl,(Aa SS).fr.below⟩
theorem ord_ext (h:HP) (j:Nat) (q:OB) (w:World) (H:h.Is w) (hl:h.l.length<=65536) (hj:h.l[j]? =some q):Calls prog 205 #[.agg #[], .pointer (some ⟨h.b,0,none⟩), .int .i64 ((j:Int)+1)] w fun e w'=>e= .returned (.tuple #[.bool q.x, .nilIface])/\Below w.heap.size w w':=by
 have SS:=Ab (Sy.nil w [])
 go_enter func205,ntmps205
 go_wp2_with (first|go_skip|((with_reducible show wpList ..);first|((refine bx0 109 (by rfl) rfl rfl (Aa SS) ?_);intro X0 B0 S0;replace SS:=Ab S0;clear S0;simp only[nn])))
 refine(Jq h j q _ (H.on (Aa SS).fr.below) hj hl).mono ?_
 rintro _ _ ⟨rfl,rfl⟩
 have HO:=Ab ((H.on (Aa SS).fr.below).ob hj).1
 go_wp2_with (first|go_skip|((with_reducible show wpList ..);first|(refine rd rfl (Ad 4 isAgg4 rfl rfl (Aa HO) rfl) ?_)))
 go_ret2
 exact⟨rfl,(Aa SS).fr.below⟩
theorem ord_keys (h:HP) (j:Nat) (q:OB) (w:World) (H:h.Is w) (hl:h.l.length<=65536) (hj:h.l[j]? =some q) (hT:Tabs w) (hlast:q.T.last<4000000) (hlv:q.T.live.length<=1500000):Calls prog 206 #[.agg #[], .pointer (some ⟨h.b,0,none⟩), .int .i64 ((j:Int)+1)] w fun e w'=> ∃v l9,e= .returned (.tuple #[v, .nilIface])/\OwnK w' w.heap.size v l9/\Below w.heap.size w w':=by
 have SS:=Ab (Sy.nil w [])
 go_enter func206,ntmps206
 go_wp2_with (first|go_skip|((with_reducible show wpList ..);first|((refine bx0 109 (by rfl) rfl rfl (Aa SS) ?_);intro X0 B0 S0;replace SS:=Ab S0;clear S0;simp only[nn])))
 refine(Jq h j q _ (H.on (Aa SS).fr.below) hj hl).mono ?_
 rintro _ _ ⟨rfl,rfl⟩
 have HI:=(H.on (Aa SS).fr.below).ob hj
 have HO:=Ab HI.1
 go_wp2_with (first|go_skip|((with_reducible show wpList ..);first|(refine rd rfl (Ad 151 isAgg151 rfl rfl (Aa HO) rfl) ?_)))
 have hb:=(Aa SS).fr.below
 refine(keysW q.T _ HI.2.1 hlast hlv (hT.on hb).1 (hT.on hb).2).mono ?_
 rintro _ Y ⟨v,l9,rfl,hO,hbY⟩
 have HF:=Ab (And.intro hO hbY)
 clear hO hbY
 go_wp2
 go_ret2
 refine⟨v,l9,rfl, ?_,hb.trans ((Aa HF).2.mono hb.size)⟩
 exact No (Aa HF).1 hb.size
def HP.shut (h:HP) (j:Nat) (q:OB):HP:={h with l:=h.l.set j {q with x:=false}}
theorem Zc8 (h:HP) (j:Nat) (q:OB) (w:World) (H:h.Is w) (hl:h.l.length<=65536) (hj:h.l[j]? =some q):Calls prog 207 #[.agg #[], .pointer (some ⟨h.b,0,none⟩), .int .i64 ((j:Int)+1)] w fun e w'=>e= .returned (.tuple #[.bool true, .nilIface])/\h.To (h.shut j q) w w':=by
 have SS:=Ab H.start
 go_enter func207,ntmps207
 go_wp2_with (first|go_skip|((with_reducible show wpList ..);first|((refine bx0 109 (by rfl) rfl rfl (Aa SS) ?_);intro X0 B0 S0;replace SS:=Ab S0;clear S0;simp only[nn])))
 refine(Jq h j q _ ((Aa SS).hp 0 rfl) hj hl).mono ?_
 rintro _ _ ⟨rfl,rfl⟩
 go_wp2_with (first|go_skip|((with_reducible show wpList ..);first|((refine stO (vs:= [.bool false]) (h.shut j q) (j:=j) (q:=q) (q':={q with x:=false}) 0 4 (by rfl) rfl rfl rfl rfl (by simp[Value.oneCell']) sz_b (Aa SS) rfl hj (by simp) rfl rfl rfl rfl rfl (by simp[Bo,OB.cs,VV.cs]) ?_);intro X1 S1;replace SS:=Ab S1;clear S1;simp only[nn])))
 go_ret2
 exact⟨rfl,HP.To.end H (Aa SS) rfl⟩
def HP.tab (h:HP) (j:Nat) (q:OB) (T':TT):HP:={h with l:=h.l.set j {q with T:=T'}}
def DelP (h:HP) (j:Nat) (q:OB) (k:KK) (h1:HP) (y:Bool):Prop:=(q.T.find k=none/\h1=h/\y=true)∨((q.T.find k).isSome=true/\(getD q.T k).c=1/\h1=h/\y=false)∨((q.T.find k).isSome=true/\(getD q.T k).c≠1/\y=true/\ ∃T':TT,h1=h.tab j q T'/\T'.last=q.T.last/\pr T'=Ue (pr q.T) k)
theorem Zcv {o:Oper} {a:Act} {w:World} {x y:Operand} {n m:Int} (ho:o.op= .binOp .eql 41 x y 41) (hx:a.eval x= .int .i64 n) (hc:a.eval y= .int .i64 m) (h:n=m):(execOp a.eval o).run prog w= .ok (.value (.bool true)) w:=by
 unfold execOp
 simp only[ho,hx,hc]
 simp[go_sem,eqGuard,h]
theorem On {o:Oper} {a:Act} {w:World} {x y:Operand} {n m:Int} (ho:o.op= .binOp .eql 41 x y 41) (hx:a.eval x= .int .i64 n) (hc:a.eval y= .int .i64 m) (h:n≠m):(execOp a.eval o).run prog w= .ok (.value (.bool false)) w:=by
 unfold execOp
 simp only[ho,hx,hc]
 simp[go_sem,eqGuard,h]
theorem Zd6 (h:HP) (j:Nat) (q:OB) (k:KK) (w:World) (H:h.Is w) (hl:h.l.length<=65536) (hj:h.l[j]? =some q) (hk:OkK k) (hlast:q.T.last<100000):Calls prog 200 #[.agg #[], .pointer (some ⟨h.b,0,none⟩), .int .i64 ((j:Int)+1),k.agg] w fun e w'=> ∃(h1:HP) (y:Bool),e= .returned (.tuple #[.bool y, .nilIface])/\DelP h j q k h1 y/\h.To h1 w w':=by
 have hC:Hid (OkK k):=Ab hk
 cases hfi:q.T.find k with
 |none=>
  have SS:=Ab H.start
  rw[Dj]
  go_enter func200,ntmps200
  go_wp2_with (first|go_skip|((with_reducible show wpList ..);first|((refine bx0 109 (by rfl) rfl rfl (Aa SS) ?_);intro X0 B0 S0;replace SS:=Ab S0;clear S0;simp only[nn])|(refine zB 37 (k.cs) (by rfl) rfl rfl rfl SS ?_;clear SS;intro Xa Ba SS;simp only[nn])|(refine zL (k.cs) 37 2 1 rwK szK (by rfl) rfl rfl SS rfl rfl rfl ?_;simp only[nn])))
  have T0:h.To h w _:=HP.To.end H (Aa SS) rfl
  refine(Jr h j q k _ ((Aa SS).hp 0 rfl) hl hj hk).mono ?_
  rintro _ Y1 ⟨rfl,hb1⟩
  replace SS:=Ab ((Aa SS).on hb1)
  clear hb1 T0
  rw[hfi]
  go_wp2_with (first|go_skip|((with_reducible show wpList ..);first|(refine zA 43 (zeroD.cs) (by rfl) rfl SS ?_;clear SS;intro Xb Bb SS;simp only[nn])|(refine zS ((getD q.T k).cs) 2 43 (by rfl) rfl rfl rfl rfl (Dz _) szD SS rfl ?_;clear SS;intro Xz SS;simp only[nn])))
  go_ret2
  exact⟨h,true,rfl, .inl ⟨hfi,rfl,rfl⟩,HP.To.end H (Aa SS) rfl⟩
 |some r=>
  by_cases hc:(getD q.T k).c=1
  ·have SS:=Ab H.start
   rw[Dj]
   go_enter func200,ntmps200
   go_wp2_with (first|go_skip|((with_reducible show wpList ..);first|((refine bx0 109 (by rfl) rfl rfl (Aa SS) ?_);intro X0 B0 S0;replace SS:=Ab S0;clear S0;simp only[nn])|(refine zB 37 (k.cs) (by rfl) rfl rfl rfl SS ?_;clear SS;intro Xa Ba SS;simp only[nn])|(refine zL (k.cs) 37 2 1 rwK szK (by rfl) rfl rfl SS rfl rfl rfl ?_;simp only[nn])))
   have T0:h.To h w _:=HP.To.end H (Aa SS) rfl
   refine(Jr h j q k _ ((Aa SS).hp 0 rfl) hl hj hk).mono ?_
   rintro _ Y1 ⟨rfl,hb1⟩
   replace SS:=Ab ((Aa SS).on hb1)
   clear hb1 T0
   rw[hfi]
   go_wp2_with (first|go_skip|((with_reducible show wpList ..);first|(refine zA 43 (zeroD.cs) (by rfl) rfl SS ?_;clear SS;intro Xb Bb SS;simp only[nn])|(refine zS ((getD q.T k).cs) 2 43 (by rfl) rfl rfl rfl rfl (Dz _) szD SS rfl ?_;clear SS;intro Xz SS;simp only[nn])|(refine rd rfl (Ad 41 isAgg41 rfl rfl ((Aa SS).hold 2 rfl) rfl) ?_)|(refine rd rfl (Zcv rfl rfl rfl hc) ?_)))
   go_ret2
   exact⟨h,false,rfl, .inr (.inl ⟨by rw[hfi];rfl,hc,rfl,rfl⟩),HP.To.end H (Aa SS) rfl⟩
  ·have SS:=Ab H.start
   rw[Dj]
   go_enter func200,ntmps200
   go_wp2_with (first|go_skip|((with_reducible show wpList ..);first|((refine bx0 109 (by rfl) rfl rfl (Aa SS) ?_);intro X0 B0 S0;replace SS:=Ab S0;clear S0;simp only[nn])|(refine zB 37 (k.cs) (by rfl) rfl rfl rfl SS ?_;clear SS;intro Xa Ba SS;simp only[nn])|(refine zL (k.cs) 37 2 1 rwK szK (by rfl) rfl rfl SS rfl rfl rfl ?_;simp only[nn])))
   have T0:h.To h w _:=HP.To.end H (Aa SS) rfl
   refine(Jr h j q k _ ((Aa SS).hp 0 rfl) hl hj hk).mono ?_
   rintro _ Y1 ⟨rfl,hb1⟩
   replace SS:=Ab ((Aa SS).on hb1)
   clear hb1 T0
   rw[hfi]
   go_wp2_with (first|go_skip|((with_reducible show wpList ..);first|(refine zA 43 (zeroD.cs) (by rfl) rfl SS ?_;clear SS;intro Xb Bb SS;simp only[nn])|(refine zS ((getD q.T k).cs) 2 43 (by rfl) rfl rfl rfl rfl (Dz _) szD SS rfl ?_;clear SS;intro Xz SS;simp only[nn])|(refine rd rfl (Ad 41 isAgg41 rfl rfl ((Aa SS).hold 2 rfl) rfl) ?_)|(refine rd rfl (On rfl rfl rfl hc) ?_)))
   have hS:Sy w _ h.blocks [hpO h,Aq Ba k.cs,Aq Bb (Bo zeroD.cs 0 (getD q.T k).cs)]:=(Aa SS).drew
   clear SS
   refine wp_region_held_drew (P:=prog) (S:=fun _=>True) (by kernel_rfl) (trivial) (fun hS0=> ?_)
   refine gp 0 (some 29) (.pointer (some ⟨h.b,0,none⟩)) rfl rfl (trivial) ?_
   refine gp 1 (some 30) (.int .i64 ((j:Int)+1)) rfl rfl (trivial) ?_
   refine gr (rs:= [2,6]) (gc 2 (some 31) rfl rfl (Jq h j q _ (hS.hp 0 rfl) hj hl) ?_ (gv 6 (some 35) rfl rfl (Af (vs:=k.cs) 37 2 rwK szK rfl rfl (hS.hold 1 rfl) rfl rfl) (trivial) ?_ gn))
   ·rintro e Y1 ⟨rfl,rfl⟩
    refine⟨_,rfl,trivial, ?_⟩
    refine gp 3 (some 32) (.pointer (some ⟨q.b,0,none⟩)) rfl rfl (trivial) ?_
    refine gp 4 (some 33) (.pointer (some ⟨q.b,7,none⟩)) rfl rfl (trivial) ?_
    refine gr (rs:= [5,6]) (gv 5 (some 34) rfl rfl (Ad 151 isAgg151 rfl rfl ((hS.hp 0 rfl).ob hj).1 rfl) (trivial) ?_ (gv 6 (some 35) rfl rfl (Af (vs:=k.cs) 37 2 rwK szK rfl rfl (hS.hold 1 rfl) rfl rfl) (trivial) ?_ gn))
    ·simp only[nn]
     refine gr (rs:= [6]) (gv 6 (some 35) rfl rfl (Af (vs:=k.cs) 37 2 rwK szK rfl rfl (hS.hold 1 rfl) rfl rfl) (trivial) ?_ gn)
     simp only[nn]
     refine gr (rs:= [7]) (gc 7 (some 36) rfl rfl (ZaW q.T k _ ((hS.hp 0 rfl).ob hj).2.1 hk hlast) ?_ gn)
     rintro e Y4 ⟨rfl,T',hT4,ht4,hla4,hf4,hs4,hlv4⟩
     have hq4:=Sy.heap hS 0 rfl ((hS.hp 0 rfl).table hj hT4 ht4 hf4 hs4)
     refine⟨_,rfl,trivial, ?_⟩
     refine dn ?_
     try simp only[nn]
     have SS:=Ab hq4
     have HP_:=Ab (And.intro hla4 hlv4)
     clear hla4 hlv4
     go_wp2
     go_ret2
     exact⟨h.tab j q T',true,rfl, .inr (.inr ⟨by rw[hfi];rfl,hc,rfl,T',rfl,(Aa HP_).1,Zd3 (Aa HP_).2⟩),HP.To.end H (Aa SS) rfl⟩
    ·simp only[nn]
     refine gr (rs:= [5]) (gv 5 (some 34) rfl rfl (Ad 151 isAgg151 rfl rfl ((hS.hp 0 rfl).ob hj).1 rfl) (trivial) ?_ gn)
     simp only[nn]
     refine gr (rs:= [7]) (gc 7 (some 36) rfl rfl (ZaW q.T k _ ((hS.hp 0 rfl).ob hj).2.1 hk hlast) ?_ gn)
     rintro e Y7 ⟨rfl,T',hT7,ht7,hla7,hf7,hs7,hlv7⟩
     have hq7:=Sy.heap hS 0 rfl ((hS.hp 0 rfl).table hj hT7 ht7 hf7 hs7)
     refine⟨_,rfl,trivial, ?_⟩
     refine dn ?_
     try simp only[nn]
     have SS:=Ab hq7
     have HP_:=Ab (And.intro hla7 hlv7)
     clear hla7 hlv7
     go_wp2
     go_ret2
     exact⟨h.tab j q T',true,rfl, .inr (.inr ⟨by rw[hfi];rfl,hc,rfl,T',rfl,(Aa HP_).1,Zd3 (Aa HP_).2⟩),HP.To.end H (Aa SS) rfl⟩
   ·simp only[nn]
    refine gr (rs:= [2]) (gc 2 (some 31) rfl rfl (Jq h j q _ (hS.hp 0 rfl) hj hl) ?_ gn)
    rintro e Y9 ⟨rfl,rfl⟩
    refine⟨_,rfl,trivial, ?_⟩
    refine gp 3 (some 32) (.pointer (some ⟨q.b,0,none⟩)) rfl rfl (trivial) ?_
    refine gp 4 (some 33) (.pointer (some ⟨q.b,7,none⟩)) rfl rfl (trivial) ?_
    refine gr (rs:= [5]) (gv 5 (some 34) rfl rfl (Ad 151 isAgg151 rfl rfl ((hS.hp 0 rfl).ob hj).1 rfl) (trivial) ?_ gn)
    simp only[nn]
    refine gr (rs:= [7]) (gc 7 (some 36) rfl rfl (ZaW q.T k _ ((hS.hp 0 rfl).ob hj).2.1 hk hlast) ?_ gn)
    rintro e Y11 ⟨rfl,T',hT11,ht11,hla11,hf11,hs11,hlv11⟩
    have hq11:=Sy.heap hS 0 rfl ((hS.hp 0 rfl).table hj hT11 ht11 hf11 hs11)
    refine⟨_,rfl,trivial, ?_⟩
    refine dn ?_
    try simp only[nn]
    have SS:=Ab hq11
    have HP_:=Ab (And.intro hla11 hlv11)
    clear hla11 hlv11
    go_wp2
    go_ret2
    exact⟨h.tab j q T',true,rfl, .inr (.inr ⟨by rw[hfi];rfl,hc,rfl,T',rfl,(Aa HP_).1,Zd3 (Aa HP_).2⟩),HP.To.end H (Aa SS) rfl⟩
def DefP (h:HP) (j:Nat) (q:OB) (k:KK) (d:DD) (h1:HP) (y:Bool):Prop:=y=Nj q.x (getD q.T k) d/\((y=false/\h1=h)∨(y=true/\ ∃T':TT,h1=h.tab j q T'/\T'.last<=q.T.last+1/\pr T'=Oh (pr q.T) k (Dl q.x (getD q.T k) d)))
theorem Zb3 (T:TT) (k:KK) (d:DD) (w:World) (hT:T.Is w) (hU:Lib.Utf8Tabs 1 2 w) (hk:OkK k) (hl:T.last<4000000) (hTT: ∀b∈T.blocks,3<=b) (hg:goodK k=true):Calls prog 108 #[.pointer (some ⟨T.t,0,none⟩),k.agg,d.agg] w fun e w'=>e= .returned (.int .i64 0)/\ ∃T':TT,T'.Is w'/\T'.t=T.t/\Fr w w' T.blocks/\(∀b∈T'.blocks,b∈T.blocks∨w.heap.size<=b)/\PutT T k d T':=by
 refine(put12 T k d w hT hU hk hl hTT).mono (fun e w' hh=> ?_)
 obtain⟨h1,T',a,b,c,d2,e2⟩:=hh
 exact⟨by rw[h1,if_pos hg],T',a,b,c,d2,e2⟩
theorem Rm (h:HP) (j:Nat) (q:OB) (k:KK) (d:DD) (w:World) (H:h.Is w) (hl:h.l.length<=65536) (hj:h.l[j]? =some q) (hT:Tabs w) (hk:OkK k) (hg:goodK k=true) (hFn:FD (getD q.T k)) (hFd:FD d) (hlast:q.T.last<4000000):Calls prog 60 #[.agg #[], .pointer (some ⟨h.b,0,none⟩), .int .i64 ((j:Int)+1),k.agg,d.agg] w fun e w'=> ∃(h1:HP) (y:Bool),e= .returned (.tuple #[.bool y, .nilIface])/\DefP h j q k d h1 y/\h.To h1 w w':=by
 have HA:=fun (w:World) (hT:Tabs w)=>ZgG q.x (getD q.T k) d hFn hFd w hT.1
 cases hb:Nj q.x (getD q.T k) d with
 |false=>
  simp only[hb] at HA
  have SS:=Ab H.start
  rw[Dj,Mi]
  go_enter func60,ntmps60
  go_wp2_with (first|go_skip|((with_reducible show wpList ..);first|((refine bx0 109 (by rfl) rfl rfl (Aa SS) ?_);intro X0 B0 S0;replace SS:=Ab S0;clear S0;simp only[nn])|(refine zB 37 (k.cs) (by rfl) rfl rfl rfl SS ?_;clear SS;intro Xa Ba SS;simp only[nn])|(refine zB 43 (d.cs) (by rfl) rfl rfl rfl SS ?_;clear SS;intro Xb Bb SS;simp only[nn])))
  refine(Jq h j q _ ((Aa SS).hp 0 rfl) hj hl).mono ?_
  rintro _ _ ⟨rfl,rfl⟩
  go_wp2
  have hS2:Sy w _ h.blocks [hpO h,Aq Ba k.cs,Aq Bb d.cs]:=(Aa SS).drew
  clear SS
  have cu: ∀{X:World} {M:List Ob},Sy w X h.blocks ([hpO h,Aq Ba k.cs,Aq Bb d.cs]++M)->Sy w X h.blocks [hpO h,Aq Ba k.cs,Aq Bb d.cs]:=fun h=>Sy.left h
  refine wp_region_held_drew (P:=prog) (S:=fun X=>Sy w X h.blocks _) (by kernel_rfl) (hS2) (fun hS0=> ?_)
  refine gp 0 (some 22) (.pointer (some ⟨q.b,0,none⟩)) rfl rfl (hS2) ?_
  refine gp 1 (some 23) (.pointer (some ⟨q.b,0,none⟩)) rfl rfl (hS2) ?_
  refine gp 2 (some 24) (.pointer (some ⟨q.b,7,none⟩)) rfl rfl (hS2) ?_
  refine gq 3 (some 25) (.pointer (some ⟨q.T.t,0,none⟩)) rfl rfl (fun X hX=>Ad 151 isAgg151 rfl rfl ((hX.hp 0 rfl).ob hj).1 rfl) (hS2) ?_
  refine gq 4 (some 26) (.agg k.cs.toArray) rfl rfl (fun X hX=>Af (vs:=k.cs) 37 2 rwK szK rfl rfl (hX.hold 1 rfl) rfl rfl) (hS2) ?_
  refine gr (rs:= [5,9]) (gcB 5 (some 27) rfl rfl hS2 (ZaI q.T k _ ((hS2.hp 0 rfl).ob hj).2.1 hk) id ?_ (Oj (v:= .agg (zeroD.cs).toArray) 9 (some 13) 43 (zeroD.cs) rfl rfl (by kernel_rfl) rfl (fun w=>by kernel_rfl) rfl (Nat.succ_pos _) hS2 (fun _ hZ=>cu hZ) ?_ gn))
  ·intro Ys1 hqs1
   refine gp 6 (some 21) (.tuple #[(getD q.T k).agg, .bool (q.T.find k).isSome]) rfl rfl (hqs1) ?_
   refine gp 7 (some 28) ((getD q.T k).agg) rfl rfl (hqs1) ?_
   refine gp 8 (some 29) (.bool (q.T.find k).isSome) rfl rfl (hqs1) ?_
   refine gr (rs:= [9]) (Oj (v:= .agg (zeroD.cs).toArray) 9 (some 13) 43 (zeroD.cs) rfl rfl (by kernel_rfl) rfl (fun w=>by kernel_rfl) rfl (Nat.succ_pos _) hqs1 (fun _ hZ=>cu hZ) ?_ gn)
   intro Ys2 Bs2 hEs2 hqs2
   clear hEs2
   simp only[nn]
   refine gr (rs:= [10]) (Nh (vs:=(getD q.T k).cs) (new:=(getD q.T k).cs) 10 3 43 rfl rfl (by kernel_rfl) rfl rfl rfl rfl (Dz _) szD hqs2 rfl (by simp[Bo,VV.cs,KK.cs,DD.cs,OB.cs,hcs,zeroD,Av]) (by simp[Bo,VV.cs,KK.cs,DD.cs,OB.cs,hcs,zeroD,Av]) (fun _ hZ=>cu hZ) ?_ gn)
   intro Ys3 hqs3
   refine gp 11 (some 14) (.bool (q.T.find k).isSome) rfl rfl (cu hqs3) ?_
   refine dn ?_
   try simp only[nn]
   have SS:=Ab hqs3
   go_wp2
   have hS3:Sy w _ h.blocks [hpO h,Aq Ba k.cs,Aq Bb d.cs,Aq Bs2 ((getD q.T k).cs)]:=(Aa SS).drew
   clear SS
   have cu: ∀{X:World} {M:List Ob},Sy w X h.blocks ([hpO h,Aq Ba k.cs,Aq Bb d.cs,Aq Bs2 ((getD q.T k).cs)]++M)->Sy w X h.blocks [hpO h,Aq Ba k.cs,Aq Bb d.cs,Aq Bs2 ((getD q.T k).cs)]:=fun h=>Sy.left h
   refine wp_region_held_drew (P:=prog) (S:=fun X=>Sy w X h.blocks _) (by kernel_rfl) (hS3) (fun hS0=> ?_)
   refine gp 0 (some 31) (.pointer (some ⟨q.b,0,none⟩)) rfl rfl (hS3) ?_
   refine gp 1 (some 32) (.pointer (some ⟨q.b,0,none⟩)) rfl rfl (hS3) ?_
   refine gp 2 (some 33) (.pointer (some ⟨q.b,6,none⟩)) rfl rfl (hS3) ?_
   refine gq 3 (some 34) (.bool q.x) rfl rfl (fun X hX=>Ad 4 isAgg4 rfl rfl ((hX.hp 0 rfl).ob hj).1 rfl) (hS3) ?_
   refine gq 4 (some 35) (.agg ((getD q.T k).cs).toArray) rfl rfl (fun X hX=>Af (vs:=(getD q.T k).cs) 43 18 rwD szD rfl rfl (hX.hold 3 rfl) rfl rfl) (hS3) ?_
   refine gq 5 (some 36) (.agg (d.cs).toArray) rfl rfl (fun X hX=>Af (vs:=d.cs) 43 18 rwD szD rfl rfl (hX.hold 2 rfl) rfl rfl) (hS3) ?_
   refine gr (rs:= [6,11]) (gcB 6 (some 37) rfl rfl hS3 (HA _ (hT.fr hS3.fr H.low)) id ?_ (Oj (v:= .agg (zeroD.cs).toArray) 11 (some 15) 43 (zeroD.cs) rfl rfl (by kernel_rfl) rfl (fun w=>by kernel_rfl) rfl (Nat.succ_pos _) hS3 (fun _ hZ=>cu hZ) ?_ gn))
   ·intro Yt1 hqt1
    refine gp 7 (some 30) (.tuple #[(Dl q.x (getD q.T k) d).agg, .bool false, .int .i64 (Jc (getD q.T k) d)]) rfl rfl (hqt1) ?_
    refine gp 8 (some 38) ((Dl q.x (getD q.T k) d).agg) rfl rfl (hqt1) ?_
    refine gp 9 (some 39) (.bool false) rfl rfl (hqt1) ?_
    refine gp 10 (some 40) (.int .i64 (Jc (getD q.T k) d)) rfl rfl (hqt1) ?_
    refine gr (rs:= [11]) (Oj (v:= .agg (zeroD.cs).toArray) 11 (some 15) 43 (zeroD.cs) rfl rfl (by kernel_rfl) rfl (fun w=>by kernel_rfl) rfl (Nat.succ_pos _) hqt1 (fun _ hZ=>cu hZ) ?_ gn)
    intro Yt2 Bt2 hEt2 hqt2
    clear hEt2
    simp only[nn]
    refine gr (rs:= [12]) (Nh (vs:=(Dl q.x (getD q.T k) d).cs) (new:=(Dl q.x (getD q.T k) d).cs) 12 4 43 rfl rfl (by kernel_rfl) rfl rfl rfl rfl (Dz _) szD hqt2 rfl (by simp[Bo,VV.cs,KK.cs,DD.cs,OB.cs,hcs,zeroD,Av]) (by simp[Bo,VV.cs,KK.cs,DD.cs,OB.cs,hcs,zeroD,Av]) (fun _ hZ=>cu hZ) ?_ gn)
    intro Yt3 hqt3
    refine gp 13 (some 16) (.bool false) rfl rfl (cu hqt3) ?_
    refine gp 14 (some 17) (.int .i64 (Jc (getD q.T k) d)) rfl rfl (cu hqt3) ?_
    refine dn ?_
    try simp only[nn]
    have SS:=Ab hqt3
    go_wp2
    go_ret2
    exact⟨h,false,rfl,⟨hb.symm, .inl ⟨rfl,rfl⟩⟩,HP.To.end H (Aa SS) rfl⟩
   ·intro Yt4 Bt4 hEt4 hqt4
    clear hEt4
    simp only[nn]
    refine gr (rs:= [6]) (gcB 6 (some 37) rfl rfl hqt4 (HA _ (hT.fr hqt4.fr H.low)) (fun x=>cu x) ?_ gn)
    intro Yt5 hqt5
    refine gp 7 (some 30) (.tuple #[(Dl q.x (getD q.T k) d).agg, .bool false, .int .i64 (Jc (getD q.T k) d)]) rfl rfl (cu hqt5) ?_
    refine gp 8 (some 38) ((Dl q.x (getD q.T k) d).agg) rfl rfl (cu hqt5) ?_
    refine gp 9 (some 39) (.bool false) rfl rfl (cu hqt5) ?_
    refine gp 10 (some 40) (.int .i64 (Jc (getD q.T k) d)) rfl rfl (cu hqt5) ?_
    refine gr (rs:= [12]) (Nh (vs:=(Dl q.x (getD q.T k) d).cs) (new:=(Dl q.x (getD q.T k) d).cs) 12 4 43 rfl rfl (by kernel_rfl) rfl rfl rfl rfl (Dz _) szD hqt5 rfl (by simp[Bo,VV.cs,KK.cs,DD.cs,OB.cs,hcs,zeroD,Av]) (by simp[Bo,VV.cs,KK.cs,DD.cs,OB.cs,hcs,zeroD,Av]) (fun _ hZ=>cu hZ) ?_ gn)
    intro Yt6 hqt6
    refine gp 13 (some 16) (.bool false) rfl rfl (cu hqt6) ?_
    refine gp 14 (some 17) (.int .i64 (Jc (getD q.T k) d)) rfl rfl (cu hqt6) ?_
    refine dn ?_
    try simp only[nn]
    have SS:=Ab hqt6
    go_wp2
    go_ret2
    exact⟨h,false,rfl,⟨hb.symm, .inl ⟨rfl,rfl⟩⟩,HP.To.end H (Aa SS) rfl⟩
  ·intro Ys4 Bs4 hEs4 hqs4
   clear hEs4
   simp only[nn]
   refine gr (rs:= [5]) (gcB 5 (some 27) rfl rfl hqs4 (ZaI q.T k _ ((hqs4.hp 0 rfl).ob hj).2.1 hk) (fun x=>cu x) ?_ gn)
   intro Ys5 hqs5
   refine gp 6 (some 21) (.tuple #[(getD q.T k).agg, .bool (q.T.find k).isSome]) rfl rfl (cu hqs5) ?_
   refine gp 7 (some 28) ((getD q.T k).agg) rfl rfl (cu hqs5) ?_
   refine gp 8 (some 29) (.bool (q.T.find k).isSome) rfl rfl (cu hqs5) ?_
   refine gr (rs:= [10]) (Nh (vs:=(getD q.T k).cs) (new:=(getD q.T k).cs) 10 3 43 rfl rfl (by kernel_rfl) rfl rfl rfl rfl (Dz _) szD hqs5 rfl (by simp[Bo,VV.cs,KK.cs,DD.cs,OB.cs,hcs,zeroD,Av]) (by simp[Bo,VV.cs,KK.cs,DD.cs,OB.cs,hcs,zeroD,Av]) (fun _ hZ=>cu hZ) ?_ gn)
   intro Ys6 hqs6
   refine gp 11 (some 14) (.bool (q.T.find k).isSome) rfl rfl (cu hqs6) ?_
   refine dn ?_
   try simp only[nn]
   have SS:=Ab hqs6
   go_wp2
   have hS3:Sy w _ h.blocks [hpO h,Aq Ba k.cs,Aq Bb d.cs,Aq Bs4 ((getD q.T k).cs)]:=(Aa SS).drew
   clear SS
   have cu: ∀{X:World} {M:List Ob},Sy w X h.blocks ([hpO h,Aq Ba k.cs,Aq Bb d.cs,Aq Bs4 ((getD q.T k).cs)]++M)->Sy w X h.blocks [hpO h,Aq Ba k.cs,Aq Bb d.cs,Aq Bs4 ((getD q.T k).cs)]:=fun h=>Sy.left h
   refine wp_region_held_drew (P:=prog) (S:=fun X=>Sy w X h.blocks _) (by kernel_rfl) (hS3) (fun hS0=> ?_)
   refine gp 0 (some 31) (.pointer (some ⟨q.b,0,none⟩)) rfl rfl (hS3) ?_
   refine gp 1 (some 32) (.pointer (some ⟨q.b,0,none⟩)) rfl rfl (hS3) ?_
   refine gp 2 (some 33) (.pointer (some ⟨q.b,6,none⟩)) rfl rfl (hS3) ?_
   refine gq 3 (some 34) (.bool q.x) rfl rfl (fun X hX=>Ad 4 isAgg4 rfl rfl ((hX.hp 0 rfl).ob hj).1 rfl) (hS3) ?_
   refine gq 4 (some 35) (.agg ((getD q.T k).cs).toArray) rfl rfl (fun X hX=>Af (vs:=(getD q.T k).cs) 43 18 rwD szD rfl rfl (hX.hold 3 rfl) rfl rfl) (hS3) ?_
   refine gq 5 (some 36) (.agg (d.cs).toArray) rfl rfl (fun X hX=>Af (vs:=d.cs) 43 18 rwD szD rfl rfl (hX.hold 2 rfl) rfl rfl) (hS3) ?_
   refine gr (rs:= [6,11]) (gcB 6 (some 37) rfl rfl hS3 (HA _ (hT.fr hS3.fr H.low)) id ?_ (Oj (v:= .agg (zeroD.cs).toArray) 11 (some 15) 43 (zeroD.cs) rfl rfl (by kernel_rfl) rfl (fun w=>by kernel_rfl) rfl (Nat.succ_pos _) hS3 (fun _ hZ=>cu hZ) ?_ gn))
   ·intro Yt1 hqt1
    refine gp 7 (some 30) (.tuple #[(Dl q.x (getD q.T k) d).agg, .bool false, .int .i64 (Jc (getD q.T k) d)]) rfl rfl (hqt1) ?_
    refine gp 8 (some 38) ((Dl q.x (getD q.T k) d).agg) rfl rfl (hqt1) ?_
    refine gp 9 (some 39) (.bool false) rfl rfl (hqt1) ?_
    refine gp 10 (some 40) (.int .i64 (Jc (getD q.T k) d)) rfl rfl (hqt1) ?_
    refine gr (rs:= [11]) (Oj (v:= .agg (zeroD.cs).toArray) 11 (some 15) 43 (zeroD.cs) rfl rfl (by kernel_rfl) rfl (fun w=>by kernel_rfl) rfl (Nat.succ_pos _) hqt1 (fun _ hZ=>cu hZ) ?_ gn)
    intro Yt2 Bt2 hEt2 hqt2
    clear hEt2
    simp only[nn]
    refine gr (rs:= [12]) (Nh (vs:=(Dl q.x (getD q.T k) d).cs) (new:=(Dl q.x (getD q.T k) d).cs) 12 4 43 rfl rfl (by kernel_rfl) rfl rfl rfl rfl (Dz _) szD hqt2 rfl (by simp[Bo,VV.cs,KK.cs,DD.cs,OB.cs,hcs,zeroD,Av]) (by simp[Bo,VV.cs,KK.cs,DD.cs,OB.cs,hcs,zeroD,Av]) (fun _ hZ=>cu hZ) ?_ gn)
    intro Yt3 hqt3
    refine gp 13 (some 16) (.bool false) rfl rfl (cu hqt3) ?_
    refine gp 14 (some 17) (.int .i64 (Jc (getD q.T k) d)) rfl rfl (cu hqt3) ?_
    refine dn ?_
    try simp only[nn]
    have SS:=Ab hqt3
    go_wp2
    go_ret2
    exact⟨h,false,rfl,⟨hb.symm, .inl ⟨rfl,rfl⟩⟩,HP.To.end H (Aa SS) rfl⟩
   ·intro Yt4 Bt4 hEt4 hqt4
    clear hEt4
    simp only[nn]
    refine gr (rs:= [6]) (gcB 6 (some 37) rfl rfl hqt4 (HA _ (hT.fr hqt4.fr H.low)) (fun x=>cu x) ?_ gn)
    intro Yt5 hqt5
    refine gp 7 (some 30) (.tuple #[(Dl q.x (getD q.T k) d).agg, .bool false, .int .i64 (Jc (getD q.T k) d)]) rfl rfl (cu hqt5) ?_
    refine gp 8 (some 38) ((Dl q.x (getD q.T k) d).agg) rfl rfl (cu hqt5) ?_
    refine gp 9 (some 39) (.bool false) rfl rfl (cu hqt5) ?_
    refine gp 10 (some 40) (.int .i64 (Jc (getD q.T k) d)) rfl rfl (cu hqt5) ?_
    refine gr (rs:= [12]) (Nh (vs:=(Dl q.x (getD q.T k) d).cs) (new:=(Dl q.x (getD q.T k) d).cs) 12 4 43 rfl rfl (by kernel_rfl) rfl rfl rfl rfl (Dz _) szD hqt5 rfl (by simp[Bo,VV.cs,KK.cs,DD.cs,OB.cs,hcs,zeroD,Av]) (by simp[Bo,VV.cs,KK.cs,DD.cs,OB.cs,hcs,zeroD,Av]) (fun _ hZ=>cu hZ) ?_ gn)
    intro Yt6 hqt6
    refine gp 13 (some 16) (.bool false) rfl rfl (cu hqt6) ?_
    refine gp 14 (some 17) (.int .i64 (Jc (getD q.T k) d)) rfl rfl (cu hqt6) ?_
    refine dn ?_
    try simp only[nn]
    have SS:=Ab hqt6
    go_wp2
    go_ret2
    exact⟨h,false,rfl,⟨hb.symm, .inl ⟨rfl,rfl⟩⟩,HP.To.end H (Aa SS) rfl⟩
 |true=>
  simp only[hb] at HA
  have SS:=Ab H.start
  rw[Dj,Mi]
  go_enter func60,ntmps60
  go_wp2_with (first|go_skip|((with_reducible show wpList ..);first|((refine bx0 109 (by rfl) rfl rfl (Aa SS) ?_);intro X0 B0 S0;replace SS:=Ab S0;clear S0;simp only[nn])|(refine zB 37 (k.cs) (by rfl) rfl rfl rfl SS ?_;clear SS;intro Xa Ba SS;simp only[nn])|(refine zB 43 (d.cs) (by rfl) rfl rfl rfl SS ?_;clear SS;intro Xb Bb SS;simp only[nn])))
  refine(Jq h j q _ ((Aa SS).hp 0 rfl) hj hl).mono ?_
  rintro _ _ ⟨rfl,rfl⟩
  go_wp2
  have hS2:Sy w _ h.blocks [hpO h,Aq Ba k.cs,Aq Bb d.cs]:=(Aa SS).drew
  clear SS
  have cu: ∀{X:World} {M:List Ob},Sy w X h.blocks ([hpO h,Aq Ba k.cs,Aq Bb d.cs]++M)->Sy w X h.blocks [hpO h,Aq Ba k.cs,Aq Bb d.cs]:=fun h=>Sy.left h
  refine wp_region_held_drew (P:=prog) (S:=fun X=>Sy w X h.blocks _) (by kernel_rfl) (hS2) (fun hS0=> ?_)
  refine gp 0 (some 22) (.pointer (some ⟨q.b,0,none⟩)) rfl rfl (hS2) ?_
  refine gp 1 (some 23) (.pointer (some ⟨q.b,0,none⟩)) rfl rfl (hS2) ?_
  refine gp 2 (some 24) (.pointer (some ⟨q.b,7,none⟩)) rfl rfl (hS2) ?_
  refine gq 3 (some 25) (.pointer (some ⟨q.T.t,0,none⟩)) rfl rfl (fun X hX=>Ad 151 isAgg151 rfl rfl ((hX.hp 0 rfl).ob hj).1 rfl) (hS2) ?_
  refine gq 4 (some 26) (.agg k.cs.toArray) rfl rfl (fun X hX=>Af (vs:=k.cs) 37 2 rwK szK rfl rfl (hX.hold 1 rfl) rfl rfl) (hS2) ?_
  refine gr (rs:= [5,9]) (gcB 5 (some 27) rfl rfl hS2 (ZaI q.T k _ ((hS2.hp 0 rfl).ob hj).2.1 hk) id ?_ (Oj (v:= .agg (zeroD.cs).toArray) 9 (some 13) 43 (zeroD.cs) rfl rfl (by kernel_rfl) rfl (fun w=>by kernel_rfl) rfl (Nat.succ_pos _) hS2 (fun _ hZ=>cu hZ) ?_ gn))
  ·intro Ys1 hqs1
   refine gp 6 (some 21) (.tuple #[(getD q.T k).agg, .bool (q.T.find k).isSome]) rfl rfl (hqs1) ?_
   refine gp 7 (some 28) ((getD q.T k).agg) rfl rfl (hqs1) ?_
   refine gp 8 (some 29) (.bool (q.T.find k).isSome) rfl rfl (hqs1) ?_
   refine gr (rs:= [9]) (Oj (v:= .agg (zeroD.cs).toArray) 9 (some 13) 43 (zeroD.cs) rfl rfl (by kernel_rfl) rfl (fun w=>by kernel_rfl) rfl (Nat.succ_pos _) hqs1 (fun _ hZ=>cu hZ) ?_ gn)
   intro Ys2 Bs2 hEs2 hqs2
   clear hEs2
   simp only[nn]
   refine gr (rs:= [10]) (Nh (vs:=(getD q.T k).cs) (new:=(getD q.T k).cs) 10 3 43 rfl rfl (by kernel_rfl) rfl rfl rfl rfl (Dz _) szD hqs2 rfl (by simp[Bo,VV.cs,KK.cs,DD.cs,OB.cs,hcs,zeroD,Av]) (by simp[Bo,VV.cs,KK.cs,DD.cs,OB.cs,hcs,zeroD,Av]) (fun _ hZ=>cu hZ) ?_ gn)
   intro Ys3 hqs3
   refine gp 11 (some 14) (.bool (q.T.find k).isSome) rfl rfl (cu hqs3) ?_
   refine dn ?_
   try simp only[nn]
   have SS:=Ab hqs3
   go_wp2
   have hS3:Sy w _ h.blocks [hpO h,Aq Ba k.cs,Aq Bb d.cs,Aq Bs2 ((getD q.T k).cs)]:=(Aa SS).drew
   clear SS
   have cu: ∀{X:World} {M:List Ob},Sy w X h.blocks ([hpO h,Aq Ba k.cs,Aq Bb d.cs,Aq Bs2 ((getD q.T k).cs)]++M)->Sy w X h.blocks [hpO h,Aq Ba k.cs,Aq Bb d.cs,Aq Bs2 ((getD q.T k).cs)]:=fun h=>Sy.left h
   refine wp_region_held_drew (P:=prog) (S:=fun X=>Sy w X h.blocks _) (by kernel_rfl) (hS3) (fun hS0=> ?_)
   refine gp 0 (some 31) (.pointer (some ⟨q.b,0,none⟩)) rfl rfl (hS3) ?_
   refine gp 1 (some 32) (.pointer (some ⟨q.b,0,none⟩)) rfl rfl (hS3) ?_
   refine gp 2 (some 33) (.pointer (some ⟨q.b,6,none⟩)) rfl rfl (hS3) ?_
   refine gq 3 (some 34) (.bool q.x) rfl rfl (fun X hX=>Ad 4 isAgg4 rfl rfl ((hX.hp 0 rfl).ob hj).1 rfl) (hS3) ?_
   refine gq 4 (some 35) (.agg ((getD q.T k).cs).toArray) rfl rfl (fun X hX=>Af (vs:=(getD q.T k).cs) 43 18 rwD szD rfl rfl (hX.hold 3 rfl) rfl rfl) (hS3) ?_
   refine gq 5 (some 36) (.agg (d.cs).toArray) rfl rfl (fun X hX=>Af (vs:=d.cs) 43 18 rwD szD rfl rfl (hX.hold 2 rfl) rfl rfl) (hS3) ?_
   refine gr (rs:= [6,11]) (gcB 6 (some 37) rfl rfl hS3 (HA _ (hT.fr hS3.fr H.low)) id ?_ (Oj (v:= .agg (zeroD.cs).toArray) 11 (some 15) 43 (zeroD.cs) rfl rfl (by kernel_rfl) rfl (fun w=>by kernel_rfl) rfl (Nat.succ_pos _) hS3 (fun _ hZ=>cu hZ) ?_ gn))
   ·intro Yt1 hqt1
    refine gp 7 (some 30) (.tuple #[(Dl q.x (getD q.T k) d).agg, .bool true, .int .i64 (Jc (getD q.T k) d)]) rfl rfl (hqt1) ?_
    refine gp 8 (some 38) ((Dl q.x (getD q.T k) d).agg) rfl rfl (hqt1) ?_
    refine gp 9 (some 39) (.bool true) rfl rfl (hqt1) ?_
    refine gp 10 (some 40) (.int .i64 (Jc (getD q.T k) d)) rfl rfl (hqt1) ?_
    refine gr (rs:= [11]) (Oj (v:= .agg (zeroD.cs).toArray) 11 (some 15) 43 (zeroD.cs) rfl rfl (by kernel_rfl) rfl (fun w=>by kernel_rfl) rfl (Nat.succ_pos _) hqt1 (fun _ hZ=>cu hZ) ?_ gn)
    intro Yt2 Bt2 hEt2 hqt2
    clear hEt2
    simp only[nn]
    refine gr (rs:= [12]) (Nh (vs:=(Dl q.x (getD q.T k) d).cs) (new:=(Dl q.x (getD q.T k) d).cs) 12 4 43 rfl rfl (by kernel_rfl) rfl rfl rfl rfl (Dz _) szD hqt2 rfl (by simp[Bo,VV.cs,KK.cs,DD.cs,OB.cs,hcs,zeroD,Av]) (by simp[Bo,VV.cs,KK.cs,DD.cs,OB.cs,hcs,zeroD,Av]) (fun _ hZ=>cu hZ) ?_ gn)
    intro Yt3 hqt3
    refine gp 13 (some 16) (.bool true) rfl rfl (cu hqt3) ?_
    refine gp 14 (some 17) (.int .i64 (Jc (getD q.T k) d)) rfl rfl (cu hqt3) ?_
    refine dn ?_
    try simp only[nn]
    have SS:=Ab hqt3
    go_wp2
    have hS5:Sy w _ h.blocks [hpO h,Aq Ba k.cs,Aq Bb d.cs,Aq Bs2 ((getD q.T k).cs),Aq Bt2 ((Dl q.x (getD q.T k) d).cs)]:=(Aa SS).drew
    clear SS
    refine wp_region_held_drew (P:=prog) (S:=fun X=>Holds X q.b q.cs/\Holds X Ba k.cs/\Holds X Bt2 ((Dl q.x (getD q.T k) d).cs)) (by kernel_rfl) (⟨((hS5.hp 0 rfl).ob hj).1,hS5.hold 1 rfl,hS5.hold 4 rfl⟩) (fun hS0=> ?_)
    refine gp 0 (some 42) (.pointer (some ⟨q.b,0,none⟩)) rfl rfl (⟨((hS5.hp 0 rfl).ob hj).1,hS5.hold 1 rfl,hS5.hold 4 rfl⟩) ?_
    refine gp 1 (some 43) (.pointer (some ⟨q.b,0,none⟩)) rfl rfl (⟨((hS5.hp 0 rfl).ob hj).1,hS5.hold 1 rfl,hS5.hold 4 rfl⟩) ?_
    refine gp 2 (some 44) (.pointer (some ⟨q.b,7,none⟩)) rfl rfl (⟨((hS5.hp 0 rfl).ob hj).1,hS5.hold 1 rfl,hS5.hold 4 rfl⟩) ?_
    refine gq 3 (some 45) (.pointer (some ⟨q.T.t,0,none⟩)) rfl rfl (fun X hX=>Ad 151 isAgg151 rfl rfl hX.1 rfl) (⟨((hS5.hp 0 rfl).ob hj).1,hS5.hold 1 rfl,hS5.hold 4 rfl⟩) ?_
    refine gq 4 (some 46) (.agg k.cs.toArray) rfl rfl (fun X hX=>Af (vs:=k.cs) 37 2 rwK szK rfl rfl hX.2.1 rfl rfl) (⟨((hS5.hp 0 rfl).ob hj).1,hS5.hold 1 rfl,hS5.hold 4 rfl⟩) ?_
    refine gq 5 (some 47) (.agg ((Dl q.x (getD q.T k) d).cs).toArray) rfl rfl (fun X hX=>Af (vs:=(Dl q.x (getD q.T k) d).cs) 43 18 rwD szD rfl rfl hX.2.2 rfl rfl) (⟨((hS5.hp 0 rfl).ob hj).1,hS5.hold 1 rfl,hS5.hold 4 rfl⟩) ?_
    refine gr (rs:= [6]) (gc 6 (some 48) rfl rfl (Zb3 q.T k (Dl q.x (getD q.T k) d) _ ((hS5.hp 0 rfl).ob hj).2.1 (hT.fr hS5.fr H.low).1 hk hlast (fun b hb=>by have:=(hS5.hp 0 rfl).low_tab hj b hb;omega) hg) ?_ gn)
    rintro e Yp1 ⟨rfl,T',hT2,ht2,hf2,hs2,hPT⟩
    have hI0:=hS5.hp 0 rfl
    have hO:=(hI0.ob hj).1.block (hf2.block _ ((hI0.ob hj).1.lt (by rw[Lu];omega)) (hI0.ob hj).2.2)
    have HTI:=Ab (hI0.ob hj).2.1
    have hqp:=Sy.heap hS5 0 rfl (hI0.table hj hT2 ht2 hf2 hs2)
    refine⟨_,rfl,⟨hO,hqp.hold 1 rfl,hqp.hold 4 rfl⟩, ?_⟩
    refine dn ?_
    try simp only[nn]
    have SS:=Ab hqp
    go_wp2
    go_ret2
    exact⟨h.tab j q T',true,rfl,⟨hb.symm, .inr ⟨rfl,T',rfl,hPT.last,Zb5 (Aa HTI) hg hPT⟩⟩,HP.To.end H (Aa SS) rfl⟩
   ·intro Yt4 Bt4 hEt4 hqt4
    clear hEt4
    simp only[nn]
    refine gr (rs:= [6]) (gcB 6 (some 37) rfl rfl hqt4 (HA _ (hT.fr hqt4.fr H.low)) (fun x=>cu x) ?_ gn)
    intro Yt5 hqt5
    refine gp 7 (some 30) (.tuple #[(Dl q.x (getD q.T k) d).agg, .bool true, .int .i64 (Jc (getD q.T k) d)]) rfl rfl (cu hqt5) ?_
    refine gp 8 (some 38) ((Dl q.x (getD q.T k) d).agg) rfl rfl (cu hqt5) ?_
    refine gp 9 (some 39) (.bool true) rfl rfl (cu hqt5) ?_
    refine gp 10 (some 40) (.int .i64 (Jc (getD q.T k) d)) rfl rfl (cu hqt5) ?_
    refine gr (rs:= [12]) (Nh (vs:=(Dl q.x (getD q.T k) d).cs) (new:=(Dl q.x (getD q.T k) d).cs) 12 4 43 rfl rfl (by kernel_rfl) rfl rfl rfl rfl (Dz _) szD hqt5 rfl (by simp[Bo,VV.cs,KK.cs,DD.cs,OB.cs,hcs,zeroD,Av]) (by simp[Bo,VV.cs,KK.cs,DD.cs,OB.cs,hcs,zeroD,Av]) (fun _ hZ=>cu hZ) ?_ gn)
    intro Yt6 hqt6
    refine gp 13 (some 16) (.bool true) rfl rfl (cu hqt6) ?_
    refine gp 14 (some 17) (.int .i64 (Jc (getD q.T k) d)) rfl rfl (cu hqt6) ?_
    refine dn ?_
    try simp only[nn]
    have SS:=Ab hqt6
    go_wp2
    have hS5:Sy w _ h.blocks [hpO h,Aq Ba k.cs,Aq Bb d.cs,Aq Bs2 ((getD q.T k).cs),Aq Bt4 ((Dl q.x (getD q.T k) d).cs)]:=(Aa SS).drew
    clear SS
    refine wp_region_held_drew (P:=prog) (S:=fun X=>Holds X q.b q.cs/\Holds X Ba k.cs/\Holds X Bt4 ((Dl q.x (getD q.T k) d).cs)) (by kernel_rfl) (⟨((hS5.hp 0 rfl).ob hj).1,hS5.hold 1 rfl,hS5.hold 4 rfl⟩) (fun hS0=> ?_)
    refine gp 0 (some 42) (.pointer (some ⟨q.b,0,none⟩)) rfl rfl (⟨((hS5.hp 0 rfl).ob hj).1,hS5.hold 1 rfl,hS5.hold 4 rfl⟩) ?_
    refine gp 1 (some 43) (.pointer (some ⟨q.b,0,none⟩)) rfl rfl (⟨((hS5.hp 0 rfl).ob hj).1,hS5.hold 1 rfl,hS5.hold 4 rfl⟩) ?_
    refine gp 2 (some 44) (.pointer (some ⟨q.b,7,none⟩)) rfl rfl (⟨((hS5.hp 0 rfl).ob hj).1,hS5.hold 1 rfl,hS5.hold 4 rfl⟩) ?_
    refine gq 3 (some 45) (.pointer (some ⟨q.T.t,0,none⟩)) rfl rfl (fun X hX=>Ad 151 isAgg151 rfl rfl hX.1 rfl) (⟨((hS5.hp 0 rfl).ob hj).1,hS5.hold 1 rfl,hS5.hold 4 rfl⟩) ?_
    refine gq 4 (some 46) (.agg k.cs.toArray) rfl rfl (fun X hX=>Af (vs:=k.cs) 37 2 rwK szK rfl rfl hX.2.1 rfl rfl) (⟨((hS5.hp 0 rfl).ob hj).1,hS5.hold 1 rfl,hS5.hold 4 rfl⟩) ?_
    refine gq 5 (some 47) (.agg ((Dl q.x (getD q.T k) d).cs).toArray) rfl rfl (fun X hX=>Af (vs:=(Dl q.x (getD q.T k) d).cs) 43 18 rwD szD rfl rfl hX.2.2 rfl rfl) (⟨((hS5.hp 0 rfl).ob hj).1,hS5.hold 1 rfl,hS5.hold 4 rfl⟩) ?_
    refine gr (rs:= [6]) (gc 6 (some 48) rfl rfl (Zb3 q.T k (Dl q.x (getD q.T k) d) _ ((hS5.hp 0 rfl).ob hj).2.1 (hT.fr hS5.fr H.low).1 hk hlast (fun b hb=>by have:=(hS5.hp 0 rfl).low_tab hj b hb;omega) hg) ?_ gn)
    rintro e Yp1 ⟨rfl,T',hT2,ht2,hf2,hs2,hPT⟩
    have hI0:=hS5.hp 0 rfl
    have hO:=(hI0.ob hj).1.block (hf2.block _ ((hI0.ob hj).1.lt (by rw[Lu];omega)) (hI0.ob hj).2.2)
    have HTI:=Ab (hI0.ob hj).2.1
    have hqp:=Sy.heap hS5 0 rfl (hI0.table hj hT2 ht2 hf2 hs2)
    refine⟨_,rfl,⟨hO,hqp.hold 1 rfl,hqp.hold 4 rfl⟩, ?_⟩
    refine dn ?_
    try simp only[nn]
    have SS:=Ab hqp
    go_wp2
    go_ret2
    exact⟨h.tab j q T',true,rfl,⟨hb.symm, .inr ⟨rfl,T',rfl,hPT.last,Zb5 (Aa HTI) hg hPT⟩⟩,HP.To.end H (Aa SS) rfl⟩
  ·intro Ys4 Bs4 hEs4 hqs4
   clear hEs4
   simp only[nn]
   refine gr (rs:= [5]) (gcB 5 (some 27) rfl rfl hqs4 (ZaI q.T k _ ((hqs4.hp 0 rfl).ob hj).2.1 hk) (fun x=>cu x) ?_ gn)
   intro Ys5 hqs5
   refine gp 6 (some 21) (.tuple #[(getD q.T k).agg, .bool (q.T.find k).isSome]) rfl rfl (cu hqs5) ?_
   refine gp 7 (some 28) ((getD q.T k).agg) rfl rfl (cu hqs5) ?_
   refine gp 8 (some 29) (.bool (q.T.find k).isSome) rfl rfl (cu hqs5) ?_
   refine gr (rs:= [10]) (Nh (vs:=(getD q.T k).cs) (new:=(getD q.T k).cs) 10 3 43 rfl rfl (by kernel_rfl) rfl rfl rfl rfl (Dz _) szD hqs5 rfl (by simp[Bo,VV.cs,KK.cs,DD.cs,OB.cs,hcs,zeroD,Av]) (by simp[Bo,VV.cs,KK.cs,DD.cs,OB.cs,hcs,zeroD,Av]) (fun _ hZ=>cu hZ) ?_ gn)
   intro Ys6 hqs6
   refine gp 11 (some 14) (.bool (q.T.find k).isSome) rfl rfl (cu hqs6) ?_
   refine dn ?_
   try simp only[nn]
   have SS:=Ab hqs6
   go_wp2
   have hS3:Sy w _ h.blocks [hpO h,Aq Ba k.cs,Aq Bb d.cs,Aq Bs4 ((getD q.T k).cs)]:=(Aa SS).drew
   clear SS
   have cu: ∀{X:World} {M:List Ob},Sy w X h.blocks ([hpO h,Aq Ba k.cs,Aq Bb d.cs,Aq Bs4 ((getD q.T k).cs)]++M)->Sy w X h.blocks [hpO h,Aq Ba k.cs,Aq Bb d.cs,Aq Bs4 ((getD q.T k).cs)]:=fun h=>Sy.left h
   refine wp_region_held_drew (P:=prog) (S:=fun X=>Sy w X h.blocks _) (by kernel_rfl) (hS3) (fun hS0=> ?_)
   refine gp 0 (some 31) (.pointer (some ⟨q.b,0,none⟩)) rfl rfl (hS3) ?_
   refine gp 1 (some 32) (.pointer (some ⟨q.b,0,none⟩)) rfl rfl (hS3) ?_
   refine gp 2 (some 33) (.pointer (some ⟨q.b,6,none⟩)) rfl rfl (hS3) ?_
   refine gq 3 (some 34) (.bool q.x) rfl rfl (fun X hX=>Ad 4 isAgg4 rfl rfl ((hX.hp 0 rfl).ob hj).1 rfl) (hS3) ?_
   refine gq 4 (some 35) (.agg ((getD q.T k).cs).toArray) rfl rfl (fun X hX=>Af (vs:=(getD q.T k).cs) 43 18 rwD szD rfl rfl (hX.hold 3 rfl) rfl rfl) (hS3) ?_
   refine gq 5 (some 36) (.agg (d.cs).toArray) rfl rfl (fun X hX=>Af (vs:=d.cs) 43 18 rwD szD rfl rfl (hX.hold 2 rfl) rfl rfl) (hS3) ?_
   refine gr (rs:= [6,11]) (gcB 6 (some 37) rfl rfl hS3 (HA _ (hT.fr hS3.fr H.low)) id ?_ (Oj (v:= .agg (zeroD.cs).toArray) 11 (some 15) 43 (zeroD.cs) rfl rfl (by kernel_rfl) rfl (fun w=>by kernel_rfl) rfl (Nat.succ_pos _) hS3 (fun _ hZ=>cu hZ) ?_ gn))
   ·intro Yt1 hqt1
    refine gp 7 (some 30) (.tuple #[(Dl q.x (getD q.T k) d).agg, .bool true, .int .i64 (Jc (getD q.T k) d)]) rfl rfl (hqt1) ?_
    refine gp 8 (some 38) ((Dl q.x (getD q.T k) d).agg) rfl rfl (hqt1) ?_
    refine gp 9 (some 39) (.bool true) rfl rfl (hqt1) ?_
    refine gp 10 (some 40) (.int .i64 (Jc (getD q.T k) d)) rfl rfl (hqt1) ?_
    refine gr (rs:= [11]) (Oj (v:= .agg (zeroD.cs).toArray) 11 (some 15) 43 (zeroD.cs) rfl rfl (by kernel_rfl) rfl (fun w=>by kernel_rfl) rfl (Nat.succ_pos _) hqt1 (fun _ hZ=>cu hZ) ?_ gn)
    intro Yt2 Bt2 hEt2 hqt2
    clear hEt2
    simp only[nn]
    refine gr (rs:= [12]) (Nh (vs:=(Dl q.x (getD q.T k) d).cs) (new:=(Dl q.x (getD q.T k) d).cs) 12 4 43 rfl rfl (by kernel_rfl) rfl rfl rfl rfl (Dz _) szD hqt2 rfl (by simp[Bo,VV.cs,KK.cs,DD.cs,OB.cs,hcs,zeroD,Av]) (by simp[Bo,VV.cs,KK.cs,DD.cs,OB.cs,hcs,zeroD,Av]) (fun _ hZ=>cu hZ) ?_ gn)
    intro Yt3 hqt3
    refine gp 13 (some 16) (.bool true) rfl rfl (cu hqt3) ?_
    refine gp 14 (some 17) (.int .i64 (Jc (getD q.T k) d)) rfl rfl (cu hqt3) ?_
    refine dn ?_
    try simp only[nn]
    have SS:=Ab hqt3
    go_wp2
    have hS5:Sy w _ h.blocks [hpO h,Aq Ba k.cs,Aq Bb d.cs,Aq Bs4 ((getD q.T k).cs),Aq Bt2 ((Dl q.x (getD q.T k) d).cs)]:=(Aa SS).drew
    clear SS
    refine wp_region_held_drew (P:=prog) (S:=fun X=>Holds X q.b q.cs/\Holds X Ba k.cs/\Holds X Bt2 ((Dl q.x (getD q.T k) d).cs)) (by kernel_rfl) (⟨((hS5.hp 0 rfl).ob hj).1,hS5.hold 1 rfl,hS5.hold 4 rfl⟩) (fun hS0=> ?_)
    refine gp 0 (some 42) (.pointer (some ⟨q.b,0,none⟩)) rfl rfl (⟨((hS5.hp 0 rfl).ob hj).1,hS5.hold 1 rfl,hS5.hold 4 rfl⟩) ?_
    refine gp 1 (some 43) (.pointer (some ⟨q.b,0,none⟩)) rfl rfl (⟨((hS5.hp 0 rfl).ob hj).1,hS5.hold 1 rfl,hS5.hold 4 rfl⟩) ?_
    refine gp 2 (some 44) (.pointer (some ⟨q.b,7,none⟩)) rfl rfl (⟨((hS5.hp 0 rfl).ob hj).1,hS5.hold 1 rfl,hS5.hold 4 rfl⟩) ?_
    refine gq 3 (some 45) (.pointer (some ⟨q.T.t,0,none⟩)) rfl rfl (fun X hX=>Ad 151 isAgg151 rfl rfl hX.1 rfl) (⟨((hS5.hp 0 rfl).ob hj).1,hS5.hold 1 rfl,hS5.hold 4 rfl⟩) ?_
    refine gq 4 (some 46) (.agg k.cs.toArray) rfl rfl (fun X hX=>Af (vs:=k.cs) 37 2 rwK szK rfl rfl hX.2.1 rfl rfl) (⟨((hS5.hp 0 rfl).ob hj).1,hS5.hold 1 rfl,hS5.hold 4 rfl⟩) ?_
    refine gq 5 (some 47) (.agg ((Dl q.x (getD q.T k) d).cs).toArray) rfl rfl (fun X hX=>Af (vs:=(Dl q.x (getD q.T k) d).cs) 43 18 rwD szD rfl rfl hX.2.2 rfl rfl) (⟨((hS5.hp 0 rfl).ob hj).1,hS5.hold 1 rfl,hS5.hold 4 rfl⟩) ?_
    refine gr (rs:= [6]) (gc 6 (some 48) rfl rfl (Zb3 q.T k (Dl q.x (getD q.T k) d) _ ((hS5.hp 0 rfl).ob hj).2.1 (hT.fr hS5.fr H.low).1 hk hlast (fun b hb=>by have:=(hS5.hp 0 rfl).low_tab hj b hb;omega) hg) ?_ gn)
    rintro e Yp1 ⟨rfl,T',hT2,ht2,hf2,hs2,hPT⟩
    have hI0:=hS5.hp 0 rfl
    have hO:=(hI0.ob hj).1.block (hf2.block _ ((hI0.ob hj).1.lt (by rw[Lu];omega)) (hI0.ob hj).2.2)
    have HTI:=Ab (hI0.ob hj).2.1
    have hqp:=Sy.heap hS5 0 rfl (hI0.table hj hT2 ht2 hf2 hs2)
    refine⟨_,rfl,⟨hO,hqp.hold 1 rfl,hqp.hold 4 rfl⟩, ?_⟩
    refine dn ?_
    try simp only[nn]
    have SS:=Ab hqp
    go_wp2
    go_ret2
    exact⟨h.tab j q T',true,rfl,⟨hb.symm, .inr ⟨rfl,T',rfl,hPT.last,Zb5 (Aa HTI) hg hPT⟩⟩,HP.To.end H (Aa SS) rfl⟩
   ·intro Yt4 Bt4 hEt4 hqt4
    clear hEt4
    simp only[nn]
    refine gr (rs:= [6]) (gcB 6 (some 37) rfl rfl hqt4 (HA _ (hT.fr hqt4.fr H.low)) (fun x=>cu x) ?_ gn)
    intro Yt5 hqt5
    refine gp 7 (some 30) (.tuple #[(Dl q.x (getD q.T k) d).agg, .bool true, .int .i64 (Jc (getD q.T k) d)]) rfl rfl (cu hqt5) ?_
    refine gp 8 (some 38) ((Dl q.x (getD q.T k) d).agg) rfl rfl (cu hqt5) ?_
    refine gp 9 (some 39) (.bool true) rfl rfl (cu hqt5) ?_
    refine gp 10 (some 40) (.int .i64 (Jc (getD q.T k) d)) rfl rfl (cu hqt5) ?_
    refine gr (rs:= [12]) (Nh (vs:=(Dl q.x (getD q.T k) d).cs) (new:=(Dl q.x (getD q.T k) d).cs) 12 4 43 rfl rfl (by kernel_rfl) rfl rfl rfl rfl (Dz _) szD hqt5 rfl (by simp[Bo,VV.cs,KK.cs,DD.cs,OB.cs,hcs,zeroD,Av]) (by simp[Bo,VV.cs,KK.cs,DD.cs,OB.cs,hcs,zeroD,Av]) (fun _ hZ=>cu hZ) ?_ gn)
    intro Yt6 hqt6
    refine gp 13 (some 16) (.bool true) rfl rfl (cu hqt6) ?_
    refine gp 14 (some 17) (.int .i64 (Jc (getD q.T k) d)) rfl rfl (cu hqt6) ?_
    refine dn ?_
    try simp only[nn]
    have SS:=Ab hqt6
    go_wp2
    have hS5:Sy w _ h.blocks [hpO h,Aq Ba k.cs,Aq Bb d.cs,Aq Bs4 ((getD q.T k).cs),Aq Bt4 ((Dl q.x (getD q.T k) d).cs)]:=(Aa SS).drew
    clear SS
    refine wp_region_held_drew (P:=prog) (S:=fun X=>Holds X q.b q.cs/\Holds X Ba k.cs/\Holds X Bt4 ((Dl q.x (getD q.T k) d).cs)) (by kernel_rfl) (⟨((hS5.hp 0 rfl).ob hj).1,hS5.hold 1 rfl,hS5.hold 4 rfl⟩) (fun hS0=> ?_)
    refine gp 0 (some 42) (.pointer (some ⟨q.b,0,none⟩)) rfl rfl (⟨((hS5.hp 0 rfl).ob hj).1,hS5.hold 1 rfl,hS5.hold 4 rfl⟩) ?_
    refine gp 1 (some 43) (.pointer (some ⟨q.b,0,none⟩)) rfl rfl (⟨((hS5.hp 0 rfl).ob hj).1,hS5.hold 1 rfl,hS5.hold 4 rfl⟩) ?_
    refine gp 2 (some 44) (.pointer (some ⟨q.b,7,none⟩)) rfl rfl (⟨((hS5.hp 0 rfl).ob hj).1,hS5.hold 1 rfl,hS5.hold 4 rfl⟩) ?_
    refine gq 3 (some 45) (.pointer (some ⟨q.T.t,0,none⟩)) rfl rfl (fun X hX=>Ad 151 isAgg151 rfl rfl hX.1 rfl) (⟨((hS5.hp 0 rfl).ob hj).1,hS5.hold 1 rfl,hS5.hold 4 rfl⟩) ?_
    refine gq 4 (some 46) (.agg k.cs.toArray) rfl rfl (fun X hX=>Af (vs:=k.cs) 37 2 rwK szK rfl rfl hX.2.1 rfl rfl) (⟨((hS5.hp 0 rfl).ob hj).1,hS5.hold 1 rfl,hS5.hold 4 rfl⟩) ?_
    refine gq 5 (some 47) (.agg ((Dl q.x (getD q.T k) d).cs).toArray) rfl rfl (fun X hX=>Af (vs:=(Dl q.x (getD q.T k) d).cs) 43 18 rwD szD rfl rfl hX.2.2 rfl rfl) (⟨((hS5.hp 0 rfl).ob hj).1,hS5.hold 1 rfl,hS5.hold 4 rfl⟩) ?_
    refine gr (rs:= [6]) (gc 6 (some 48) rfl rfl (Zb3 q.T k (Dl q.x (getD q.T k) d) _ ((hS5.hp 0 rfl).ob hj).2.1 (hT.fr hS5.fr H.low).1 hk hlast (fun b hb=>by have:=(hS5.hp 0 rfl).low_tab hj b hb;omega) hg) ?_ gn)
    rintro e Yp1 ⟨rfl,T',hT2,ht2,hf2,hs2,hPT⟩
    have hI0:=hS5.hp 0 rfl
    have hO:=(hI0.ob hj).1.block (hf2.block _ ((hI0.ob hj).1.lt (by rw[Lu];omega)) (hI0.ob hj).2.2)
    have HTI:=Ab (hI0.ob hj).2.1
    have hqp:=Sy.heap hS5 0 rfl (hI0.table hj hT2 ht2 hf2 hs2)
    refine⟨_,rfl,⟨hO,hqp.hold 1 rfl,hqp.hold 4 rfl⟩, ?_⟩
    refine dn ?_
    try simp only[nn]
    have SS:=Ab hqp
    go_wp2
    go_ret2
    exact⟨h.tab j q T',true,rfl,⟨hb.symm, .inr ⟨rfl,T',rfl,hPT.last,Zb5 (Aa HTI) hg hPT⟩⟩,HP.To.end H (Aa SS) rfl⟩
def OkD (d:DD):Prop:=FD d/\wholeV d=true/\d.g.k≠7/\d.s.k≠7
structure OB.Wf (n:Nat) (q:OB):Prop where
 c:q.c=1
 px:q.p.x<2^64
 pk:q.p.k=2∨q.p.k=7
 pi:q.p.k=7->1<=q.p.i/\q.p.i<=(n:Int)
 ps: ∀e∈pr q.T,OkD e.2
structure HP.Wf (h:HP):Prop where
 ok:h.Ok
 ob: ∀(j:Nat) (q:OB),h.l[j]? =some q->OB.Wf h.l.length q
structure Low (h h1:HP):Prop where
 eq:h1={h with fuel:=h1.fuel}
 le:h1.fuel<=h.fuel
 ge:0<=h1.fuel
theorem Low.refl {h:HP} (K:h.Ok):Low h h:=⟨rfl,Int.le_refl _,K.f0⟩
theorem Low.l {h h1:HP} (L:Low h h1):h1.l=h.l:=by rw[L.eq]
theorem Low.ent {h h1:HP} (L:Low h h1):h1.ent=h.ent:=by rw[L.eq]
theorem Low.ok {h h1:HP} (L:Low h h1) (K:h.Ok):h1.Ok:=by
 have e:=L.eq
 have a:=L.le
 have b:=L.ge
 generalize h1.fuel=f at *
 subst e
 exact⟨K.len,b,Int.le_trans a K.f1,K.e0,K.e1,K.d1⟩
theorem Low.trans {h h1 h2:HP} (A:Low h h1) (B:Low h1 h2):Low h h2:=by
 refine⟨?_,Int.le_trans B.le A.le,B.ge⟩
 rw[B.eq]
 have e:=A.eq
 generalize h1.fuel=f at *
 subst e
 rfl
theorem Low.wf {h h1:HP} (L:Low h h1) (K:h.Wf):h1.Wf:=⟨L.ok K.ok,fun j q hj=>by rw[L.l] at hj ⊢;exact K.ob j q hj⟩
theorem Dy {h:HP} (K:h.Ok) (hf:h.fuel≠0):Low h h.less:=⟨rfl,by show h.fuel - 1<=h.fuel;omega,by show 0<=h.fuel - 1;have:=K.f0;omega⟩
theorem Zck {h:HP} (K:h.Ok) (hf:h.fuel≠0) (hd:h.ent≠h.depth):h.inn.Ok:=⟨K.len,by show 0<=h.fuel - 1;have:=K.f0;omega,by show h.fuel - 1<=_;have:=K.f1;omega,by show 0<=h.ent+1;have:=K.e0;omega,by show h.ent+1<=h.depth;have:=K.e1;omega,K.d1⟩
theorem Zcj {h:HP} (K:h.Wf) (hf:h.fuel≠0) (hd:h.ent≠h.depth):h.inn.Wf:=⟨Zck K.ok hf hd,K.ob⟩
theorem Vi {h h1:HP} (K:h.Ok) (hf:h.fuel≠0) (L:Low h.inn h1):Low h h1.out/\h1.out.fuel<h.fuel:=by
 have e:=L.eq
 have a:h1.fuel<=h.fuel - 1:=L.le
 have b:=L.ge
 have c:h1.out.fuel=h1.fuel:=rfl
 refine⟨⟨?_,by rw[c];omega,by rw[c];exact b⟩,by rw[c];omega⟩
 generalize h1.fuel=f at *
 subst e
 unfold HP.out HP.inn
 simp
def Er (er:Value):Prop:=er= .nilIface∨er=Bl 1∨er=Bl 2
def Gw (h h1:HP) (er:Value):Prop:=Er er/\(h.fuel=0->er=Bl 1/\h1=h)/\(h.fuel≠0->h1.fuel<h.fuel)
theorem Jp {o:Oper} {a:Act} {w:World} {x y:Operand} {n m:Int} (ho:o.op= .binOp .neq 3 x y 3) (hx:a.eval x= .int .i64 n) (hc:a.eval y= .int .i64 m) (h:n≠m):(execOp a.eval o).run prog w= .ok (.value (.bool true)) w:=by
 unfold execOp
 simp only[ho,hx,hc]
 simp[go_sem,eqGuard,h]
theorem Jb {o:Oper} {a:Act} {w:World} {x y:Operand} {n m:Int} (ho:o.op= .binOp .neq 3 x y 3) (hx:a.eval x= .int .i64 n) (hc:a.eval y= .int .i64 m) (h:n=m):(execOp a.eval o).run prog w= .ok (.value (.bool false)) w:=by
 unfold execOp
 simp only[ho,hx,hc]
 simp[go_sem,eqGuard,h]
theorem Rk {h:HP} (K:h.Wf) {j:Nat} {q:OB} (hj:h.l[j]? =some q) (hk:q.p.k=7): ∃(i:Nat) (q':OB),q.p.i=(i:Int)+1/\h.l[i]? =some q':=by
 have h1:=(K.ob j q hj).pi hk
 exact Nv (h:=h) (o:=q.p.i) (by unfold Qx;simp;exact h1)
def HasC (n:Int):Prop:= ∀(h:HP) (j:Nat) (q:OB) (k:KK) (w:World),h.fuel<=n->h.Is w->h.Wf->h.l[j]? =some q->OkK k->Calls prog 123 #[.pointer (some ⟨h.b,0,none⟩), .int .i64 ((j:Int)+1),k.agg] w fun e w'=> ∃(h1:HP) (y:Bool) (er:Value),e= .returned (.tuple #[.bool y,er])/\(Low h h1/\Gw h h1 er)/\h.To h1 w w'
theorem ord_has (h:HP) (j:Nat) (q:OB) (k:KK) (n:Int) (w:World) (H:h.Is w) (K:h.Wf) (hj:h.l[j]? =some q) (hk:OkK k) (hI:HasC n) (hn:h.fuel<=n):Calls prog 204 #[.agg #[], .pointer (some ⟨h.b,0,none⟩), .int .i64 ((j:Int)+1),k.agg] w fun e w'=> ∃(h1:HP) (y:Bool) (er:Value),e= .returned (.tuple #[.bool y,er])/\(Low h h1/\Er er)/\h.To h1 w w':=by
 have hl:=K.ok.len
 cases hfi:q.T.find k with
 |some r=>
  have SS:=Ab H.start
  rw[Dj]
  go_enter func204,ntmps204
  go_wp2_with (first|go_skip|((with_reducible show wpList ..);first|((refine bx0 109 (by rfl) rfl rfl (Aa SS) ?_);intro X0 B0 S0;replace SS:=Ab S0;clear S0;simp only[nn])|(refine zB 37 (k.cs) (by rfl) rfl rfl rfl SS ?_;clear SS;intro Xa Ba SS;simp only[nn])|(refine zL (k.cs) 37 2 1 rwK szK (by rfl) rfl rfl SS rfl rfl rfl ?_;simp only[nn])))
  refine(Jr h j q k _ ((Aa SS).hp 0 rfl) hl hj hk).mono ?_
  rintro _ Y1 ⟨rfl,hb1⟩
  replace SS:=Ab ((Aa SS).on hb1)
  clear hb1
  rw[hfi]
  go_wp2_with (first|go_skip|((with_reducible show wpList ..);first|(refine zA 43 (zeroD.cs) (by rfl) rfl SS ?_;clear SS;intro Xb Bb SS;simp only[nn])|(refine zS ((getD q.T k).cs) 2 43 (by rfl) rfl rfl rfl rfl (Dz _) szD SS rfl ?_;clear SS;intro Xz SS;simp only[nn])))
  refine(Jq h j q _ ((Aa SS).hp 0 rfl) hj hl).mono ?_
  rintro _ _ ⟨rfl,rfl⟩
  have HO:=Ab (((Aa SS).hp 0 rfl).ob hj).1
  go_wp2_with (first|go_skip|((with_reducible show wpList ..);first|(refine rd rfl (Af (vs:=q.p.cs) 40 5 rwV szV rfl rfl (Aa HO) rfl rfl) ?_)|(refine zA 40 (Av.cs) (by rfl) rfl SS ?_;clear SS;intro Xc Bc SS;simp only[nn])|(refine zS (q.p.cs) 3 40 (by rfl) rfl rfl rfl rfl (Ea _) szV SS rfl ?_;clear SS;intro Xy SS;simp only[nn])|(refine rd rfl (Ad 3 isAgg3 rfl rfl ((Aa SS).hold 3 rfl) rfl) ?_)|(refine zL (k.cs) 37 2 1 rwK szK (by rfl) rfl rfl SS rfl rfl rfl ?_;simp only[nn])))
  go_ret2
  exact⟨h,_,_,rfl,⟨Low.refl K.ok, .inl rfl⟩,HP.To.end H (Aa SS) rfl⟩
 |none=>
  by_cases hpk:q.p.k=7
  ·obtain⟨i,q2,hi,hq2⟩:=Rk K hj hpk
   have SS:=Ab H.start
   rw[Dj]
   go_enter func204,ntmps204
   go_wp2_with (first|go_skip|((with_reducible show wpList ..);first|((refine bx0 109 (by rfl) rfl rfl (Aa SS) ?_);intro X0 B0 S0;replace SS:=Ab S0;clear S0;simp only[nn])|(refine zB 37 (k.cs) (by rfl) rfl rfl rfl SS ?_;clear SS;intro Xa Ba SS;simp only[nn])|(refine zL (k.cs) 37 2 1 rwK szK (by rfl) rfl rfl SS rfl rfl rfl ?_;simp only[nn])))
   refine(Jr h j q k _ ((Aa SS).hp 0 rfl) hl hj hk).mono ?_
   rintro _ Y1 ⟨rfl,hb1⟩
   replace SS:=Ab ((Aa SS).on hb1)
   clear hb1
   rw[hfi]
   go_wp2_with (first|go_skip|((with_reducible show wpList ..);first|(refine zA 43 (zeroD.cs) (by rfl) rfl SS ?_;clear SS;intro Xb Bb SS;simp only[nn])|(refine zS ((getD q.T k).cs) 2 43 (by rfl) rfl rfl rfl rfl (Dz _) szD SS rfl ?_;clear SS;intro Xz SS;simp only[nn])))
   refine(Jq h j q _ ((Aa SS).hp 0 rfl) hj hl).mono ?_
   rintro _ _ ⟨rfl,rfl⟩
   have HO:=Ab (((Aa SS).hp 0 rfl).ob hj).1
   go_wp2_with (first|go_skip|((with_reducible show wpList ..);first|(refine rd rfl (Af (vs:=q.p.cs) 40 5 rwV szV rfl rfl (Aa HO) rfl rfl) ?_)|(refine zA 40 (Av.cs) (by rfl) rfl SS ?_;clear SS;intro Xc Bc SS;simp only[nn])|(refine zS (q.p.cs) 3 40 (by rfl) rfl rfl rfl rfl (Ea _) szV SS rfl ?_;clear SS;intro Xy SS;simp only[nn])|(refine rd rfl (Ad 3 isAgg3 rfl rfl ((Aa SS).hold 3 rfl) rfl) ?_)|(refine zL (k.cs) 37 2 1 rwK szK (by rfl) rfl rfl SS rfl rfl rfl ?_;simp only[nn])|(refine rd rfl (Jb rfl rfl rfl hpk) ?_)))
   have HC:=Ab (hI h i q2 k _ hn ((Aa SS).hp 0 rfl) K hq2 hk)
   rw[Dj] at HC
   refine(Aa HC).mono ?_
   rintro _ Y2 ⟨h1,y,er,rfl,⟨hL,hE⟩,T2⟩
   replace SS:=Ab ((Aa SS).heap 0 rfl T2)
   have hb1:h1.b=h.b:=T2.hb
   clear T2 HC
   go_wp2
   go_ret2
   exact⟨h1,y,er,rfl,⟨hL,hE.1⟩,HP.To.end H (Aa SS) hb1⟩
  ·have SS:=Ab H.start
   rw[Dj]
   go_enter func204,ntmps204
   go_wp2_with (first|go_skip|((with_reducible show wpList ..);first|((refine bx0 109 (by rfl) rfl rfl (Aa SS) ?_);intro X0 B0 S0;replace SS:=Ab S0;clear S0;simp only[nn])|(refine zB 37 (k.cs) (by rfl) rfl rfl rfl SS ?_;clear SS;intro Xa Ba SS;simp only[nn])|(refine zL (k.cs) 37 2 1 rwK szK (by rfl) rfl rfl SS rfl rfl rfl ?_;simp only[nn])))
   refine(Jr h j q k _ ((Aa SS).hp 0 rfl) hl hj hk).mono ?_
   rintro _ Y1 ⟨rfl,hb1⟩
   replace SS:=Ab ((Aa SS).on hb1)
   clear hb1
   rw[hfi]
   go_wp2_with (first|go_skip|((with_reducible show wpList ..);first|(refine zA 43 (zeroD.cs) (by rfl) rfl SS ?_;clear SS;intro Xb Bb SS;simp only[nn])|(refine zS ((getD q.T k).cs) 2 43 (by rfl) rfl rfl rfl rfl (Dz _) szD SS rfl ?_;clear SS;intro Xz SS;simp only[nn])))
   refine(Jq h j q _ ((Aa SS).hp 0 rfl) hj hl).mono ?_
   rintro _ _ ⟨rfl,rfl⟩
   have HO:=Ab (((Aa SS).hp 0 rfl).ob hj).1
   go_wp2_with (first|go_skip|((with_reducible show wpList ..);first|(refine rd rfl (Af (vs:=q.p.cs) 40 5 rwV szV rfl rfl (Aa HO) rfl rfl) ?_)|(refine zA 40 (Av.cs) (by rfl) rfl SS ?_;clear SS;intro Xc Bc SS;simp only[nn])|(refine zS (q.p.cs) 3 40 (by rfl) rfl rfl rfl rfl (Ea _) szV SS rfl ?_;clear SS;intro Xy SS;simp only[nn])|(refine rd rfl (Ad 3 isAgg3 rfl rfl ((Aa SS).hold 3 rfl) rfl) ?_)|(refine zL (k.cs) 37 2 1 rwK szK (by rfl) rfl rfl SS rfl rfl rfl ?_;simp only[nn])|(refine rd rfl (Jp rfl rfl rfl hpk) ?_)))
   go_ret2
   exact⟨h,_,_,rfl,⟨Low.refl K.ok, .inl rfl⟩,HP.To.end H (Aa SS) rfl⟩
theorem has_all: ∀n:Nat,HasC (n:Int):=by
 have main: ∀n:Int,(∀m,m<n->0<=m->HasC m)->0<=n->HasC n:=by
  intro n ih hn h j q k w hf H K hj hk
  by_cases h0:h.fuel=0
  ·refine(Zq h j k w H h0).mono ?_
   rintro _ Y ⟨rfl,T⟩
   exact⟨h,false,Bl 1,rfl,⟨Low.refl K.ok, .inr (.inl rfl),fun _=>⟨rfl,rfl⟩,fun h1=>absurd h0 h1⟩,T⟩
  by_cases hd:h.ent=h.depth
  ·refine(Zp h j k w H K.ok h0 hd).mono ?_
   rintro _ Y ⟨rfl,T⟩
   exact⟨h.less,false,Bl 2,rfl,⟨Dy K.ok h0, .inr (.inr rfl),fun h1=>absurd h1 h0,fun _=>by show h.fuel - 1<h.fuel;omega⟩,T⟩
  ·have hp:=K.ok.f0
   refine(Zo h j q k (fun h1 y er=>Low h.inn h1/\Er er) w H K.ok hj h0 hd (fun X TX=> ?_)).mono ?_
   ·refine(ord_has h.inn j q k (n - 1) X TX.is (Zcj K h0 hd) hj hk (ih (n - 1) (by omega) (by omega)) (by show h.fuel - 1<=n - 1;omega)).mono ?_
    rintro e Y ⟨h1,y,er,rfl,hL,T⟩
    exact⟨h1,y,er,rfl,hL,hL.1.ent,T⟩
   ·rintro e Y ⟨h1,y,er,rfl,hL,T⟩
    have h2:=Vi K.ok h0 hL.1
    exact⟨h1.out,y,er,rfl,⟨h2.1,hL.2,fun h3=>absurd h3 h0,fun _=>h2.2⟩,T⟩
 have all: ∀n:Nat,∀m:Int,0<=m->m<=n->HasC m:=by
  intro n
  induction n with
  |zero=>exact fun m h1 h2=>main m (fun m' h3 h4=>by omega) h1
  |succ n ih=>exact fun m h1 h2=>main m (fun m' h3 h4=>ih m' h4 (by omega)) h1
 exact fun n=>all n n (by omega) (Int.le_refl _)
theorem has_en (h:HP) (j:Nat) (q:OB) (k:KK) (w:World) (H:h.Is w) (K:h.Wf) (hj:h.l[j]? =some q) (hk:OkK k):Calls prog 123 #[.pointer (some ⟨h.b,0,none⟩), .int .i64 ((j:Int)+1),k.agg] w fun e w'=> ∃(h1:HP) (y:Bool) (er:Value),e= .returned (.tuple #[.bool y,er])/\(Low h h1/\Gw h h1 er)/\h.To h1 w w':=has_all h.fuel.toNat h j q k w (by have:=K.ok.f0;omega) H K hj hk
