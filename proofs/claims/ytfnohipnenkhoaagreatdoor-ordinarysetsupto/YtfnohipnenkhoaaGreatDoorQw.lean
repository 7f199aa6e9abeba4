import Derived.Test.YtfnohipnenkhoaaGreatDoorQv
set_option linter.all false
namespace Go.Proofs.YtfnohipnenkhoaaGreatDoor
set_option maxRecDepth 100000
set_option maxHeartbeats 0
section
open Go Go.Proofs Go.Maps Go.RowKit FM Tryz
attribute [local go_sem] Am Al Ar Ah Ao Ai Aw Do Dn Bq Aj Bo
theorem ZeR (h:HP) (j:Nat) (q:OB) (w:World) (H:h.Is w) (hl:h.l.length<=65536) (hj:h.l[j]? =some q):Calls prog 156 #[.agg #[], .pointer (some ⟨h.b,0,none⟩), .int .i64 ((j:Int)+1)] w fun e w'=>e= .returned (.tuple #[q.p.agg, .nilIface])/\Below w.heap.size w w':=by
 have SS:=Ab (Sy.nil w [])
 go_enter func156,ntmps156
 go_wp2_with (first|go_skip|((with_reducible show wpList ..);first|((refine bx0 91 (by rfl) rfl rfl (Aa SS) ?_);intro X0 B0 S0;replace SS:=Ab S0;clear S0;simp only[nn])|(refine zA 36 (Av.cs) (by rfl) rfl SS ?_;clear SS;intro Xc Bc SS;simp only[nn])))
 refine(Kg h j q _ (H.on (Aa SS).fr.below) hj hl).mono ?_
 rintro _ _ ⟨rfl,rfl⟩
 have HO:=Ab ((H.on (Aa SS).fr.below).ob hj).1
 go_wp2_with (first|go_skip|((with_reducible show wpList ..);first|(refine rd rfl (Af (vs:=q.p.cs) 36 5 rwV szV rfl rfl (Aa HO) rfl rfl) ?_)|(refine zS (q.p.cs) 0 36 (by rfl) rfl rfl rfl rfl (Em _) szV SS rfl ?_;clear SS;intro Xz SS;simp only[nn])))
 refine bodyPost_ret (Gr rwV szV rfl rfl rfl ((Aa SS).hold 0 rfl) rfl) rfl ?_
 exact⟨rfl,(Aa SS).fr.below⟩
theorem ord_ext (h:HP) (j:Nat) (q:OB) (w:World) (H:h.Is w) (hl:h.l.length<=65536) (hj:h.l[j]? =some q):Calls prog 158 #[.agg #[], .pointer (some ⟨h.b,0,none⟩), .int .i64 ((j:Int)+1)] w fun e w'=>e= .returned (.tuple #[.bool q.x, .nilIface])/\Below w.heap.size w w':=by
 have SS:=Ab (Sy.nil w [])
 go_enter func158,ntmps158
 go_wp2_with (first|go_skip|((with_reducible show wpList ..);((refine bx0 91 (by rfl) rfl rfl (Aa SS) ?_);intro X0 B0 S0;replace SS:=Ab S0;clear S0;simp only[nn])))
 refine(Kg h j q _ (H.on (Aa SS).fr.below) hj hl).mono ?_
 rintro _ _ ⟨rfl,rfl⟩
 have HO:=Ab ((H.on (Aa SS).fr.below).ob hj).1
 go_wp2_with (first|go_skip|((with_reducible show wpList ..);(refine rd rfl (Ad 4 isAgg4 rfl rfl (Aa HO) rfl) ?_)))
 go_ret2
 exact⟨rfl,(Aa SS).fr.below⟩
theorem ord_keys (h:HP) (j:Nat) (q:OB) (w:World) (H:h.Is w) (hl:h.l.length<=65536) (hj:h.l[j]? =some q) (hT:Tabs w) (hlast:q.T.last<4000000) (hlv:q.T.live.length<=1500000):Calls prog 159 #[.agg #[], .pointer (some ⟨h.b,0,none⟩), .int .i64 ((j:Int)+1)] w fun e w'=> ∃v l9,e= .returned (.tuple #[v, .nilIface])/\OwnK w' w.heap.size v l9/\Below w.heap.size w w':=by
 have SS:=Ab (Sy.nil w [])
 go_enter func159,ntmps159
 go_wp2_with (first|go_skip|((with_reducible show wpList ..);((refine bx0 91 (by rfl) rfl rfl (Aa SS) ?_);intro X0 B0 S0;replace SS:=Ab S0;clear S0;simp only[nn])))
 refine(Kg h j q _ (H.on (Aa SS).fr.below) hj hl).mono ?_
 rintro _ _ ⟨rfl,rfl⟩
 have HI:=(H.on (Aa SS).fr.below).ob hj
 have HO:=Ab HI.1
 go_wp2_with (first|go_skip|((with_reducible show wpList ..);(refine rd rfl (Ad 97 isAgg97 rfl rfl (Aa HO) rfl) ?_)))
 have hb:=(Aa SS).fr.below
 refine(keysW q.T _ HI.2.1 hlast hlv (hT.on hb).1 (hT.on hb).2).mono ?_
 rintro _ Y ⟨v,l9,rfl,hO,hbY⟩
 have HF:=Ab (And.intro hO hbY)
 clear hO hbY
 go_wp2
 go_ret2
 refine⟨v,l9,rfl, ?_,hb.trans ((Aa HF).2.mono hb.size)⟩
 exact Um (Aa HF).1 hb.size
def HP.shut (h:HP) (j:Nat) (q:OB):HP:={h with l:=h.l.set j {q with x:=false}}
theorem Zcp (h:HP) (j:Nat) (q:OB) (w:World) (H:h.Is w) (hl:h.l.length<=65536) (hj:h.l[j]? =some q):Calls prog 160 #[.agg #[], .pointer (some ⟨h.b,0,none⟩), .int .i64 ((j:Int)+1)] w fun e w'=>e= .returned (.tuple #[.bool true, .nilIface])/\h.To (h.shut j q) w w':=by
 have SS:=Ab H.start
 go_enter func160,ntmps160
 go_wp2_with (first|go_skip|((with_reducible show wpList ..);((refine bx0 91 (by rfl) rfl rfl (Aa SS) ?_);intro X0 B0 S0;replace SS:=Ab S0;clear S0;simp only[nn])))
 refine(Kg h j q _ ((Aa SS).hp 0 rfl) hj hl).mono ?_
 rintro _ _ ⟨rfl,rfl⟩
 go_wp2_with (first|go_skip|((with_reducible show wpList ..);((refine stO (vs:= [.bool false]) (h.shut j q) (j:=j) (q:=q) (q':={q with x:=false}) 0 4 (by rfl) rfl rfl rfl rfl (by simp[Value.oneCell']) sz_b (Aa SS) rfl hj (by simp) rfl rfl rfl rfl rfl (by simp[Bw,OB.cs,VV.cs]) ?_);intro X1 S1;replace SS:=Ab S1;clear S1;simp only[nn])))
 go_ret2
 exact⟨rfl,HP.To.end H (Aa SS) rfl⟩
def HP.tab (h:HP) (j:Nat) (q:OB) (T':TT):HP:={h with l:=h.l.set j {q with T:=T'}}
def DelP (h:HP) (j:Nat) (q:OB) (k:KK) (h1:HP) (y:Bool):Prop:=(q.T.find k=none/\h1=h/\y=true)∨((q.T.find k).isSome=true/\(getD q.T k).c=1/\h1=h/\y=false)∨((q.T.find k).isSome=true/\(getD q.T k).c≠1/\y=true/\ ∃T':TT,h1=h.tab j q T'/\T'.last=q.T.last/\pr T'=Ze6 (pr q.T) k)
theorem ZbU {o:Oper} {a:Act} {w:World} {x y:Operand} {n m:Int} (ho:o.op= .binOp .eql 37 x y 37) (hx:a.eval x= .int .i64 n) (hc:a.eval y= .int .i64 m) (h:n=m):(execOp a.eval o).run prog w= .ok (.value (.bool true)) w:=by
 unfold execOp
 simp only[ho,hx,hc]
 simp[go_sem,eqGuard,h]
theorem Ou {o:Oper} {a:Act} {w:World} {x y:Operand} {n m:Int} (ho:o.op= .binOp .eql 37 x y 37) (hx:a.eval x= .int .i64 n) (hc:a.eval y= .int .i64 m) (h:n≠m):(execOp a.eval o).run prog w= .ok (.value (.bool false)) w:=by
 unfold execOp
 simp only[ho,hx,hc]
 simp[go_sem,eqGuard,h]
theorem Zdj (h:HP) (j:Nat) (q:OB) (k:KK) (w:World) (H:h.Is w) (hl:h.l.length<=65536) (hj:h.l[j]? =some q) (hk:OkK k) (hlast:q.T.last<100000):Calls prog 153 #[.agg #[], .pointer (some ⟨h.b,0,none⟩), .int .i64 ((j:Int)+1),k.agg] w fun e w'=> ∃(h1:HP) (y:Bool),e= .returned (.tuple #[.bool y, .nilIface])/\DelP h j q k h1 y/\h.To h1 w w':=by
 have hC:Hid (OkK k):=Ab hk
 cases hfi:q.T.find k with
 |none=>
  have SS:=Ab H.start
  rw[Ds]
  go_enter func153,ntmps153
  go_wp2_with (first|go_skip|((with_reducible show wpList ..);first|((refine bx0 91 (by rfl) rfl rfl (Aa SS) ?_);intro X0 B0 S0;replace SS:=Ab S0;clear S0;simp only[nn])|(refine zB 48 (k.cs) (by rfl) rfl rfl rfl SS ?_;clear SS;intro Xa Ba SS;simp only[nn])|(refine zL (k.cs) 48 2 1 rwK szK (by rfl) rfl rfl SS rfl rfl rfl ?_;simp only[nn])))
  have T0:h.To h w _:=HP.To.end H (Aa SS) rfl
  refine(Ki h j q k _ ((Aa SS).hp 0 rfl) hl hj hk).mono ?_
  rintro _ Y1 ⟨rfl,hb1⟩
  replace SS:=Ab ((Aa SS).on hb1)
  clear hb1 T0
  rw[hfi]
  go_wp2_with (first|go_skip|((with_reducible show wpList ..);first|(refine zA 39 (Ak.cs) (by rfl) rfl SS ?_;clear SS;intro Xb Bb SS;simp only[nn])|(refine zS ((getD q.T k).cs) 2 39 (by rfl) rfl rfl rfl rfl (Ek _) szD SS rfl ?_;clear SS;intro Xz SS;simp only[nn])))
  go_ret2
  exact⟨h,true,rfl, .inl ⟨hfi,rfl,rfl⟩,HP.To.end H (Aa SS) rfl⟩
 |some r=>
  by_cases hc:(getD q.T k).c=1
  ·have SS:=Ab H.start
   rw[Ds]
   go_enter func153,ntmps153
   go_wp2_with (first|go_skip|((with_reducible show wpList ..);first|((refine bx0 91 (by rfl) rfl rfl (Aa SS) ?_);intro X0 B0 S0;replace SS:=Ab S0;clear S0;simp only[nn])|(refine zB 48 (k.cs) (by rfl) rfl rfl rfl SS ?_;clear SS;intro Xa Ba SS;simp only[nn])|(refine zL (k.cs) 48 2 1 rwK szK (by rfl) rfl rfl SS rfl rfl rfl ?_;simp only[nn])))
   have T0:h.To h w _:=HP.To.end H (Aa SS) rfl
   refine(Ki h j q k _ ((Aa SS).hp 0 rfl) hl hj hk).mono ?_
   rintro _ Y1 ⟨rfl,hb1⟩
   replace SS:=Ab ((Aa SS).on hb1)
   clear hb1 T0
   rw[hfi]
   go_wp2_with (first|go_skip|((with_reducible show wpList ..);first|(refine zA 39 (Ak.cs) (by rfl) rfl SS ?_;clear SS;intro Xb Bb SS;simp only[nn])|(refine zS ((getD q.T k).cs) 2 39 (by rfl) rfl rfl rfl rfl (Ek _) szD SS rfl ?_;clear SS;intro Xz SS;simp only[nn])|(refine rd rfl (Ad 37 isAgg37 rfl rfl ((Aa SS).hold 2 rfl) rfl) ?_)|(refine rd rfl (ZbU rfl rfl rfl hc) ?_)))
   go_ret2
   exact⟨h,false,rfl, .inr (.inl ⟨by rw[hfi];rfl,hc,rfl,rfl⟩),HP.To.end H (Aa SS) rfl⟩
  ·have SS:=Ab H.start
   rw[Ds]
   go_enter func153,ntmps153
   go_wp2_with (first|go_skip|((with_reducible show wpList ..);first|((refine bx0 91 (by rfl) rfl rfl (Aa SS) ?_);intro X0 B0 S0;replace SS:=Ab S0;clear S0;simp only[nn])|(refine zB 48 (k.cs) (by rfl) rfl rfl rfl SS ?_;clear SS;intro Xa Ba SS;simp only[nn])|(refine zL (k.cs) 48 2 1 rwK szK (by rfl) rfl rfl SS rfl rfl rfl ?_;simp only[nn])))
   have T0:h.To h w _:=HP.To.end H (Aa SS) rfl
   refine(Ki h j q k _ ((Aa SS).hp 0 rfl) hl hj hk).mono ?_
   rintro _ Y1 ⟨rfl,hb1⟩
   replace SS:=Ab ((Aa SS).on hb1)
   clear hb1 T0
   rw[hfi]
   go_wp2_with (first|go_skip|((with_reducible show wpList ..);first|(refine zA 39 (Ak.cs) (by rfl) rfl SS ?_;clear SS;intro Xb Bb SS;simp only[nn])|(refine zS ((getD q.T k).cs) 2 39 (by rfl) rfl rfl rfl rfl (Ek _) szD SS rfl ?_;clear SS;intro Xz SS;simp only[nn])|(refine rd rfl (Ad 37 isAgg37 rfl rfl ((Aa SS).hold 2 rfl) rfl) ?_)|(refine rd rfl (Ou rfl rfl rfl hc) ?_)))
   have hS:Sy w _ h.blocks [hpO h,Aq Ba k.cs,Aq Bb (Bw Ak.cs 0 (getD q.T k).cs)]:=(Aa SS).drew
   clear SS
   refine wp_region_held_drew (P:=prog) (S:=fun _=>True) (by kernel_rfl) (trivial) (fun hS0=> ?_)
   refine gp 0 (some 29) (.pointer (some ⟨h.b,0,none⟩)) rfl rfl (trivial) ?_
   refine gp 1 (some 30) (.int .i64 ((j:Int)+1)) rfl rfl (trivial) ?_
   refine gr (rs:= [2,6]) (gc 2 (some 31) rfl rfl (Kg h j q _ (hS.hp 0 rfl) hj hl) ?_ (gv 6 (some 35) rfl rfl (Af (vs:=k.cs) 48 2 rwK szK rfl rfl (hS.hold 1 rfl) rfl rfl) (trivial) ?_ gn))
   ·rintro e Y1 ⟨rfl,rfl⟩
    refine⟨_,rfl,trivial, ?_⟩
    refine gp 3 (some 32) (.pointer (some ⟨q.b,0,none⟩)) rfl rfl (trivial) ?_
    refine gp 4 (some 33) (.pointer (some ⟨q.b,7,none⟩)) rfl rfl (trivial) ?_
    refine gr (rs:= [5,6]) (gv 5 (some 34) rfl rfl (Ad 97 isAgg97 rfl rfl ((hS.hp 0 rfl).ob hj).1 rfl) (trivial) ?_ (gv 6 (some 35) rfl rfl (Af (vs:=k.cs) 48 2 rwK szK rfl rfl (hS.hold 1 rfl) rfl rfl) (trivial) ?_ gn))
    ·simp only[nn]
     refine gr (rs:= [6]) (gv 6 (some 35) rfl rfl (Af (vs:=k.cs) 48 2 rwK szK rfl rfl (hS.hold 1 rfl) rfl rfl) (trivial) ?_ gn)
     simp only[nn]
     refine gr (rs:= [7]) (gc 7 (some 36) rfl rfl (Zaz q.T k _ ((hS.hp 0 rfl).ob hj).2.1 hk hlast) ?_ gn)
     rintro e Y4 ⟨rfl,T',hT4,ht4,hla4,hf4,hs4,hlv4⟩
     have hq4:=Sy.heap hS 0 rfl ((hS.hp 0 rfl).table hj hT4 ht4 hf4 hs4)
     refine⟨_,rfl,trivial, ?_⟩
     refine wpAnyH_done (by kernel_rfl) ?_ _
     try simp only[nn]
     have SS:=Ab hq4
     have HP_:=Ab (And.intro hla4 hlv4)
     clear hla4 hlv4
     go_wp2
     go_ret2
     exact⟨h.tab j q T',true,rfl, .inr (.inr ⟨by rw[hfi];rfl,hc,rfl,T',rfl,(Aa HP_).1,Zdg (Aa HP_).2⟩),HP.To.end H (Aa SS) rfl⟩
    ·simp only[nn]
     refine gr (rs:= [5]) (gv 5 (some 34) rfl rfl (Ad 97 isAgg97 rfl rfl ((hS.hp 0 rfl).ob hj).1 rfl) (trivial) ?_ gn)
     simp only[nn]
     refine gr (rs:= [7]) (gc 7 (some 36) rfl rfl (Zaz q.T k _ ((hS.hp 0 rfl).ob hj).2.1 hk hlast) ?_ gn)
     rintro e Y7 ⟨rfl,T',hT7,ht7,hla7,hf7,hs7,hlv7⟩
     have hq7:=Sy.heap hS 0 rfl ((hS.hp 0 rfl).table hj hT7 ht7 hf7 hs7)
     refine⟨_,rfl,trivial, ?_⟩
     refine wpAnyH_done (by kernel_rfl) ?_ _
     try simp only[nn]
     have SS:=Ab hq7
     have HP_:=Ab (And.intro hla7 hlv7)
     clear hla7 hlv7
     go_wp2
     go_ret2
     exact⟨h.tab j q T',true,rfl, .inr (.inr ⟨by rw[hfi];rfl,hc,rfl,T',rfl,(Aa HP_).1,Zdg (Aa HP_).2⟩),HP.To.end H (Aa SS) rfl⟩
   ·simp only[nn]
    refine gr (rs:= [2]) (gc 2 (some 31) rfl rfl (Kg h j q _ (hS.hp 0 rfl) hj hl) ?_ gn)
    rintro e Y9 ⟨rfl,rfl⟩
    refine⟨_,rfl,trivial, ?_⟩
    refine gp 3 (some 32) (.pointer (some ⟨q.b,0,none⟩)) rfl rfl (trivial) ?_
    refine gp 4 (some 33) (.pointer (some ⟨q.b,7,none⟩)) rfl rfl (trivial) ?_
    refine gr (rs:= [5]) (gv 5 (some 34) rfl rfl (Ad 97 isAgg97 rfl rfl ((hS.hp 0 rfl).ob hj).1 rfl) (trivial) ?_ gn)
    simp only[nn]
    refine gr (rs:= [7]) (gc 7 (some 36) rfl rfl (Zaz q.T k _ ((hS.hp 0 rfl).ob hj).2.1 hk hlast) ?_ gn)
    rintro e Y11 ⟨rfl,T',hT11,ht11,hla11,hf11,hs11,hlv11⟩
    have hq11:=Sy.heap hS 0 rfl ((hS.hp 0 rfl).table hj hT11 ht11 hf11 hs11)
    refine⟨_,rfl,trivial, ?_⟩
    refine wpAnyH_done (by kernel_rfl) ?_ _
    try simp only[nn]
    have SS:=Ab hq11
    have HP_:=Ab (And.intro hla11 hlv11)
    clear hla11 hlv11
    go_wp2
    go_ret2
    exact⟨h.tab j q T',true,rfl, .inr (.inr ⟨by rw[hfi];rfl,hc,rfl,T',rfl,(Aa HP_).1,Zdg (Aa HP_).2⟩),HP.To.end H (Aa SS) rfl⟩
