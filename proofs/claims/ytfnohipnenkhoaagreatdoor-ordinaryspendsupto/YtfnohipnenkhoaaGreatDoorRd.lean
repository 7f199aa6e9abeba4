import Derived.Test.YtfnohipnenkhoaaGreatDoorRc
set_option linter.all false
namespace Go.Proofs.YtfnohipnenkhoaaGreatDoor
set_option maxRecDepth 100000
set_option maxHeartbeats 0
section
open Go Go.Proofs Go.Maps Go.RowKit FM
def pr (T:TT):List (KK×DD):=T.live.map RR.pr
def hasP (l:List (KK×DD)) (k:KK):Bool:=l.any (fun e=>decide (e.1=k))
def lkP (l:List (KK×DD)) (k:KK):Option DD:=(l.find? (fun e=>decide (e.1=k))).map (·.2)
def ZcW (l:List (KK×DD)) (k:KK) (d:DD):List (KK×DD):=if hasP l k then l.map (fun e=>if e.1=k then (e.1,d) else e) else l++ [(k,d)]
def ZeR (l:List (KK×DD)) (k:KK):List (KK×DD):=l.filter (fun e=>decide (e.1≠k))
theorem Zc0 (T:TT) (k:KK):hasP (pr T) k=(T.find k).isSome:=by
 unfold hasP pr TT.find
 rw[List.isSome_find?,List.any_map]
 rfl
theorem pr_lk (T:TT) (k:KK):lkP (pr T) k=(T.find k).map (·.d):=by
 unfold lkP pr TT.find
 rw[List.find?_map,Option.map_map]
 rfl
theorem pr_get (T:TT) (k:KK):getD T k=(lkP (pr T) k).getD Ak:=by
 rw[pr_lk]
 rfl
theorem Zc1 {T T':TT} {k:KK} (hl:T'.live=T.live.filter (fun q=>decide (q.k≠k))):pr T'=ZeR (pr T) k:=by
 unfold pr ZeR
 rw[hl,List.filter_map]
 rfl
def PutT (T:TT) (k:KK) (d:DD) (T':TT):Prop:=(∃r,T.find k=some r/\T'=T.upd r.b d)∨(T.find k=none/\goodK k=true/\ ∃rv R,T'=T.added rv R k d)∨(T.find k=none/\goodK k=false/\T'=T)
theorem PutT.last {T T':TT} {k:KK} {d:DD} (h:PutT T k d T'):T'.last<=T.last+1:=by
 rcases h with ⟨r,h1,rfl⟩|⟨h1,h2,rv,B,rfl⟩|⟨h1,h2,rfl⟩
 ·exact Nat.le_succ _
 ·exact Nat.le_refl _
 ·exact Nat.le_succ _
theorem Zbk {T T':TT} {W:World} {k:KK} {d:DD} (hT:T.Is W) (hg:goodK k=true) (h:PutT T k d T'):pr T'=ZcW (pr T) k d:=by
 unfold ZcW
 rw[Zc0]
 rcases h with ⟨r,h1,rfl⟩|⟨h1,h2,rv,R,rfl⟩|⟨h1,h2,rfl⟩
 ·rw[h1,if_pos (show (some r).isSome=true from rfl)]
  have hrl:r∈T.live:=List.mem_of_find?_eq_some h1
  have hrk:r.k=k:=(TT.find_mem h1).2.2
  unfold pr
  rw[TT.upd_live,List.map_map,List.map_map]
  apply List.map_congr_left
  intro q hq
  have e:=Za2 hT hrl hq
  show RR.pr (Qr r.b d q)=if (RR.pr q).1=k then ((RR.pr q).1,d) else RR.pr q
  unfold Qr
  by_cases hb:q.b=r.b
  ·rw[if_pos hb,if_pos (show (RR.pr q).1=k from (e.1 hb).trans hrk)]
   rfl
  ·rw[if_neg hb,if_neg (show ¬(RR.pr q).1=k from fun h=>hb (e.2 (Eq.trans h hrk.symm)))]
 ·rw[h1,if_neg (show ¬((none:Option RR).isSome=true) by simp)]
  unfold pr
  rw[TT.added_live,List.map_append]
  rfl
 ·rw[hg] at h2
  cases h2
structure PO where
 c:Int
 p:VV
 x:Bool
 ps:List (KK×DD)
def OB.po (o:OB):PO:=⟨o.c,o.p,o.x,pr o.T⟩
def HP.abs (h:HP):List PO:=h.l.map OB.po
theorem abs_at {h:HP} {j:Nat} {q:OB} (hj:h.l[j]? =some q):h.abs[j]? =some q.po:=by
 unfold HP.abs
 rw[List.getElem?_map,hj]
 rfl
def Tabs (w:World):Prop:=Lib.Utf8Tabs 1 2 w/\TabQ w
theorem Tabs.on {w X:World} (h:Tabs w) (k:Below w.heap.size w X):Tabs X:=⟨Ar h.1 k,h.2.on k⟩
theorem Tabs.fr {w X:World} {E:List Nat} (h:Tabs w) (hf:Fr w X E) (hE: ∀b∈E,6<=b):Tabs X:=by
 refine⟨Za9 h.1 hf (fun b hb=>by have:=hE b hb;omega), ?_⟩
 obtain⟨T,hl,h2⟩:=h.2
 refine⟨T,hl, ?_⟩
 unfold Lib.TabIs World.var? at *
 have hg : Tryz.prog.globalNamed "internal/strconv.uint64pow10" = some 3 := by kernel_rfl
 simp only[hg,Option.bind_some] at h2 ⊢
 have hlt:3<w.heap.size:=by
  rcases Nat.lt_or_ge 3 w.heap.size with h'|h'
  ·exact h'
  ·rw[Array.getElem?_eq_none h'] at h2;simp at h2
 rw[hf.block 3 hlt (fun hm=>by have:=hE 3 hm;omega)]
 exact h2
theorem HP.To.tabs {h h':HP} {w X:World} (A:h.To h' w X) (H:h.Is w) (hT:Tabs w):Tabs X:=hT.fr A.fr H.low
theorem Oo (h:HP):h.abs.length=h.l.length:=List.length_map _
end
section
open Go Go.Proofs Go.Maps Go.RowKit FM
attribute [local go_sem] Ao Am Au Ah Ap Ai Ax Dn Dm Bq Aj Bp
theorem Ke (h:HP) (j:Nat) (q:OB) (k:KK) (w:World) (H:h.Is w) (hl:h.l.length<=65536) (hj:h.l[j]? =some q) (hk:OkK k):Calls Tryz.prog 163 #[.pointer (some ⟨h.b,0,none⟩), .int .i64 ((j:Int)+1),k.agg] w fun e w'=>e= .returned (.tuple #[(getD q.T k).agg, .bool (q.T.find k).isSome, .nilIface])/\Below w.heap.size w w':=by
 have SS:=Ab (Sy.nil w [])
 rw[Ds]
 go_enter Tryz.func163,Tryz.ntmps163
 go_wp2_with (first|go_skip|((with_reducible show wpList ..);first|(refine zB 48 (k.cs) (by rfl) rfl rfl rfl SS ?_;clear SS;intro Xa Ba SS;simp only[nn])|(refine zA 39 (Ak.cs) (by rfl) rfl SS ?_;clear SS;intro Xb Bb SS;simp only[nn])))
 have hS:Sy w _ [] [Aq Ba k.cs,Aq Bb Ak.cs]:=(Aa SS).drew
 clear SS
 have cu: ∀{X:World} {M:List Ob},Sy w X [] ([Aq Ba k.cs]++M)->Sy w X [] [Aq Ba k.cs]:=fun h=>Sy.left h
 refine wp_region_held_drew (P:=Tryz.prog) (S:=fun X=>Sy w X [] [Aq Ba k.cs]) (by kernel_rfl) (cu hS) (fun hS0=> ?_)
 refine gp 0 (some 9) (.pointer (some ⟨h.b,0,none⟩)) rfl rfl (cu hS) ?_
 simp only[nn]
 refine gp 1 (some 10) (.int .i64 ((j:Int)+1)) rfl rfl (cu hS) ?_
 simp only[nn]
 refine gp 6 (some 15) (.pointer (some ⟨h.b,0,none⟩)) rfl rfl (cu hS) ?_
 simp only[nn]
 refine gp 7 (some 16) (.int .i64 ((j:Int)+1)) rfl rfl (cu hS) ?_
 simp only[nn]
 refine gq 8 (some 17) (.agg k.cs.toArray) rfl rfl (fun X hX=>Af (vs:=k.cs) 48 2 rwK szK rfl rfl (hX.hold 0 rfl) rfl rfl) (cu hS) ?_
 simp only[nn]
 refine gr (rs:= [2]) (gcW 2 (some 11) rfl rfl (cu hS) (Kd h j q _ (H.on hS.fr.below) hj hl) ?_ gn)
 refine gp 3 (some 12) (.pointer (some ⟨q.b,0,none⟩)) rfl rfl (cu hS) ?_
 simp only[nn]
 refine gp 4 (some 13) (.pointer (some ⟨q.b,8,none⟩)) rfl rfl (cu hS) ?_
 simp only[nn]
 refine gq 5 (some 14) (.iface 91 (.agg #[])) rfl rfl (fun X hX=>Ad 99 Tryz.isAgg99 rfl rfl ((H.on hX.fr.below).ob hj).1 rfl) (cu hS) ?_
 simp only[nn]
 refine gr (rs:= [9]) (gcB 9 (some 18) rfl rfl hS (Zbq h j q k _ (H.on hS.fr.below) hl hj hk) (fun x=>cu x) ?_ gn)
 intro Y2 hq2
 refine gp 10 (some 19) ((getD q.T k).agg) rfl rfl (cu hq2) ?_
 simp only[nn]
 refine gp 11 (some 20) (.bool (q.T.find k).isSome) rfl rfl (cu hq2) ?_
 simp only[nn]
 refine gp 12 (some 21) (.nilIface) rfl rfl (cu hq2) ?_
 simp only[nn]
 refine gr (rs:= [13]) (Pn (vs:=(getD q.T k).cs) (new:=(getD q.T k).cs) 13 1 39 rfl rfl (by kernel_rfl) rfl rfl rfl rfl (Em _) szD hq2 rfl (by simp[Bs,VV.cs,KK.cs,DD.cs,OB.cs,hcs,Ak,Av]) (by simp[Bs,VV.cs,KK.cs,DD.cs,OB.cs,hcs,Ak,Av]) (fun _ hZ=>cu hZ) ?_ gn)
 intro Y3 hq3
 refine gp 14 (some 7) (.bool (q.T.find k).isSome) rfl rfl (cu hq3) ?_
 simp only[nn]
 refine gp 15 (some 8) (.nilIface) rfl rfl (cu hq3) ?_
 simp only[nn]
 refine wpAnyH_done (by kernel_rfl) ?_ _
 try simp only[nn]
 have SS:=Ab hq3
 go_wp2
 refine bodyPost_ret (Mc rwD szD rfl rfl rfl rfl ((Aa SS).hold 1 rfl) rfl) rfl ?_
 exact⟨rfl,(Aa SS).fr.below⟩
end
section
open Go Go.Proofs Go.Maps Go.RowKit FM Tryz
attribute [local go_sem] Ao Am Au Ah Ap Ai Ax Dn Dm Bq Aj Bp
theorem ZeD (h:HP) (j:Nat) (q:OB) (w:World) (H:h.Is w) (hl:h.l.length<=65536) (hj:h.l[j]? =some q):Calls prog 156 #[.agg #[], .pointer (some ⟨h.b,0,none⟩), .int .i64 ((j:Int)+1)] w fun e w'=>e= .returned (.tuple #[q.p.agg, .nilIface])/\Below w.heap.size w w':=by
 have SS:=Ab (Sy.nil w [])
 go_enter func156,ntmps156
 go_wp2_with (first|go_skip|((with_reducible show wpList ..);first|((refine bx0 91 (by rfl) rfl rfl (Aa SS) ?_);intro X0 B0 S0;replace SS:=Ab S0;clear S0;simp only[nn])|(refine zA 36 (Av.cs) (by rfl) rfl SS ?_;clear SS;intro Xc Bc SS;simp only[nn])))
 refine(Kd h j q _ (H.on (Aa SS).fr.below) hj hl).mono ?_
 rintro _ _ ⟨rfl,rfl⟩
 have HO:=Ab ((H.on (Aa SS).fr.below).ob hj).1
 go_wp2_with (first|go_skip|((with_reducible show wpList ..);first|(refine rd rfl (Af (vs:=q.p.cs) 36 5 rwV szV rfl rfl (Aa HO) rfl rfl) ?_;simp only[nn])|(refine zS (q.p.cs) 0 36 (by rfl) rfl rfl rfl rfl (Ek _) szV SS rfl ?_;clear SS;intro Xz SS;simp only[nn])))
 refine bodyPost_ret (Gp rwV szV rfl rfl rfl ((Aa SS).hold 0 rfl) rfl) rfl ?_
 exact⟨rfl,(Aa SS).fr.below⟩
theorem ord_ext (h:HP) (j:Nat) (q:OB) (w:World) (H:h.Is w) (hl:h.l.length<=65536) (hj:h.l[j]? =some q):Calls prog 158 #[.agg #[], .pointer (some ⟨h.b,0,none⟩), .int .i64 ((j:Int)+1)] w fun e w'=>e= .returned (.tuple #[.bool q.x, .nilIface])/\Below w.heap.size w w':=by
 have SS:=Ab (Sy.nil w [])
 go_enter func158,ntmps158
 go_wp2_with (first|go_skip|((with_reducible show wpList ..);((refine bx0 91 (by rfl) rfl rfl (Aa SS) ?_);intro X0 B0 S0;replace SS:=Ab S0;clear S0;simp only[nn])))
 refine(Kd h j q _ (H.on (Aa SS).fr.below) hj hl).mono ?_
 rintro _ _ ⟨rfl,rfl⟩
 have HO:=Ab ((H.on (Aa SS).fr.below).ob hj).1
 go_wp2_with (first|go_skip|((with_reducible show wpList ..);(refine rd rfl (Ad 4 isAgg4 rfl rfl (Aa HO) rfl) ?_;simp only[nn])))
 go_ret2
 exact⟨rfl,(Aa SS).fr.below⟩
theorem ord_keys (h:HP) (j:Nat) (q:OB) (w:World) (H:h.Is w) (hl:h.l.length<=65536) (hj:h.l[j]? =some q) (hT:Tabs w) (hlast:q.T.last<4000000) (hlv:q.T.live.length<=1500000):Calls prog 159 #[.agg #[], .pointer (some ⟨h.b,0,none⟩), .int .i64 ((j:Int)+1)] w fun e w'=> ∃v l9,e= .returned (.tuple #[v, .nilIface])/\OwnK w' w.heap.size v l9/\Below w.heap.size w w':=by
 have SS:=Ab (Sy.nil w [])
 go_enter func159,ntmps159
 go_wp2_with (first|go_skip|((with_reducible show wpList ..);((refine bx0 91 (by rfl) rfl rfl (Aa SS) ?_);intro X0 B0 S0;replace SS:=Ab S0;clear S0;simp only[nn])))
 refine(Kd h j q _ (H.on (Aa SS).fr.below) hj hl).mono ?_
 rintro _ _ ⟨rfl,rfl⟩
 have HI:=(H.on (Aa SS).fr.below).ob hj
 have HO:=Ab HI.1
 go_wp2_with (first|go_skip|((with_reducible show wpList ..);(refine rd rfl (Ad 97 isAgg97 rfl rfl (Aa HO) rfl) ?_;simp only[nn])))
 have hb:=(Aa SS).fr.below
 refine(keysW q.T _ HI.2.1 hlast hlv (hT.on hb).1 (hT.on hb).2).mono ?_
 rintro _ Y ⟨v,l9,rfl,hO,hbY⟩
 have HF:=Ab (And.intro hO hbY)
 clear hO hbY
 go_wp2
 go_ret2
 refine⟨v,l9,rfl, ?_,hb.trans ((Aa HF).2.mono hb.size)⟩
 exact Ua (Aa HF).1 hb.size
def HP.shut (h:HP) (j:Nat) (q:OB):HP:={h with l:=h.l.set j {q with x:=false}}
theorem Zcb (h:HP) (j:Nat) (q:OB) (w:World) (H:h.Is w) (hl:h.l.length<=65536) (hj:h.l[j]? =some q):Calls prog 160 #[.agg #[], .pointer (some ⟨h.b,0,none⟩), .int .i64 ((j:Int)+1)] w fun e w'=>e= .returned (.tuple #[.bool true, .nilIface])/\h.To (h.shut j q) w w':=by
 have SS:=Ab H.start
 go_enter func160,ntmps160
 go_wp2_with (first|go_skip|((with_reducible show wpList ..);((refine bx0 91 (by rfl) rfl rfl (Aa SS) ?_);intro X0 B0 S0;replace SS:=Ab S0;clear S0;simp only[nn])))
 refine(Kd h j q _ ((Aa SS).hp 0 rfl) hj hl).mono ?_
 rintro _ _ ⟨rfl,rfl⟩
 go_wp2_with (first|go_skip|((with_reducible show wpList ..);((refine stO (vs:= [.bool false]) (h.shut j q) (j:=j) (q:=q) (q':={q with x:=false}) 0 4 (by rfl) rfl rfl rfl rfl (by simp[Value.oneCell']) sz_b (Aa SS) rfl hj (by simp) rfl rfl rfl rfl rfl (by simp[Bs,OB.cs,VV.cs]) ?_);intro X1 S1;replace SS:=Ab S1;clear S1;simp only[nn])))
 go_ret2
 exact⟨rfl,HP.To.end H (Aa SS) rfl⟩
def HP.tab (h:HP) (j:Nat) (q:OB) (T':TT):HP:={h with l:=h.l.set j {q with T:=T'}}
def DelP (h:HP) (j:Nat) (q:OB) (k:KK) (h1:HP) (y:Bool):Prop:=(q.T.find k=none/\h1=h/\y=true)∨((q.T.find k).isSome=true/\(getD q.T k).c=1/\h1=h/\y=false)∨((q.T.find k).isSome=true/\(getD q.T k).c≠1/\y=true/\ ∃T':TT,h1=h.tab j q T'/\T'.last=q.T.last/\pr T'=ZeR (pr q.T) k)
theorem ZbK {o:Oper} {a:Act} {w:World} {x y:Operand} {n m:Int} (ho:o.op= .binOp .eql 37 x y 37) (hx:a.eval x= .int .i64 n) (hc:a.eval y= .int .i64 m) (h:n=m):(execOp a.eval o).run prog w= .ok (.value (.bool true)) w:=by
 unfold execOp
 simp only[ho,hx,hc]
 simp[go_sem,eqGuard,h]
theorem Oi {o:Oper} {a:Act} {w:World} {x y:Operand} {n m:Int} (ho:o.op= .binOp .eql 37 x y 37) (hx:a.eval x= .int .i64 n) (hc:a.eval y= .int .i64 m) (h:n≠m):(execOp a.eval o).run prog w= .ok (.value (.bool false)) w:=by
 unfold execOp
 simp only[ho,hx,hc]
 simp[go_sem,eqGuard,h]
theorem Zc4 (h:HP) (j:Nat) (q:OB) (k:KK) (w:World) (H:h.Is w) (hl:h.l.length<=65536) (hj:h.l[j]? =some q) (hk:OkK k) (hlast:q.T.last<100000):Calls prog 153 #[.agg #[], .pointer (some ⟨h.b,0,none⟩), .int .i64 ((j:Int)+1),k.agg] w fun e w'=> ∃(h1:HP) (y:Bool),e= .returned (.tuple #[.bool y, .nilIface])/\DelP h j q k h1 y/\h.To h1 w w':=by
 have hC:Hid (OkK k):=Ab hk
 cases hfi:q.T.find k with
 |none=>
  have SS:=Ab H.start
  rw[Ds]
  go_enter func153,ntmps153
  go_wp2_with (first|go_skip|((with_reducible show wpList ..);first|((refine bx0 91 (by rfl) rfl rfl (Aa SS) ?_);intro X0 B0 S0;replace SS:=Ab S0;clear S0;simp only[nn])|(refine zB 48 (k.cs) (by rfl) rfl rfl rfl SS ?_;clear SS;intro Xa Ba SS;simp only[nn])|(refine zL (k.cs) 48 2 1 rwK szK (by rfl) rfl rfl SS rfl rfl rfl ?_;simp only[nn])))
  have T0:h.To h w _:=HP.To.end H (Aa SS) rfl
  refine(Ke h j q k _ ((Aa SS).hp 0 rfl) hl hj hk).mono ?_
  rintro _ Y1 ⟨rfl,hb1⟩
  replace SS:=Ab ((Aa SS).on hb1)
  clear hb1 T0
  rw[hfi]
  go_wp2_with (first|go_skip|((with_reducible show wpList ..);first|(refine zA 39 (Ak.cs) (by rfl) rfl SS ?_;clear SS;intro Xb Bb SS;simp only[nn])|(refine zS ((getD q.T k).cs) 2 39 (by rfl) rfl rfl rfl rfl (Em _) szD SS rfl ?_;clear SS;intro Xz SS;simp only[nn])))
  go_ret2
  exact⟨h,true,rfl, .inl ⟨hfi,rfl,rfl⟩,HP.To.end H (Aa SS) rfl⟩
 |some r=>
  by_cases hc:(getD q.T k).c=1
  ·have SS:=Ab H.start
   rw[Ds]
   go_enter func153,ntmps153
   go_wp2_with (first|go_skip|((with_reducible show wpList ..);first|((refine bx0 91 (by rfl) rfl rfl (Aa SS) ?_);intro X0 B0 S0;replace SS:=Ab S0;clear S0;simp only[nn])|(refine zB 48 (k.cs) (by rfl) rfl rfl rfl SS ?_;clear SS;intro Xa Ba SS;simp only[nn])|(refine zL (k.cs) 48 2 1 rwK szK (by rfl) rfl rfl SS rfl rfl rfl ?_;simp only[nn])))
   have T0:h.To h w _:=HP.To.end H (Aa SS) rfl
   refine(Ke h j q k _ ((Aa SS).hp 0 rfl) hl hj hk).mono ?_
   rintro _ Y1 ⟨rfl,hb1⟩
   replace SS:=Ab ((Aa SS).on hb1)
   clear hb1 T0
   rw[hfi]
   go_wp2_with (first|go_skip|((with_reducible show wpList ..);first|(refine zA 39 (Ak.cs) (by rfl) rfl SS ?_;clear SS;intro Xb Bb SS;simp only[nn])|(refine zS ((getD q.T k).cs) 2 39 (by rfl) rfl rfl rfl rfl (Em _) szD SS rfl ?_;clear SS;intro Xz SS;simp only[nn])|(refine rd rfl (Ad 37 isAgg37 rfl rfl ((Aa SS).hold 2 rfl) rfl) ?_;simp only[nn])|(refine rd rfl (ZbK rfl rfl rfl hc) ?_;simp only[nn])))
   go_ret2
   exact⟨h,false,rfl, .inr (.inl ⟨by rw[hfi];rfl,hc,rfl,rfl⟩),HP.To.end H (Aa SS) rfl⟩
  ·have SS:=Ab H.start
   rw[Ds]
   go_enter func153,ntmps153
   go_wp2_with (first|go_skip|((with_reducible show wpList ..);first|((refine bx0 91 (by rfl) rfl rfl (Aa SS) ?_);intro X0 B0 S0;replace SS:=Ab S0;clear S0;simp only[nn])|(refine zB 48 (k.cs) (by rfl) rfl rfl rfl SS ?_;clear SS;intro Xa Ba SS;simp only[nn])|(refine zL (k.cs) 48 2 1 rwK szK (by rfl) rfl rfl SS rfl rfl rfl ?_;simp only[nn])))
   have T0:h.To h w _:=HP.To.end H (Aa SS) rfl
   refine(Ke h j q k _ ((Aa SS).hp 0 rfl) hl hj hk).mono ?_
   rintro _ Y1 ⟨rfl,hb1⟩
   replace SS:=Ab ((Aa SS).on hb1)
   clear hb1 T0
   rw[hfi]
   go_wp2_with (first|go_skip|((with_reducible show wpList ..);first|(refine zA 39 (Ak.cs) (by rfl) rfl SS ?_;clear SS;intro Xb Bb SS;simp only[nn])|(refine zS ((getD q.T k).cs) 2 39 (by rfl) rfl rfl rfl rfl (Em _) szD SS rfl ?_;clear SS;intro Xz SS;simp only[nn])|(refine rd rfl (Ad 37 isAgg37 rfl rfl ((Aa SS).hold 2 rfl) rfl) ?_;simp only[nn])|(refine rd rfl (Oi rfl rfl rfl hc) ?_;simp only[nn])))
   have hS:Sy w _ h.blocks [hpO h,Aq Ba k.cs,Aq Bb (Bs Ak.cs 0 (getD q.T k).cs)]:=(Aa SS).drew
   clear SS
   refine wp_region_held_drew (P:=prog) (S:=fun _=>True) (by kernel_rfl) (trivial) (fun hS0=> ?_)
   refine gp 0 (some 29) (.pointer (some ⟨h.b,0,none⟩)) rfl rfl (trivial) ?_
   simp only[nn]
   refine gp 1 (some 30) (.int .i64 ((j:Int)+1)) rfl rfl (trivial) ?_
   simp only[nn]
   refine gr (rs:= [2,6]) (gc 2 (some 31) rfl rfl (Kd h j q _ (hS.hp 0 rfl) hj hl) ?_ (gv 6 (some 35) rfl rfl (Af (vs:=k.cs) 48 2 rwK szK rfl rfl (hS.hold 1 rfl) rfl rfl) (trivial) ?_ gn))
   ·rintro e Y1 ⟨rfl,rfl⟩
    refine⟨_,rfl,trivial, ?_⟩
    refine gp 3 (some 32) (.pointer (some ⟨q.b,0,none⟩)) rfl rfl (trivial) ?_
    simp only[nn]
    refine gp 4 (some 33) (.pointer (some ⟨q.b,7,none⟩)) rfl rfl (trivial) ?_
    simp only[nn]
    refine gr (rs:= [5,6]) (gv 5 (some 34) rfl rfl (Ad 97 isAgg97 rfl rfl ((hS.hp 0 rfl).ob hj).1 rfl) (trivial) ?_ (gv 6 (some 35) rfl rfl (Af (vs:=k.cs) 48 2 rwK szK rfl rfl (hS.hold 1 rfl) rfl rfl) (trivial) ?_ gn))
    ·simp only[nn]
     refine gr (rs:= [6]) (gv 6 (some 35) rfl rfl (Af (vs:=k.cs) 48 2 rwK szK rfl rfl (hS.hold 1 rfl) rfl rfl) (trivial) ?_ gn)
     simp only[nn]
     refine gr (rs:= [7]) (gc 7 (some 36) rfl rfl (Zam q.T k _ ((hS.hp 0 rfl).ob hj).2.1 hk hlast) ?_ gn)
     rintro e Y4 ⟨rfl,T',hT4,ht4,hla4,hf4,hs4,hlv4⟩
     have hq4:=Sy.heap hS 0 rfl ((hS.hp 0 rfl).table hj hT4 ht4 hf4 hs4)
     refine⟨_,rfl,trivial, ?_⟩
     refine wpAnyH_done (by kernel_rfl) ?_ _
     try simp only[nn]
     have SS:=Ab hq4
     have HP_:=Ab (And.intro hla4 hlv4)
     clear hla4 hlv4
     go_wp2
     go_ret2
     exact⟨h.tab j q T',true,rfl, .inr (.inr ⟨by rw[hfi];rfl,hc,rfl,T',rfl,(Aa HP_).1,Zc1 (Aa HP_).2⟩),HP.To.end H (Aa SS) rfl⟩
    ·simp only[nn]
     refine gr (rs:= [5]) (gv 5 (some 34) rfl rfl (Ad 97 isAgg97 rfl rfl ((hS.hp 0 rfl).ob hj).1 rfl) (trivial) ?_ gn)
     simp only[nn]
     refine gr (rs:= [7]) (gc 7 (some 36) rfl rfl (Zam q.T k _ ((hS.hp 0 rfl).ob hj).2.1 hk hlast) ?_ gn)
     rintro e Y7 ⟨rfl,T',hT7,ht7,hla7,hf7,hs7,hlv7⟩
     have hq7:=Sy.heap hS 0 rfl ((hS.hp 0 rfl).table hj hT7 ht7 hf7 hs7)
     refine⟨_,rfl,trivial, ?_⟩
     refine wpAnyH_done (by kernel_rfl) ?_ _
     try simp only[nn]
     have SS:=Ab hq7
     have HP_:=Ab (And.intro hla7 hlv7)
     clear hla7 hlv7
     go_wp2
     go_ret2
     exact⟨h.tab j q T',true,rfl, .inr (.inr ⟨by rw[hfi];rfl,hc,rfl,T',rfl,(Aa HP_).1,Zc1 (Aa HP_).2⟩),HP.To.end H (Aa SS) rfl⟩
   ·simp only[nn]
    refine gr (rs:= [2]) (gc 2 (some 31) rfl rfl (Kd h j q _ (hS.hp 0 rfl) hj hl) ?_ gn)
    rintro e Y9 ⟨rfl,rfl⟩
    refine⟨_,rfl,trivial, ?_⟩
    refine gp 3 (some 32) (.pointer (some ⟨q.b,0,none⟩)) rfl rfl (trivial) ?_
    simp only[nn]
    refine gp 4 (some 33) (.pointer (some ⟨q.b,7,none⟩)) rfl rfl (trivial) ?_
    simp only[nn]
    refine gr (rs:= [5]) (gv 5 (some 34) rfl rfl (Ad 97 isAgg97 rfl rfl ((hS.hp 0 rfl).ob hj).1 rfl) (trivial) ?_ gn)
    simp only[nn]
    refine gr (rs:= [7]) (gc 7 (some 36) rfl rfl (Zam q.T k _ ((hS.hp 0 rfl).ob hj).2.1 hk hlast) ?_ gn)
    rintro e Y11 ⟨rfl,T',hT11,ht11,hla11,hf11,hs11,hlv11⟩
    have hq11:=Sy.heap hS 0 rfl ((hS.hp 0 rfl).table hj hT11 ht11 hf11 hs11)
    refine⟨_,rfl,trivial, ?_⟩
    refine wpAnyH_done (by kernel_rfl) ?_ _
    try simp only[nn]
    have SS:=Ab hq11
    have HP_:=Ab (And.intro hla11 hlv11)
    clear hla11 hlv11
    go_wp2
    go_ret2
    exact⟨h.tab j q T',true,rfl, .inr (.inr ⟨by rw[hfi];rfl,hc,rfl,T',rfl,(Aa HP_).1,Zc1 (Aa HP_).2⟩),HP.To.end H (Aa SS) rfl⟩
def DefP (h:HP) (j:Nat) (q:OB) (k:KK) (d:DD) (h1:HP) (y:Bool):Prop:=y=Yk q.x (getD q.T k) d/\((y=false/\h1=h)∨(y=true/\ ∃T':TT,h1=h.tab j q T'/\T'.last<=q.T.last+1/\pr T'=ZcW (pr q.T) k (Eb q.x (getD q.T k) d)))
theorem Zbj (T:TT) (k:KK) (d:DD) (w:World) (hT:T.Is w) (hU:Lib.Utf8Tabs 1 2 w) (hk:OkK k) (hl:T.last<4000000) (hTT: ∀b∈T.blocks,3<=b) (hg:goodK k=true):Calls prog 75 #[.pointer (some ⟨T.t,0,none⟩),k.agg,d.agg] w fun e w'=>e= .returned (.int .i64 0)/\ ∃T':TT,T'.Is w'/\T'.t=T.t/\Fr w w' T.blocks/\(∀b∈T'.blocks,b∈T.blocks∨w.heap.size<=b)/\PutT T k d T':=by
 refine(put12 T k d w hT hU hk hl hTT).mono (fun e w' hh=> ?_)
 obtain⟨h1,T',a,b,c,d2,e2⟩:=hh
 exact⟨by rw[h1,if_pos hg],T',a,b,c,d2,e2⟩
theorem Qt (h:HP) (j:Nat) (q:OB) (k:KK) (d:DD) (w:World) (H:h.Is w) (hl:h.l.length<=65536) (hj:h.l[j]? =some q) (hT:Tabs w) (hk:OkK k) (hg:goodK k=true) (hFn:FD (getD q.T k)) (hFd:FD d) (hlast:q.T.last<4000000):Calls prog 47 #[.agg #[], .pointer (some ⟨h.b,0,none⟩), .int .i64 ((j:Int)+1),k.agg,d.agg] w fun e w'=> ∃(h1:HP) (y:Bool),e= .returned (.tuple #[.bool y, .nilIface])/\DefP h j q k d h1 y/\h.To h1 w w':=by
 have HA:=fun (w:World) (hT:Tabs w)=>Zfa q.x (getD q.T k) d hFn hFd w hT.1
 cases hb:Yk q.x (getD q.T k) d with
 |false=>
  simp only[hb] at HA
  have SS:=Ab H.start
  rw[Ds,Mn]
  go_enter func47,ntmps47
  go_wp2_with (first|go_skip|((with_reducible show wpList ..);first|((refine bx0 91 (by rfl) rfl rfl (Aa SS) ?_);intro X0 B0 S0;replace SS:=Ab S0;clear S0;simp only[nn])|(refine zB 48 (k.cs) (by rfl) rfl rfl rfl SS ?_;clear SS;intro Xa Ba SS;simp only[nn])|(refine zB 39 (d.cs) (by rfl) rfl rfl rfl SS ?_;clear SS;intro Xb Bb SS;simp only[nn])))
  refine(Kd h j q _ ((Aa SS).hp 0 rfl) hj hl).mono ?_
  rintro _ _ ⟨rfl,rfl⟩
  go_wp2
  have hS2:Sy w _ h.blocks [hpO h,Aq Ba k.cs,Aq Bb d.cs]:=(Aa SS).drew
  clear SS
  have cu: ∀{X:World} {M:List Ob},Sy w X h.blocks ([hpO h,Aq Ba k.cs,Aq Bb d.cs]++M)->Sy w X h.blocks [hpO h,Aq Ba k.cs,Aq Bb d.cs]:=fun h=>Sy.left h
  refine wp_region_held_drew (P:=prog) (S:=fun X=>Sy w X h.blocks _) (by kernel_rfl) (hS2) (fun hS0=> ?_)
  refine gp 0 (some 22) (.pointer (some ⟨q.b,0,none⟩)) rfl rfl (hS2) ?_
  simp only[nn]
  refine gp 1 (some 23) (.pointer (some ⟨q.b,0,none⟩)) rfl rfl (hS2) ?_
  simp only[nn]
  refine gp 2 (some 24) (.pointer (some ⟨q.b,7,none⟩)) rfl rfl (hS2) ?_
  simp only[nn]
  refine gq 3 (some 25) (.pointer (some ⟨q.T.t,0,none⟩)) rfl rfl (fun X hX=>Ad 97 isAgg97 rfl rfl ((hX.hp 0 rfl).ob hj).1 rfl) (hS2) ?_
  simp only[nn]
  refine gq 4 (some 26) (.agg k.cs.toArray) rfl rfl (fun X hX=>Af (vs:=k.cs) 48 2 rwK szK rfl rfl (hX.hold 1 rfl) rfl rfl) (hS2) ?_
  simp only[nn]
  refine gr (rs:= [5,9]) (gcB 5 (some 27) rfl rfl hS2 (Zx q.T k _ ((hS2.hp 0 rfl).ob hj).2.1 hk) id ?_ (Qy (v:= .agg (Ak.cs).toArray) 9 (some 13) 39 (Ak.cs) rfl rfl (by kernel_rfl) rfl (fun w=>by kernel_rfl) rfl (Nat.succ_pos _) hS2 (fun _ hZ=>cu hZ) ?_ gn))
  ·intro Ys1 hqs1
   refine gp 6 (some 21) (.tuple #[(getD q.T k).agg, .bool (q.T.find k).isSome]) rfl rfl (hqs1) ?_
   simp only[nn]
   refine gp 7 (some 28) ((getD q.T k).agg) rfl rfl (hqs1) ?_
   simp only[nn]
   refine gp 8 (some 29) (.bool (q.T.find k).isSome) rfl rfl (hqs1) ?_
   simp only[nn]
   refine gr (rs:= [9]) (Qy (v:= .agg (Ak.cs).toArray) 9 (some 13) 39 (Ak.cs) rfl rfl (by kernel_rfl) rfl (fun w=>by kernel_rfl) rfl (Nat.succ_pos _) hqs1 (fun _ hZ=>cu hZ) ?_ gn)
   intro Ys2 Bs2 hEs2 hqs2
   clear hEs2
   simp only[nn]
   refine gr (rs:= [10]) (Pn (vs:=(getD q.T k).cs) (new:=(getD q.T k).cs) 10 3 39 rfl rfl (by kernel_rfl) rfl rfl rfl rfl (Em _) szD hqs2 rfl (by simp[Bs,VV.cs,KK.cs,DD.cs,OB.cs,hcs,Ak,Av]) (by simp[Bs,VV.cs,KK.cs,DD.cs,OB.cs,hcs,Ak,Av]) (fun _ hZ=>cu hZ) ?_ gn)
   intro Ys3 hqs3
   refine gp 11 (some 14) (.bool (q.T.find k).isSome) rfl rfl (cu hqs3) ?_
   simp only[nn]
   refine wpAnyH_done (by kernel_rfl) ?_ _
   try simp only[nn]
   have SS:=Ab hqs3
   go_wp2
   have hS3:Sy w _ h.blocks [hpO h,Aq Ba k.cs,Aq Bb d.cs,Aq Bs2 ((getD q.T k).cs)]:=(Aa SS).drew
   clear SS
   have cu: ∀{X:World} {M:List Ob},Sy w X h.blocks ([hpO h,Aq Ba k.cs,Aq Bb d.cs,Aq Bs2 ((getD q.T k).cs)]++M)->Sy w X h.blocks [hpO h,Aq Ba k.cs,Aq Bb d.cs,Aq Bs2 ((getD q.T k).cs)]:=fun h=>Sy.left h
   refine wp_region_held_drew (P:=prog) (S:=fun X=>Sy w X h.blocks _) (by kernel_rfl) (hS3) (fun hS0=> ?_)
   refine gp 0 (some 31) (.pointer (some ⟨q.b,0,none⟩)) rfl rfl (hS3) ?_
   simp only[nn]
   refine gp 1 (some 32) (.pointer (some ⟨q.b,0,none⟩)) rfl rfl (hS3) ?_
   simp only[nn]
   refine gp 2 (some 33) (.pointer (some ⟨q.b,6,none⟩)) rfl rfl (hS3) ?_
   simp only[nn]
   refine gq 3 (some 34) (.bool q.x) rfl rfl (fun X hX=>Ad 4 isAgg4 rfl rfl ((hX.hp 0 rfl).ob hj).1 rfl) (hS3) ?_
   simp only[nn]
   refine gq 4 (some 35) (.agg ((getD q.T k).cs).toArray) rfl rfl (fun X hX=>Af (vs:=(getD q.T k).cs) 39 18 rwD szD rfl rfl (hX.hold 3 rfl) rfl rfl) (hS3) ?_
   simp only[nn]
   refine gq 5 (some 36) (.agg (d.cs).toArray) rfl rfl (fun X hX=>Af (vs:=d.cs) 39 18 rwD szD rfl rfl (hX.hold 2 rfl) rfl rfl) (hS3) ?_
   simp only[nn]
   refine gr (rs:= [6,11]) (gcB 6 (some 37) rfl rfl hS3 (HA _ (hT.fr hS3.fr H.low)) id ?_ (Qy (v:= .agg (Ak.cs).toArray) 11 (some 15) 39 (Ak.cs) rfl rfl (by kernel_rfl) rfl (fun w=>by kernel_rfl) rfl (Nat.succ_pos _) hS3 (fun _ hZ=>cu hZ) ?_ gn))
   ·intro Yt1 hqt1
    refine gp 7 (some 30) (.tuple #[(Eb q.x (getD q.T k) d).agg, .bool false, .int .i64 (Lk (getD q.T k) d)]) rfl rfl (hqt1) ?_
    simp only[nn]
    refine gp 8 (some 38) ((Eb q.x (getD q.T k) d).agg) rfl rfl (hqt1) ?_
    simp only[nn]
    refine gp 9 (some 39) (.bool false) rfl rfl (hqt1) ?_
    simp only[nn]
    refine gp 10 (some 40) (.int .i64 (Lk (getD q.T k) d)) rfl rfl (hqt1) ?_
    simp only[nn]
    refine gr (rs:= [11]) (Qy (v:= .agg (Ak.cs).toArray) 11 (some 15) 39 (Ak.cs) rfl rfl (by kernel_rfl) rfl (fun w=>by kernel_rfl) rfl (Nat.succ_pos _) hqt1 (fun _ hZ=>cu hZ) ?_ gn)
    intro Yt2 Bt2 hEt2 hqt2
    clear hEt2
    simp only[nn]
    refine gr (rs:= [12]) (Pn (vs:=(Eb q.x (getD q.T k) d).cs) (new:=(Eb q.x (getD q.T k) d).cs) 12 4 39 rfl rfl (by kernel_rfl) rfl rfl rfl rfl (Em _) szD hqt2 rfl (by simp[Bs,VV.cs,KK.cs,DD.cs,OB.cs,hcs,Ak,Av]) (by simp[Bs,VV.cs,KK.cs,DD.cs,OB.cs,hcs,Ak,Av]) (fun _ hZ=>cu hZ) ?_ gn)
    intro Yt3 hqt3
    refine gp 13 (some 16) (.bool false) rfl rfl (cu hqt3) ?_
    simp only[nn]
    refine gp 14 (some 17) (.int .i64 (Lk (getD q.T k) d)) rfl rfl (cu hqt3) ?_
    simp only[nn]
    refine wpAnyH_done (by kernel_rfl) ?_ _
    try simp only[nn]
    have SS:=Ab hqt3
    go_wp2
    go_ret2
    exact⟨h,false,rfl,⟨hb.symm, .inl ⟨rfl,rfl⟩⟩,HP.To.end H (Aa SS) rfl⟩
   ·intro Yt4 Bt4 hEt4 hqt4
    clear hEt4
    simp only[nn]
    refine gr (rs:= [6]) (gcB 6 (some 37) rfl rfl hqt4 (HA _ (hT.fr hqt4.fr H.low)) (fun x=>cu x) ?_ gn)
    intro Yt5 hqt5
    refine gp 7 (some 30) (.tuple #[(Eb q.x (getD q.T k) d).agg, .bool false, .int .i64 (Lk (getD q.T k) d)]) rfl rfl (cu hqt5) ?_
    simp only[nn]
    refine gp 8 (some 38) ((Eb q.x (getD q.T k) d).agg) rfl rfl (cu hqt5) ?_
    simp only[nn]
    refine gp 9 (some 39) (.bool false) rfl rfl (cu hqt5) ?_
    simp only[nn]
    refine gp 10 (some 40) (.int .i64 (Lk (getD q.T k) d)) rfl rfl (cu hqt5) ?_
    simp only[nn]
    refine gr (rs:= [12]) (Pn (vs:=(Eb q.x (getD q.T k) d).cs) (new:=(Eb q.x (getD q.T k) d).cs) 12 4 39 rfl rfl (by kernel_rfl) rfl rfl rfl rfl (Em _) szD hqt5 rfl (by simp[Bs,VV.cs,KK.cs,DD.cs,OB.cs,hcs,Ak,Av]) (by simp[Bs,VV.cs,KK.cs,DD.cs,OB.cs,hcs,Ak,Av]) (fun _ hZ=>cu hZ) ?_ gn)
    intro Yt6 hqt6
    refine gp 13 (some 16) (.bool false) rfl rfl (cu hqt6) ?_
    simp only[nn]
    refine gp 14 (some 17) (.int .i64 (Lk (getD q.T k) d)) rfl rfl (cu hqt6) ?_
    simp only[nn]
    refine wpAnyH_done (by kernel_rfl) ?_ _
    try simp only[nn]
    have SS:=Ab hqt6
    go_wp2
    go_ret2
    exact⟨h,false,rfl,⟨hb.symm, .inl ⟨rfl,rfl⟩⟩,HP.To.end H (Aa SS) rfl⟩
  ·intro Ys4 Bs4 hEs4 hqs4
   clear hEs4
   simp only[nn]
   refine gr (rs:= [5]) (gcB 5 (some 27) rfl rfl hqs4 (Zx q.T k _ ((hqs4.hp 0 rfl).ob hj).2.1 hk) (fun x=>cu x) ?_ gn)
   intro Ys5 hqs5
   refine gp 6 (some 21) (.tuple #[(getD q.T k).agg, .bool (q.T.find k).isSome]) rfl rfl (cu hqs5) ?_
   simp only[nn]
   refine gp 7 (some 28) ((getD q.T k).agg) rfl rfl (cu hqs5) ?_
   simp only[nn]
   refine gp 8 (some 29) (.bool (q.T.find k).isSome) rfl rfl (cu hqs5) ?_
   simp only[nn]
   refine gr (rs:= [10]) (Pn (vs:=(getD q.T k).cs) (new:=(getD q.T k).cs) 10 3 39 rfl rfl (by kernel_rfl) rfl rfl rfl rfl (Em _) szD hqs5 rfl (by simp[Bs,VV.cs,KK.cs,DD.cs,OB.cs,hcs,Ak,Av]) (by simp[Bs,VV.cs,KK.cs,DD.cs,OB.cs,hcs,Ak,Av]) (fun _ hZ=>cu hZ) ?_ gn)
   intro Ys6 hqs6
   refine gp 11 (some 14) (.bool (q.T.find k).isSome) rfl rfl (cu hqs6) ?_
   simp only[nn]
   refine wpAnyH_done (by kernel_rfl) ?_ _
   try simp only[nn]
   have SS:=Ab hqs6
   go_wp2
   have hS3:Sy w _ h.blocks [hpO h,Aq Ba k.cs,Aq Bb d.cs,Aq Bs4 ((getD q.T k).cs)]:=(Aa SS).drew
   clear SS
   have cu: ∀{X:World} {M:List Ob},Sy w X h.blocks ([hpO h,Aq Ba k.cs,Aq Bb d.cs,Aq Bs4 ((getD q.T k).cs)]++M)->Sy w X h.blocks [hpO h,Aq Ba k.cs,Aq Bb d.cs,Aq Bs4 ((getD q.T k).cs)]:=fun h=>Sy.left h
   refine wp_region_held_drew (P:=prog) (S:=fun X=>Sy w X h.blocks _) (by kernel_rfl) (hS3) (fun hS0=> ?_)
   refine gp 0 (some 31) (.pointer (some ⟨q.b,0,none⟩)) rfl rfl (hS3) ?_
   simp only[nn]
   refine gp 1 (some 32) (.pointer (some ⟨q.b,0,none⟩)) rfl rfl (hS3) ?_
   simp only[nn]
   refine gp 2 (some 33) (.pointer (some ⟨q.b,6,none⟩)) rfl rfl (hS3) ?_
   simp only[nn]
   refine gq 3 (some 34) (.bool q.x) rfl rfl (fun X hX=>Ad 4 isAgg4 rfl rfl ((hX.hp 0 rfl).ob hj).1 rfl) (hS3) ?_
   simp only[nn]
   refine gq 4 (some 35) (.agg ((getD q.T k).cs).toArray) rfl rfl (fun X hX=>Af (vs:=(getD q.T k).cs) 39 18 rwD szD rfl rfl (hX.hold 3 rfl) rfl rfl) (hS3) ?_
   simp only[nn]
   refine gq 5 (some 36) (.agg (d.cs).toArray) rfl rfl (fun X hX=>Af (vs:=d.cs) 39 18 rwD szD rfl rfl (hX.hold 2 rfl) rfl rfl) (hS3) ?_
   simp only[nn]
   refine gr (rs:= [6,11]) (gcB 6 (some 37) rfl rfl hS3 (HA _ (hT.fr hS3.fr H.low)) id ?_ (Qy (v:= .agg (Ak.cs).toArray) 11 (some 15) 39 (Ak.cs) rfl rfl (by kernel_rfl) rfl (fun w=>by kernel_rfl) rfl (Nat.succ_pos _) hS3 (fun _ hZ=>cu hZ) ?_ gn))
   ·intro Yt1 hqt1
    refine gp 7 (some 30) (.tuple #[(Eb q.x (getD q.T k) d).agg, .bool false, .int .i64 (Lk (getD q.T k) d)]) rfl rfl (hqt1) ?_
    simp only[nn]
    refine gp 8 (some 38) ((Eb q.x (getD q.T k) d).agg) rfl rfl (hqt1) ?_
    simp only[nn]
    refine gp 9 (some 39) (.bool false) rfl rfl (hqt1) ?_
    simp only[nn]
    refine gp 10 (some 40) (.int .i64 (Lk (getD q.T k) d)) rfl rfl (hqt1) ?_
    simp only[nn]
    refine gr (rs:= [11]) (Qy (v:= .agg (Ak.cs).toArray) 11 (some 15) 39 (Ak.cs) rfl rfl (by kernel_rfl) rfl (fun w=>by kernel_rfl) rfl (Nat.succ_pos _) hqt1 (fun _ hZ=>cu hZ) ?_ gn)
    intro Yt2 Bt2 hEt2 hqt2
    clear hEt2
    simp only[nn]
    refine gr (rs:= [12]) (Pn (vs:=(Eb q.x (getD q.T k) d).cs) (new:=(Eb q.x (getD q.T k) d).cs) 12 4 39 rfl rfl (by kernel_rfl) rfl rfl rfl rfl (Em _) szD hqt2 rfl (by simp[Bs,VV.cs,KK.cs,DD.cs,OB.cs,hcs,Ak,Av]) (by simp[Bs,VV.cs,KK.cs,DD.cs,OB.cs,hcs,Ak,Av]) (fun _ hZ=>cu hZ) ?_ gn)
    intro Yt3 hqt3
    refine gp 13 (some 16) (.bool false) rfl rfl (cu hqt3) ?_
    simp only[nn]
    refine gp 14 (some 17) (.int .i64 (Lk (getD q.T k) d)) rfl rfl (cu hqt3) ?_
    simp only[nn]
    refine wpAnyH_done (by kernel_rfl) ?_ _
    try simp only[nn]
    have SS:=Ab hqt3
    go_wp2
    go_ret2
    exact⟨h,false,rfl,⟨hb.symm, .inl ⟨rfl,rfl⟩⟩,HP.To.end H (Aa SS) rfl⟩
   ·intro Yt4 Bt4 hEt4 hqt4
    clear hEt4
    simp only[nn]
    refine gr (rs:= [6]) (gcB 6 (some 37) rfl rfl hqt4 (HA _ (hT.fr hqt4.fr H.low)) (fun x=>cu x) ?_ gn)
    intro Yt5 hqt5
    refine gp 7 (some 30) (.tuple #[(Eb q.x (getD q.T k) d).agg, .bool false, .int .i64 (Lk (getD q.T k) d)]) rfl rfl (cu hqt5) ?_
    simp only[nn]
    refine gp 8 (some 38) ((Eb q.x (getD q.T k) d).agg) rfl rfl (cu hqt5) ?_
    simp only[nn]
    refine gp 9 (some 39) (.bool false) rfl rfl (cu hqt5) ?_
    simp only[nn]
    refine gp 10 (some 40) (.int .i64 (Lk (getD q.T k) d)) rfl rfl (cu hqt5) ?_
    simp only[nn]
    refine gr (rs:= [12]) (Pn (vs:=(Eb q.x (getD q.T k) d).cs) (new:=(Eb q.x (getD q.T k) d).cs) 12 4 39 rfl rfl (by kernel_rfl) rfl rfl rfl rfl (Em _) szD hqt5 rfl (by simp[Bs,VV.cs,KK.cs,DD.cs,OB.cs,hcs,Ak,Av]) (by simp[Bs,VV.cs,KK.cs,DD.cs,OB.cs,hcs,Ak,Av]) (fun _ hZ=>cu hZ) ?_ gn)
    intro Yt6 hqt6
    refine gp 13 (some 16) (.bool false) rfl rfl (cu hqt6) ?_
    simp only[nn]
    refine gp 14 (some 17) (.int .i64 (Lk (getD q.T k) d)) rfl rfl (cu hqt6) ?_
    simp only[nn]
    refine wpAnyH_done (by kernel_rfl) ?_ _
    try simp only[nn]
    have SS:=Ab hqt6
    go_wp2
    go_ret2
    exact⟨h,false,rfl,⟨hb.symm, .inl ⟨rfl,rfl⟩⟩,HP.To.end H (Aa SS) rfl⟩
 |true=>
  simp only[hb] at HA
  have SS:=Ab H.start
  rw[Ds,Mn]
  go_enter func47,ntmps47
  go_wp2_with (first|go_skip|((with_reducible show wpList ..);first|((refine bx0 91 (by rfl) rfl rfl (Aa SS) ?_);intro X0 B0 S0;replace SS:=Ab S0;clear S0;simp only[nn])|(refine zB 48 (k.cs) (by rfl) rfl rfl rfl SS ?_;clear SS;intro Xa Ba SS;simp only[nn])|(refine zB 39 (d.cs) (by rfl) rfl rfl rfl SS ?_;clear SS;intro Xb Bb SS;simp only[nn])))
  refine(Kd h j q _ ((Aa SS).hp 0 rfl) hj hl).mono ?_
  rintro _ _ ⟨rfl,rfl⟩
  go_wp2
  have hS2:Sy w _ h.blocks [hpO h,Aq Ba k.cs,Aq Bb d.cs]:=(Aa SS).drew
  clear SS
  have cu: ∀{X:World} {M:List Ob},Sy w X h.blocks ([hpO h,Aq Ba k.cs,Aq Bb d.cs]++M)->Sy w X h.blocks [hpO h,Aq Ba k.cs,Aq Bb d.cs]:=fun h=>Sy.left h
  refine wp_region_held_drew (P:=prog) (S:=fun X=>Sy w X h.blocks _) (by kernel_rfl) (hS2) (fun hS0=> ?_)
  refine gp 0 (some 22) (.pointer (some ⟨q.b,0,none⟩)) rfl rfl (hS2) ?_
  simp only[nn]
  refine gp 1 (some 23) (.pointer (some ⟨q.b,0,none⟩)) rfl rfl (hS2) ?_
  simp only[nn]
  refine gp 2 (some 24) (.pointer (some ⟨q.b,7,none⟩)) rfl rfl (hS2) ?_
  simp only[nn]
  refine gq 3 (some 25) (.pointer (some ⟨q.T.t,0,none⟩)) rfl rfl (fun X hX=>Ad 97 isAgg97 rfl rfl ((hX.hp 0 rfl).ob hj).1 rfl) (hS2) ?_
  simp only[nn]
  refine gq 4 (some 26) (.agg k.cs.toArray) rfl rfl (fun X hX=>Af (vs:=k.cs) 48 2 rwK szK rfl rfl (hX.hold 1 rfl) rfl rfl) (hS2) ?_
  simp only[nn]
  refine gr (rs:= [5,9]) (gcB 5 (some 27) rfl rfl hS2 (Zx q.T k _ ((hS2.hp 0 rfl).ob hj).2.1 hk) id ?_ (Qy (v:= .agg (Ak.cs).toArray) 9 (some 13) 39 (Ak.cs) rfl rfl (by kernel_rfl) rfl (fun w=>by kernel_rfl) rfl (Nat.succ_pos _) hS2 (fun _ hZ=>cu hZ) ?_ gn))
  ·intro Ys1 hqs1
   refine gp 6 (some 21) (.tuple #[(getD q.T k).agg, .bool (q.T.find k).isSome]) rfl rfl (hqs1) ?_
   simp only[nn]
   refine gp 7 (some 28) ((getD q.T k).agg) rfl rfl (hqs1) ?_
   simp only[nn]
   refine gp 8 (some 29) (.bool (q.T.find k).isSome) rfl rfl (hqs1) ?_
   simp only[nn]
   refine gr (rs:= [9]) (Qy (v:= .agg (Ak.cs).toArray) 9 (some 13) 39 (Ak.cs) rfl rfl (by kernel_rfl) rfl (fun w=>by kernel_rfl) rfl (Nat.succ_pos _) hqs1 (fun _ hZ=>cu hZ) ?_ gn)
   intro Ys2 Bs2 hEs2 hqs2
   clear hEs2
   simp only[nn]
   refine gr (rs:= [10]) (Pn (vs:=(getD q.T k).cs) (new:=(getD q.T k).cs) 10 3 39 rfl rfl (by kernel_rfl) rfl rfl rfl rfl (Em _) szD hqs2 rfl (by simp[Bs,VV.cs,KK.cs,DD.cs,OB.cs,hcs,Ak,Av]) (by simp[Bs,VV.cs,KK.cs,DD.cs,OB.cs,hcs,Ak,Av]) (fun _ hZ=>cu hZ) ?_ gn)
   intro Ys3 hqs3
   refine gp 11 (some 14) (.bool (q.T.find k).isSome) rfl rfl (cu hqs3) ?_
   simp only[nn]
   refine wpAnyH_done (by kernel_rfl) ?_ _
   try simp only[nn]
   have SS:=Ab hqs3
   go_wp2
   have hS3:Sy w _ h.blocks [hpO h,Aq Ba k.cs,Aq Bb d.cs,Aq Bs2 ((getD q.T k).cs)]:=(Aa SS).drew
   clear SS
   have cu: ∀{X:World} {M:List Ob},Sy w X h.blocks ([hpO h,Aq Ba k.cs,Aq Bb d.cs,Aq Bs2 ((getD q.T k).cs)]++M)->Sy w X h.blocks [hpO h,Aq Ba k.cs,Aq Bb d.cs,Aq Bs2 ((getD q.T k).cs)]:=fun h=>Sy.left h
   refine wp_region_held_drew (P:=prog) (S:=fun X=>Sy w X h.blocks _) (by kernel_rfl) (hS3) (fun hS0=> ?_)
   refine gp 0 (some 31) (.pointer (some ⟨q.b,0,none⟩)) rfl rfl (hS3) ?_
   simp only[nn]
   refine gp 1 (some 32) (.pointer (some ⟨q.b,0,none⟩)) rfl rfl (hS3) ?_
   simp only[nn]
   refine gp 2 (some 33) (.pointer (some ⟨q.b,6,none⟩)) rfl rfl (hS3) ?_
   simp only[nn]
   refine gq 3 (some 34) (.bool q.x) rfl rfl (fun X hX=>Ad 4 isAgg4 rfl rfl ((hX.hp 0 rfl).ob hj).1 rfl) (hS3) ?_
   simp only[nn]
   refine gq 4 (some 35) (.agg ((getD q.T k).cs).toArray) rfl rfl (fun X hX=>Af (vs:=(getD q.T k).cs) 39 18 rwD szD rfl rfl (hX.hold 3 rfl) rfl rfl) (hS3) ?_
   simp only[nn]
   refine gq 5 (some 36) (.agg (d.cs).toArray) rfl rfl (fun X hX=>Af (vs:=d.cs) 39 18 rwD szD rfl rfl (hX.hold 2 rfl) rfl rfl) (hS3) ?_
   simp only[nn]
   refine gr (rs:= [6,11]) (gcB 6 (some 37) rfl rfl hS3 (HA _ (hT.fr hS3.fr H.low)) id ?_ (Qy (v:= .agg (Ak.cs).toArray) 11 (some 15) 39 (Ak.cs) rfl rfl (by kernel_rfl) rfl (fun w=>by kernel_rfl) rfl (Nat.succ_pos _) hS3 (fun _ hZ=>cu hZ) ?_ gn))
   ·intro Yt1 hqt1
    refine gp 7 (some 30) (.tuple #[(Eb q.x (getD q.T k) d).agg, .bool true, .int .i64 (Lk (getD q.T k) d)]) rfl rfl (hqt1) ?_
    simp only[nn]
    refine gp 8 (some 38) ((Eb q.x (getD q.T k) d).agg) rfl rfl (hqt1) ?_
    simp only[nn]
    refine gp 9 (some 39) (.bool true) rfl rfl (hqt1) ?_
    simp only[nn]
    refine gp 10 (some 40) (.int .i64 (Lk (getD q.T k) d)) rfl rfl (hqt1) ?_
    simp only[nn]
    refine gr (rs:= [11]) (Qy (v:= .agg (Ak.cs).toArray) 11 (some 15) 39 (Ak.cs) rfl rfl (by kernel_rfl) rfl (fun w=>by kernel_rfl) rfl (Nat.succ_pos _) hqt1 (fun _ hZ=>cu hZ) ?_ gn)
    intro Yt2 Bt2 hEt2 hqt2
    clear hEt2
    simp only[nn]
    refine gr (rs:= [12]) (Pn (vs:=(Eb q.x (getD q.T k) d).cs) (new:=(Eb q.x (getD q.T k) d).cs) 12 4 39 rfl rfl (by kernel_rfl) rfl rfl rfl rfl (Em _) szD hqt2 rfl (by simp[Bs,VV.cs,KK.cs,DD.cs,OB.cs,hcs,Ak,Av]) (by simp[Bs,VV.cs,KK.cs,DD.cs,OB.cs,hcs,Ak,Av]) (fun _ hZ=>cu hZ) ?_ gn)
    intro Yt3 hqt3
    refine gp 13 (some 16) (.bool true) rfl rfl (cu hqt3) ?_
    simp only[nn]
    refine gp 14 (some 17) (.int .i64 (Lk (getD q.T k) d)) rfl rfl (cu hqt3) ?_
    simp only[nn]
    refine wpAnyH_done (by kernel_rfl) ?_ _
    try simp only[nn]
    have SS:=Ab hqt3
    go_wp2
    have hS5:Sy w _ h.blocks [hpO h,Aq Ba k.cs,Aq Bb d.cs,Aq Bs2 ((getD q.T k).cs),Aq Bt2 ((Eb q.x (getD q.T k) d).cs)]:=(Aa SS).drew
    clear SS
    refine wp_region_held_drew (P:=prog) (S:=fun X=>Holds X q.b q.cs/\Holds X Ba k.cs/\Holds X Bt2 ((Eb q.x (getD q.T k) d).cs)) (by kernel_rfl) (⟨((hS5.hp 0 rfl).ob hj).1,hS5.hold 1 rfl,hS5.hold 4 rfl⟩) (fun hS0=> ?_)
    refine gp 0 (some 42) (.pointer (some ⟨q.b,0,none⟩)) rfl rfl (⟨((hS5.hp 0 rfl).ob hj).1,hS5.hold 1 rfl,hS5.hold 4 rfl⟩) ?_
    simp only[nn]
    refine gp 1 (some 43) (.pointer (some ⟨q.b,0,none⟩)) rfl rfl (⟨((hS5.hp 0 rfl).ob hj).1,hS5.hold 1 rfl,hS5.hold 4 rfl⟩) ?_
    simp only[nn]
    refine gp 2 (some 44) (.pointer (some ⟨q.b,7,none⟩)) rfl rfl (⟨((hS5.hp 0 rfl).ob hj).1,hS5.hold 1 rfl,hS5.hold 4 rfl⟩) ?_
    simp only[nn]
    refine gq 3 (some 45) (.pointer (some ⟨q.T.t,0,none⟩)) rfl rfl (fun X hX=>Ad 97 isAgg97 rfl rfl hX.1 rfl) (⟨((hS5.hp 0 rfl).ob hj).1,hS5.hold 1 rfl,hS5.hold 4 rfl⟩) ?_
    simp only[nn]
    refine gq 4 (some 46) (.agg k.cs.toArray) rfl rfl (fun X hX=>Af (vs:=k.cs) 48 2 rwK szK rfl rfl hX.2.1 rfl rfl) (⟨((hS5.hp 0 rfl).ob hj).1,hS5.hold 1 rfl,hS5.hold 4 rfl⟩) ?_
    simp only[nn]
    refine gq 5 (some 47) (.agg ((Eb q.x (getD q.T k) d).cs).toArray) rfl rfl (fun X hX=>Af (vs:=(Eb q.x (getD q.T k) d).cs) 39 18 rwD szD rfl rfl hX.2.2 rfl rfl) (⟨((hS5.hp 0 rfl).ob hj).1,hS5.hold 1 rfl,hS5.hold 4 rfl⟩) ?_
    simp only[nn]
    refine gr (rs:= [6]) (gc 6 (some 48) rfl rfl (Zbj q.T k (Eb q.x (getD q.T k) d) _ ((hS5.hp 0 rfl).ob hj).2.1 (hT.fr hS5.fr H.low).1 hk hlast (fun b hb=>by have:=(hS5.hp 0 rfl).low_tab hj b hb;omega) hg) ?_ gn)
    rintro e Yp1 ⟨rfl,T',hT2,ht2,hf2,hs2,hPT⟩
    have hI0:=hS5.hp 0 rfl
    have hO:=(hI0.ob hj).1.block (hf2.block _ ((hI0.ob hj).1.lt (by rw[Md];omega)) (hI0.ob hj).2.2)
    have HTI:=Ab (hI0.ob hj).2.1
    have hqp:=Sy.heap hS5 0 rfl (hI0.table hj hT2 ht2 hf2 hs2)
    refine⟨_,rfl,⟨hO,hqp.hold 1 rfl,hqp.hold 4 rfl⟩, ?_⟩
    refine wpAnyH_done (by kernel_rfl) ?_ _
    try simp only[nn]
    have SS:=Ab hqp
    go_wp2
    go_ret2
    exact⟨h.tab j q T',true,rfl,⟨hb.symm, .inr ⟨rfl,T',rfl,hPT.last,Zbk (Aa HTI) hg hPT⟩⟩,HP.To.end H (Aa SS) rfl⟩
   ·intro Yt4 Bt4 hEt4 hqt4
    clear hEt4
    simp only[nn]
    refine gr (rs:= [6]) (gcB 6 (some 37) rfl rfl hqt4 (HA _ (hT.fr hqt4.fr H.low)) (fun x=>cu x) ?_ gn)
    intro Yt5 hqt5
    refine gp 7 (some 30) (.tuple #[(Eb q.x (getD q.T k) d).agg, .bool true, .int .i64 (Lk (getD q.T k) d)]) rfl rfl (cu hqt5) ?_
    simp only[nn]
    refine gp 8 (some 38) ((Eb q.x (getD q.T k) d).agg) rfl rfl (cu hqt5) ?_
    simp only[nn]
    refine gp 9 (some 39) (.bool true) rfl rfl (cu hqt5) ?_
    simp only[nn]
    refine gp 10 (some 40) (.int .i64 (Lk (getD q.T k) d)) rfl rfl (cu hqt5) ?_
    simp only[nn]
    refine gr (rs:= [12]) (Pn (vs:=(Eb q.x (getD q.T k) d).cs) (new:=(Eb q.x (getD q.T k) d).cs) 12 4 39 rfl rfl (by kernel_rfl) rfl rfl rfl rfl (Em _) szD hqt5 rfl (by simp[Bs,VV.cs,KK.cs,DD.cs,OB.cs,hcs,Ak,Av]) (by simp[Bs,VV.cs,KK.cs,DD.cs,OB.cs,hcs,Ak,Av]) (fun _ hZ=>cu hZ) ?_ gn)
    intro Yt6 hqt6
    refine gp 13 (some 16) (.bool true) rfl rfl (cu hqt6) ?_
    simp only[nn]
    refine gp 14 (some 17) (.int .i64 (Lk (getD q.T k) d)) rfl rfl (cu hqt6) ?_
    simp only[nn]
    refine wpAnyH_done (by kernel_rfl) ?_ _
    try simp only[nn]
    have SS:=Ab hqt6
    go_wp2
    have hS5:Sy w _ h.blocks [hpO h,Aq Ba k.cs,Aq Bb d.cs,Aq Bs2 ((getD q.T k).cs),Aq Bt4 ((Eb q.x (getD q.T k) d).cs)]:=(Aa SS).drew
    clear SS
    refine wp_region_held_drew (P:=prog) (S:=fun X=>Holds X q.b q.cs/\Holds X Ba k.cs/\Holds X Bt4 ((Eb q.x (getD q.T k) d).cs)) (by kernel_rfl) (⟨((hS5.hp 0 rfl).ob hj).1,hS5.hold 1 rfl,hS5.hold 4 rfl⟩) (fun hS0=> ?_)
    refine gp 0 (some 42) (.pointer (some ⟨q.b,0,none⟩)) rfl rfl (⟨((hS5.hp 0 rfl).ob hj).1,hS5.hold 1 rfl,hS5.hold 4 rfl⟩) ?_
    simp only[nn]
    refine gp 1 (some 43) (.pointer (some ⟨q.b,0,none⟩)) rfl rfl (⟨((hS5.hp 0 rfl).ob hj).1,hS5.hold 1 rfl,hS5.hold 4 rfl⟩) ?_
    simp only[nn]
    refine gp 2 (some 44) (.pointer (some ⟨q.b,7,none⟩)) rfl rfl (⟨((hS5.hp 0 rfl).ob hj).1,hS5.hold 1 rfl,hS5.hold 4 rfl⟩) ?_
    simp only[nn]
    refine gq 3 (some 45) (.pointer (some ⟨q.T.t,0,none⟩)) rfl rfl (fun X hX=>Ad 97 isAgg97 rfl rfl hX.1 rfl) (⟨((hS5.hp 0 rfl).ob hj).1,hS5.hold 1 rfl,hS5.hold 4 rfl⟩) ?_
    simp only[nn]
    refine gq 4 (some 46) (.agg k.cs.toArray) rfl rfl (fun X hX=>Af (vs:=k.cs) 48 2 rwK szK rfl rfl hX.2.1 rfl rfl) (⟨((hS5.hp 0 rfl).ob hj).1,hS5.hold 1 rfl,hS5.hold 4 rfl⟩) ?_
    simp only[nn]
    refine gq 5 (some 47) (.agg ((Eb q.x (getD q.T k) d).cs).toArray) rfl rfl (fun X hX=>Af (vs:=(Eb q.x (getD q.T k) d).cs) 39 18 rwD szD rfl rfl hX.2.2 rfl rfl) (⟨((hS5.hp 0 rfl).ob hj).1,hS5.hold 1 rfl,hS5.hold 4 rfl⟩) ?_
    simp only[nn]
    refine gr (rs:= [6]) (gc 6 (some 48) rfl rfl (Zbj q.T k (Eb q.x (getD q.T k) d) _ ((hS5.hp 0 rfl).ob hj).2.1 (hT.fr hS5.fr H.low).1 hk hlast (fun b hb=>by have:=(hS5.hp 0 rfl).low_tab hj b hb;omega) hg) ?_ gn)
    rintro e Yp1 ⟨rfl,T',hT2,ht2,hf2,hs2,hPT⟩
    have hI0:=hS5.hp 0 rfl
    have hO:=(hI0.ob hj).1.block (hf2.block _ ((hI0.ob hj).1.lt (by rw[Md];omega)) (hI0.ob hj).2.2)
    have HTI:=Ab (hI0.ob hj).2.1
    have hqp:=Sy.heap hS5 0 rfl (hI0.table hj hT2 ht2 hf2 hs2)
    refine⟨_,rfl,⟨hO,hqp.hold 1 rfl,hqp.hold 4 rfl⟩, ?_⟩
    refine wpAnyH_done (by kernel_rfl) ?_ _
    try simp only[nn]
    have SS:=Ab hqp
    go_wp2
    go_ret2
    exact⟨h.tab j q T',true,rfl,⟨hb.symm, .inr ⟨rfl,T',rfl,hPT.last,Zbk (Aa HTI) hg hPT⟩⟩,HP.To.end H (Aa SS) rfl⟩
  ·intro Ys4 Bs4 hEs4 hqs4
   clear hEs4
   simp only[nn]
   refine gr (rs:= [5]) (gcB 5 (some 27) rfl rfl hqs4 (Zx q.T k _ ((hqs4.hp 0 rfl).ob hj).2.1 hk) (fun x=>cu x) ?_ gn)
   intro Ys5 hqs5
   refine gp 6 (some 21) (.tuple #[(getD q.T k).agg, .bool (q.T.find k).isSome]) rfl rfl (cu hqs5) ?_
   simp only[nn]
   refine gp 7 (some 28) ((getD q.T k).agg) rfl rfl (cu hqs5) ?_
   simp only[nn]
   refine gp 8 (some 29) (.bool (q.T.find k).isSome) rfl rfl (cu hqs5) ?_
   simp only[nn]
   refine gr (rs:= [10]) (Pn (vs:=(getD q.T k).cs) (new:=(getD q.T k).cs) 10 3 39 rfl rfl (by kernel_rfl) rfl rfl rfl rfl (Em _) szD hqs5 rfl (by simp[Bs,VV.cs,KK.cs,DD.cs,OB.cs,hcs,Ak,Av]) (by simp[Bs,VV.cs,KK.cs,DD.cs,OB.cs,hcs,Ak,Av]) (fun _ hZ=>cu hZ) ?_ gn)
   intro Ys6 hqs6
   refine gp 11 (some 14) (.bool (q.T.find k).isSome) rfl rfl (cu hqs6) ?_
   simp only[nn]
   refine wpAnyH_done (by kernel_rfl) ?_ _
   try simp only[nn]
   have SS:=Ab hqs6
   go_wp2
   have hS3:Sy w _ h.blocks [hpO h,Aq Ba k.cs,Aq Bb d.cs,Aq Bs4 ((getD q.T k).cs)]:=(Aa SS).drew
   clear SS
   have cu: ∀{X:World} {M:List Ob},Sy w X h.blocks ([hpO h,Aq Ba k.cs,Aq Bb d.cs,Aq Bs4 ((getD q.T k).cs)]++M)->Sy w X h.blocks [hpO h,Aq Ba k.cs,Aq Bb d.cs,Aq Bs4 ((getD q.T k).cs)]:=fun h=>Sy.left h
   refine wp_region_held_drew (P:=prog) (S:=fun X=>Sy w X h.blocks _) (by kernel_rfl) (hS3) (fun hS0=> ?_)
   refine gp 0 (some 31) (.pointer (some ⟨q.b,0,none⟩)) rfl rfl (hS3) ?_
   simp only[nn]
   refine gp 1 (some 32) (.pointer (some ⟨q.b,0,none⟩)) rfl rfl (hS3) ?_
   simp only[nn]
   refine gp 2 (some 33) (.pointer (some ⟨q.b,6,none⟩)) rfl rfl (hS3) ?_
   simp only[nn]
   refine gq 3 (some 34) (.bool q.x) rfl rfl (fun X hX=>Ad 4 isAgg4 rfl rfl ((hX.hp 0 rfl).ob hj).1 rfl) (hS3) ?_
   simp only[nn]
   refine gq 4 (some 35) (.agg ((getD q.T k).cs).toArray) rfl rfl (fun X hX=>Af (vs:=(getD q.T k).cs) 39 18 rwD szD rfl rfl (hX.hold 3 rfl) rfl rfl) (hS3) ?_
   simp only[nn]
   refine gq 5 (some 36) (.agg (d.cs).toArray) rfl rfl (fun X hX=>Af (vs:=d.cs) 39 18 rwD szD rfl rfl (hX.hold 2 rfl) rfl rfl) (hS3) ?_
   simp only[nn]
   refine gr (rs:= [6,11]) (gcB 6 (some 37) rfl rfl hS3 (HA _ (hT.fr hS3.fr H.low)) id ?_ (Qy (v:= .agg (Ak.cs).toArray) 11 (some 15) 39 (Ak.cs) rfl rfl (by kernel_rfl) rfl (fun w=>by kernel_rfl) rfl (Nat.succ_pos _) hS3 (fun _ hZ=>cu hZ) ?_ gn))
   ·intro Yt1 hqt1
    refine gp 7 (some 30) (.tuple #[(Eb q.x (getD q.T k) d).agg, .bool true, .int .i64 (Lk (getD q.T k) d)]) rfl rfl (hqt1) ?_
    simp only[nn]
    refine gp 8 (some 38) ((Eb q.x (getD q.T k) d).agg) rfl rfl (hqt1) ?_
    simp only[nn]
    refine gp 9 (some 39) (.bool true) rfl rfl (hqt1) ?_
    simp only[nn]
    refine gp 10 (some 40) (.int .i64 (Lk (getD q.T k) d)) rfl rfl (hqt1) ?_
    simp only[nn]
    refine gr (rs:= [11]) (Qy (v:= .agg (Ak.cs).toArray) 11 (some 15) 39 (Ak.cs) rfl rfl (by kernel_rfl) rfl (fun w=>by kernel_rfl) rfl (Nat.succ_pos _) hqt1 (fun _ hZ=>cu hZ) ?_ gn)
    intro Yt2 Bt2 hEt2 hqt2
    clear hEt2
    simp only[nn]
    refine gr (rs:= [12]) (Pn (vs:=(Eb q.x (getD q.T k) d).cs) (new:=(Eb q.x (getD q.T k) d).cs) 12 4 39 rfl rfl (by kernel_rfl) rfl rfl rfl rfl (Em _) szD hqt2 rfl (by simp[Bs,VV.cs,KK.cs,DD.cs,OB.cs,hcs,Ak,Av]) (by simp[Bs,VV.cs,KK.cs,DD.cs,OB.cs,hcs,Ak,Av]) (fun _ hZ=>cu hZ) ?_ gn)
    intro Yt3 hqt3
    refine gp 13 (some 16) (.bool true) rfl rfl (cu hqt3) ?_
    simp only[nn]
    refine gp 14 (some 17) (.int .i64 (Lk (getD q.T k) d)) rfl rfl (cu hqt3) ?_
    simp only[nn]
    refine wpAnyH_done (by kernel_rfl) ?_ _
    try simp only[nn]
    have SS:=Ab hqt3
    go_wp2
    have hS5:Sy w _ h.blocks [hpO h,Aq Ba k.cs,Aq Bb d.cs,Aq Bs4 ((getD q.T k).cs),Aq Bt2 ((Eb q.x (getD q.T k) d).cs)]:=(Aa SS).drew
    clear SS
    refine wp_region_held_drew (P:=prog) (S:=fun X=>Holds X q.b q.cs/\Holds X Ba k.cs/\Holds X Bt2 ((Eb q.x (getD q.T k) d).cs)) (by kernel_rfl) (⟨((hS5.hp 0 rfl).ob hj).1,hS5.hold 1 rfl,hS5.hold 4 rfl⟩) (fun hS0=> ?_)
    refine gp 0 (some 42) (.pointer (some ⟨q.b,0,none⟩)) rfl rfl (⟨((hS5.hp 0 rfl).ob hj).1,hS5.hold 1 rfl,hS5.hold 4 rfl⟩) ?_
    simp only[nn]
    refine gp 1 (some 43) (.pointer (some ⟨q.b,0,none⟩)) rfl rfl (⟨((hS5.hp 0 rfl).ob hj).1,hS5.hold 1 rfl,hS5.hold 4 rfl⟩) ?_
    simp only[nn]
    refine gp 2 (some 44) (.pointer (some ⟨q.b,7,none⟩)) rfl rfl (⟨((hS5.hp 0 rfl).ob hj).1,hS5.hold 1 rfl,hS5.hold 4 rfl⟩) ?_
    simp only[nn]
    refine gq 3 (some 45) (.pointer (some ⟨q.T.t,0,none⟩)) rfl rfl (fun X hX=>Ad 97 isAgg97 rfl rfl hX.1 rfl) (⟨((hS5.hp 0 rfl).ob hj).1,hS5.hold 1 rfl,hS5.hold 4 rfl⟩) ?_
    simp only[nn]
    refine gq 4 (some 46) (.agg k.cs.toArray) rfl rfl (fun X hX=>Af (vs:=k.cs) 48 2 rwK szK rfl rfl hX.2.1 rfl rfl) (⟨((hS5.hp 0 rfl).ob hj).1,hS5.hold 1 rfl,hS5.hold 4 rfl⟩) ?_
    simp only[nn]
    refine gq 5 (some 47) (.agg ((Eb q.x (getD q.T k) d).cs).toArray) rfl rfl (fun X hX=>Af (vs:=(Eb q.x (getD q.T k) d).cs) 39 18 rwD szD rfl rfl hX.2.2 rfl rfl) (⟨((hS5.hp 0 rfl).ob hj).1,hS5.hold 1 rfl,hS5.hold 4 rfl⟩) ?_
    simp only[nn]
    refine gr (rs:= [6]) (gc 6 (some 48) rfl rfl (Zbj q.T k (Eb q.x (getD q.T k) d) _ ((hS5.hp 0 rfl).ob hj).2.1 (hT.fr hS5.fr H.low).1 hk hlast (fun b hb=>by have:=(hS5.hp 0 rfl).low_tab hj b hb;omega) hg) ?_ gn)
    rintro e Yp1 ⟨rfl,T',hT2,ht2,hf2,hs2,hPT⟩
    have hI0:=hS5.hp 0 rfl
    have hO:=(hI0.ob hj).1.block (hf2.block _ ((hI0.ob hj).1.lt (by rw[Md];omega)) (hI0.ob hj).2.2)
    have HTI:=Ab (hI0.ob hj).2.1
    have hqp:=Sy.heap hS5 0 rfl (hI0.table hj hT2 ht2 hf2 hs2)
    refine⟨_,rfl,⟨hO,hqp.hold 1 rfl,hqp.hold 4 rfl⟩, ?_⟩
    refine wpAnyH_done (by kernel_rfl) ?_ _
    try simp only[nn]
    have SS:=Ab hqp
    go_wp2
    go_ret2
    exact⟨h.tab j q T',true,rfl,⟨hb.symm, .inr ⟨rfl,T',rfl,hPT.last,Zbk (Aa HTI) hg hPT⟩⟩,HP.To.end H (Aa SS) rfl⟩
   ·intro Yt4 Bt4 hEt4 hqt4
    clear hEt4
    simp only[nn]
    refine gr (rs:= [6]) (gcB 6 (some 37) rfl rfl hqt4 (HA _ (hT.fr hqt4.fr H.low)) (fun x=>cu x) ?_ gn)
    intro Yt5 hqt5
    refine gp 7 (some 30) (.tuple #[(Eb q.x (getD q.T k) d).agg, .bool true, .int .i64 (Lk (getD q.T k) d)]) rfl rfl (cu hqt5) ?_
    simp only[nn]
    refine gp 8 (some 38) ((Eb q.x (getD q.T k) d).agg) rfl rfl (cu hqt5) ?_
    simp only[nn]
    refine gp 9 (some 39) (.bool true) rfl rfl (cu hqt5) ?_
    simp only[nn]
    refine gp 10 (some 40) (.int .i64 (Lk (getD q.T k) d)) rfl rfl (cu hqt5) ?_
    simp only[nn]
    refine gr (rs:= [12]) (Pn (vs:=(Eb q.x (getD q.T k) d).cs) (new:=(Eb q.x (getD q.T k) d).cs) 12 4 39 rfl rfl (by kernel_rfl) rfl rfl rfl rfl (Em _) szD hqt5 rfl (by simp[Bs,VV.cs,KK.cs,DD.cs,OB.cs,hcs,Ak,Av]) (by simp[Bs,VV.cs,KK.cs,DD.cs,OB.cs,hcs,Ak,Av]) (fun _ hZ=>cu hZ) ?_ gn)
    intro Yt6 hqt6
    refine gp 13 (some 16) (.bool true) rfl rfl (cu hqt6) ?_
    simp only[nn]
    refine gp 14 (some 17) (.int .i64 (Lk (getD q.T k) d)) rfl rfl (cu hqt6) ?_
    simp only[nn]
    refine wpAnyH_done (by kernel_rfl) ?_ _
    try simp only[nn]
    have SS:=Ab hqt6
    go_wp2
    have hS5:Sy w _ h.blocks [hpO h,Aq Ba k.cs,Aq Bb d.cs,Aq Bs4 ((getD q.T k).cs),Aq Bt4 ((Eb q.x (getD q.T k) d).cs)]:=(Aa SS).drew
    clear SS
    refine wp_region_held_drew (P:=prog) (S:=fun X=>Holds X q.b q.cs/\Holds X Ba k.cs/\Holds X Bt4 ((Eb q.x (getD q.T k) d).cs)) (by kernel_rfl) (⟨((hS5.hp 0 rfl).ob hj).1,hS5.hold 1 rfl,hS5.hold 4 rfl⟩) (fun hS0=> ?_)
    refine gp 0 (some 42) (.pointer (some ⟨q.b,0,none⟩)) rfl rfl (⟨((hS5.hp 0 rfl).ob hj).1,hS5.hold 1 rfl,hS5.hold 4 rfl⟩) ?_
    simp only[nn]
    refine gp 1 (some 43) (.pointer (some ⟨q.b,0,none⟩)) rfl rfl (⟨((hS5.hp 0 rfl).ob hj).1,hS5.hold 1 rfl,hS5.hold 4 rfl⟩) ?_
    simp only[nn]
    refine gp 2 (some 44) (.pointer (some ⟨q.b,7,none⟩)) rfl rfl (⟨((hS5.hp 0 rfl).ob hj).1,hS5.hold 1 rfl,hS5.hold 4 rfl⟩) ?_
    simp only[nn]
    refine gq 3 (some 45) (.pointer (some ⟨q.T.t,0,none⟩)) rfl rfl (fun X hX=>Ad 97 isAgg97 rfl rfl hX.1 rfl) (⟨((hS5.hp 0 rfl).ob hj).1,hS5.hold 1 rfl,hS5.hold 4 rfl⟩) ?_
    simp only[nn]
    refine gq 4 (some 46) (.agg k.cs.toArray) rfl rfl (fun X hX=>Af (vs:=k.cs) 48 2 rwK szK rfl rfl hX.2.1 rfl rfl) (⟨((hS5.hp 0 rfl).ob hj).1,hS5.hold 1 rfl,hS5.hold 4 rfl⟩) ?_
    simp only[nn]
    refine gq 5 (some 47) (.agg ((Eb q.x (getD q.T k) d).cs).toArray) rfl rfl (fun X hX=>Af (vs:=(Eb q.x (getD q.T k) d).cs) 39 18 rwD szD rfl rfl hX.2.2 rfl rfl) (⟨((hS5.hp 0 rfl).ob hj).1,hS5.hold 1 rfl,hS5.hold 4 rfl⟩) ?_
    simp only[nn]
    refine gr (rs:= [6]) (gc 6 (some 48) rfl rfl (Zbj q.T k (Eb q.x (getD q.T k) d) _ ((hS5.hp 0 rfl).ob hj).2.1 (hT.fr hS5.fr H.low).1 hk hlast (fun b hb=>by have:=(hS5.hp 0 rfl).low_tab hj b hb;omega) hg) ?_ gn)
    rintro e Yp1 ⟨rfl,T',hT2,ht2,hf2,hs2,hPT⟩
    have hI0:=hS5.hp 0 rfl
    have hO:=(hI0.ob hj).1.block (hf2.block _ ((hI0.ob hj).1.lt (by rw[Md];omega)) (hI0.ob hj).2.2)
    have HTI:=Ab (hI0.ob hj).2.1
    have hqp:=Sy.heap hS5 0 rfl (hI0.table hj hT2 ht2 hf2 hs2)
    refine⟨_,rfl,⟨hO,hqp.hold 1 rfl,hqp.hold 4 rfl⟩, ?_⟩
    refine wpAnyH_done (by kernel_rfl) ?_ _
    try simp only[nn]
    have SS:=Ab hqp
    go_wp2
    go_ret2
    exact⟨h.tab j q T',true,rfl,⟨hb.symm, .inr ⟨rfl,T',rfl,hPT.last,Zbk (Aa HTI) hg hPT⟩⟩,HP.To.end H (Aa SS) rfl⟩
