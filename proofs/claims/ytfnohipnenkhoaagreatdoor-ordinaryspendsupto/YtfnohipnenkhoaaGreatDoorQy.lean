import Derived.Test.YtfnohipnenkhoaaGreatDoorQv
import Derived.Test.YtfnohipnenkhoaaGreatDoorQw
import Derived.Test.YtfnohipnenkhoaaGreatDoorQx
set_option linter.all false
namespace Go.Proofs.YtfnohipnenkhoaaGreatDoor
set_option maxRecDepth 100000
set_option maxHeartbeats 0
section
open Go Go.Proofs Go.Maps Go.RowKit Tryz
attribute [local go_sem] Oper.semAt_some
theorem keysW (T:TT) (w:World) (hT:T.Is w) (hlast:T.last<4000000) (hl:T.live.length<=1500000) (hU:Lib.Utf8Tabs 1 2 w) (hP:TabQ w):Calls prog 166 #[.pointer (some ⟨T.t,0,none⟩)] w fun e w'=> ∃v l9,e= .returned v/\OwnK w' w.heap.size v l9/\Below w.heap.size w w':=by
 refine(callsIn_wide (n:=4)).1 ?_
 have HL:=Ab (len30 T w hT)
 have HE:=Ab (fun X=>each41 T X)
 have HT:=Ab hT
 clear hT
 refine callsIn_of_wp_marks func166 rfl trivial ?_ rfl
 simp only[ntmps166,List.size_toArray,List.length_cons,List.length_nil,Nat.reduceAdd,Nat.reduceSub,Array.replicate_succ,Array.replicate_zero,List.push_toArray,List.append_toArray,List.nil_append,List.cons_append]
 gi_wp2_with fail
 refine⟨trivial,(callsIn_wide.2 (Aa HL)).mono ?_⟩
 rintro e w1 ⟨rfl,rfl⟩
 obtain⟨i0,hi,hz0,hz1,hz2⟩:=info_parts Qi
 obtain⟨wm,hrun,hm1,hm2⟩:=run_makeSlice_owned (P:=prog) w1 w1.heap.size 40 48 i0 _ 2 underlying40 hi hz0 hz1 .i64 .i64 T.live.length (by omega) (by rw[hz2];omega) (by unfold maxLen;omega) (Nat.le_refl _)
 gi_wp2_with fail
 refine⟨trivial,(callsIn_wide.2 ((Aa HE) _)).mono ?_⟩
 rintro e w2 ⟨rfl,rfl⟩
 have hms:=hm2.size
 have hbm:Below w1.heap.size w1 wm:=⟨hm2.os,hm2.tape,hm2.output,hm2.size,fun k hk=>hm2.block k hk (by simp)⟩
 have b3:Boxed (wm.alloc (.cells #[.slice (some ⟨w1.heap.size,0,none⟩) 0 T.live.length] 40)) wm.heap.size 40 (.slice (some ⟨w1.heap.size,0,none⟩) 0 T.live.length):=Boxed.new wm 40 _
 have bn:Boxed ((wm.alloc (.cells #[.slice (some ⟨w1.heap.size,0,none⟩) 0 T.live.length] 40)).alloc (.cells #[.pointer (some ⟨T.t,0,none⟩)] 97)) (wm.heap.size+1) 97 (.pointer (some ⟨T.t,0,none⟩)):=by
  have:=Boxed.new (wm.alloc (.cells #[.slice (some ⟨w1.heap.size,0,none⟩) 0 T.live.length] 40)) 97 (.pointer (some ⟨T.t,0,none⟩))
  rwa [World.size_alloc] at this
 have hB0:Below w1.heap.size w1 ((wm.alloc (.cells #[.slice (some ⟨w1.heap.size,0,none⟩) 0 T.live.length] 40)).alloc (.cells #[.pointer (some ⟨T.t,0,none⟩)] 97)):=(hbm.alloc hms _).alloc (by simp;omega) _
 have hT3:=(Aa HT).on hB0
 have hlt3:=(Aa HT).lt
 have HTT:=HT
 clear HL HE
 gi_wp2
 try simp only[World.size_alloc]
 refine wpIn_rangeFunc_ownH (α:=KK×DD) rfl (by omega) (gf:=80) (lb:= #[.pointer (some ⟨wm.heap.size+1,0,none⟩)]) rfl trivial (enters_of func80 (by kernel_rfl) rfl)
  (Zaj T 3 (by omega) (wm.heap.size+1) w1.heap.size _ hT3 hlast hlt3 (by simp) bn.cell (by simp;omega)) kb_t (kb_b (by simp;omega) (by simp)) (Below.refl _ _) (fun _=>rfl)
  (fun pre W=>(∃v,Boxed W wm.heap.size 40 v/\W.ownsRow w1.heap.size 48 2 v pre.length (Gu (pre.map (·.1)))/\True)/\Boxed W (wm.heap.size+1) 97 (.pointer (some ⟨T.t,0,none⟩))/\Below w1.heap.size w1 W)
  (fun _ _ _=>False)
  (OwnFrom.and (Own.from (holdsRow_own w1.heap.size wm.heap.size 40 48 2 (fun pre:List (KK×DD)=>pre.length) (fun pre=>Gu (pre.map (·.1))) (fun _ _=>True)) _) (OwnFrom.and (Own.from (Za1 _ _ _) _) (ownFrom_below (Nat.le_refl _) (by simp;omega))))
  (fun _ _ _ _ _ hs _ _=>hs)
  ⟨⟨_,b3.alloc _,(hm1.alloc _).alloc _,trivial⟩,bn,hB0⟩
  (fun x a' W=> ∃Bk,a'={tmps:= #[.pointer (some ⟨T.t,0,none⟩),undef, .slice none 0 0, .pointer (some ⟨wm.heap.size,0,none⟩), .pointer (some ⟨Bk,0,none⟩), .pointer (some ⟨T.t,0,none⟩), .int .i64 T.live.length, .slice (some ⟨w1.heap.size,0,none⟩) 0 T.live.length, .pointer (some ⟨T.t,0,none⟩), .func (.func 80) #[] #[.pointer (some ⟨wm.heap.size+1,0,none⟩)],x.1.agg,x.2.agg,undef,undef,undef,undef,undef,undef,undef,undef,undef,undef],defers:= []}/\Holds W Bk x.1.cs)
  (fun x a' _ X Y row hs hg hr=>by
   obtain⟨Bk,h1,h2⟩:=hs
   exact⟨Bk,h1,Vg h2 (Nat.succ_pos _) hg (fun r e=>(hr r e).2)⟩)
  ?assign ?body ?done ?stop
 case assign=>
  intro l pre x W K hI hK
  simp only[encP]
  obtain⟨p1,p2,p3⟩:=Zbr W Jl.cs x.1.cs 48 (Nat.le_refl _) rfl (Nat.succ_pos _)
  obtain⟨X1,hX1⟩: ∃X1,X1=(W.alloc (Obj.cells Jl.cs.toArray 48)).setCells W.heap.size 0 x.1.cs:=⟨_,rfl⟩
  rw[←hX1] at p1 p2 p3
  have HK:=Ab (hK)
  have hg2:W.grownBy X1 none:=Ex p1
  have hI2:Hid _:=Ab hI
  clear hK hI
  have ht:((#[10,11]:Array Tmp).zip #[x.1.agg,x.2.agg]).foldl (fun t x=>t.setIfInBounds x.1 x.2) (#[.pointer (some ⟨T.t,0,none⟩),undef, .slice none 0 0, .pointer (some ⟨wm.heap.size,0,none⟩),undef, .pointer (some ⟨T.t,0,none⟩), .int .i64 T.live.length, .slice (some ⟨w1.heap.size,0,none⟩) 0 T.live.length, .pointer (some ⟨T.t,0,none⟩), .func (.func 80) #[] #[.pointer (some ⟨wm.heap.size+1,0,none⟩)],undef,undef,undef,undef,undef,undef,undef,undef,undef,undef,undef,undef]:Array Value)= #[.pointer (some ⟨T.t,0,none⟩),undef, .slice none 0 0, .pointer (some ⟨wm.heap.size,0,none⟩),undef, .pointer (some ⟨T.t,0,none⟩), .int .i64 T.live.length, .slice (some ⟨w1.heap.size,0,none⟩) 0 T.live.length, .pointer (some ⟨T.t,0,none⟩), .func (.func 80) #[] #[.pointer (some ⟨wm.heap.size+1,0,none⟩)],x.1.agg,x.2.agg,undef,undef,undef,undef,undef,undef,undef,undef,undef,undef]:=by simp
  rw[ht]
  refine wpIn_region_lit ?_
  refine inV (fun _=>trivial) (by rfl) (by intro c h;cases h) (Zah rfl) ?_
  simp only[nn]
  refine inS (fun _=>trivial) (by rfl) (by intro c h;cases h) (Ge (t:=48) (vs:=x.1.cs) rfl rfl rfl rfl (by simp[KK.cs,Value.oneCell']) Kn (Holds.new W Jl.cs 48) (Nat.le_refl _)) ?_
  rw[←hX1]
  simp only[nn]
  refine wpListIn_nil ?_
  obtain⟨⟨v,hv,hrow, -⟩,hbn,hB⟩:=Aa hI2
  have hsz:=hB.size
  exact(Aa HK) _ X1 (KeepsFrom.of_grownBy hg2 (fun j e=>by cases e)) ⟨p1.mono hsz,p1.block _ hbn.lt⟩ ⟨⟨v,hv.kept hg2 (by simp),Qe hrow (fun g hg=>p1.block g (World.ownsRow.lt hrow g hg).2),trivial⟩,hbn.kept hg2 (by simp),hB.trans (p1.mono hsz)⟩ ⟨W.heap.size,rfl,p2⟩
 case body=>
  rintro l pre x a' W hl2 hloop ⟨⟨v,hv,hrow, -⟩,hbn,hB⟩ ⟨Bk,rfl,hk⟩ hlen
  have Hk:=Ab hk
  have Hv:=Ab hv
  have Hrow:=Ab hrow
  have Hbn:=Ab hbn
  have HB:=Ab hB
  clear hk hv hrow hbn hB hloop
  refine wpIn_block ?_
  refine wpIn_region_lit ?_
  refine inV (fun _=>trivial) (by rfl) (by intro c h;cases h) (Ju (B:=wm.heap.size) (p:=0) (v:=v) 40 isAgg40 rfl rfl (Aa Hv).cell) ?_
  simp only[nn]
  refine inV (fun _=>trivial) (by rfl) (by intro c h;cases h) (Af (B:=Bk) (p:=0) (cs:=x.1.cs) (vs:=x.1.cs) 48 2 Jq Kn rfl rfl (Aa Hk) rfl rfl) ?_
  simp only[nn]
  refine inV (fun _=>trivial) (by rfl) (by intro c h;cases h) (Vl (t:=40) (e:=48) (v:= .agg x.1.cs.toArray) (cs:=x.1.cs) rfl rfl underlying40 Qi (by decide) rfl rfl (by decide)) ?_
  simp only[nn]
  refine appI (v:=v) (B:=W.heap.size) (m:=1) (c:=1) (fun _=>trivial) (by rfl) rfl rfl rfl underlying40 Qi rfl (by decide) ((Aa Hrow).alloc _) (Holds.new W x.1.cs 48) rfl (by simp[KK.cs,Value.oneCell']) (by omega) (by decide) (by have:=(Aa HB).size;simp;omega) ?_
  intro A c' w4 ho4 hg4
  have HA:=Ab ((Aa Hv).appended (by decide) (Aa Hrow) (Aa HB).size hms ho4 hg4)
  have HG:=Ab hg4
  clear ho4 hg4
  simp only[nn]
  refine inS (fun _=>trivial) (by rfl) (by intro c h;cases h) (Ge (t:=40) (b:=wm.heap.size) (p:=0) (cs:= [v]) (vs:= [.slice A (pre.length+1) c']) rfl rfl rfl rfl (by simp[Value.oneCell']) siz64 (Xo (Aa HA).1) (Nat.le_refl _)) ?_
  simp only[nn]
  refine wpListIn_nil ?_
  obtain⟨h1,h2,h3,h4,h5⟩:=Aa HA
  have hbn:=Aa Hbn
  have hB:=Aa HB
  have hne:some (wm.heap.size+1)≠v.ownBlock:=hbn.not_row (by decide) (Aa Hrow)
  have eb:(w4.setCell ⟨wm.heap.size,0,none⟩ (Value.slice A (pre.length+1) c')).heap[wm.heap.size+1]? =W.heap[wm.heap.size+1]? :=by
   rw[Below.heap_setCell _ _ _ _ (by show wm.heap.size+1≠wm.heap.size;omega),(Aa HG).block _ (by have:=hbn.lt;simp;omega) hne,Below.heap_alloc _ _ _ hbn.lt]
  refine⟨h4.from _,⟨h5,eb⟩,⟨⟨_,h2, ?_,trivial⟩,eb.trans hbn,hB.trans h5⟩⟩
  rw[List.map_append,Ul,show Gu (List.map (fun z:KK×DD=>z.1) [x])=x.1.cs from ZeN x.1,List.length_append]
  exact h3
 case done=>
  rintro D ys W hD rfl ⟨⟨v,hv,hrow, -⟩,hbn,hB⟩ hK
  have hc:=hv.cell
  have hO:OwnK W w1.heap.size v (T.live.map (·.k)):=by
   unfold OwnK
   have e1:(T.live.map RR.pr).map (fun z:KK×DD=>z.1)=T.live.map (·.k):=by rw[List.map_map];rfl
   rw[e1] at hrow
   rw[List.length_map] at hrow ⊢
   exact hrow
  have hall:(T.live.map (·.k)).all goodK=true:=by
   rw[List.all_map,List.all_eq_true]
   intro r hr
   exact(Aa HT).good r hr
  have HC:=Ab (orderW v (T.live.map (·.k)) W (ZbV hU (ZaI hU) hB) (hP.on hB) hO.reads (by rw[List.length_map];exact hl))
  clear hO
  gi_wp2_with fail
  refine⟨trivial,(callsIn_wide.2 (Aa HC)).mono ?_⟩
  rintro e W5 ⟨v5,n5,rfl,hb5,hcase⟩
  rcases hcase with ⟨-,rfl,L5,hO5⟩|⟨hbad, -, -⟩
  rotate_left
  ·rw[hall] at hbad;cases hbad
  obtain⟨A5,c5,rfl⟩:=Gw hO5
  have hv5:Boxed W5 wm.heap.size 40 v:=(hb5.block _ hv.lt).trans hv
  have hc5:=hv5.cell
  have hf5:=hv5.frozen
  have hDl:D<W.heap.size:=(Array.getElem?_eq_some_iff.1 hK).1
  have hD2:wm.heap.size+1+1<=D:=by simpa using hD
  have HO5:=Ab hO5
  clear hO5 hall
  gi_wp2
  have hK5:(W5.setCell ⟨wm.heap.size,0,none⟩ (.slice A5 L5.length c5)).heap[D]? =some (.deferred (some [])):=by
   rw[Below.heap_setCell _ _ _ _ (by show D≠wm.heap.size;omega),hb5.block D hDl]
   exact hK
  have hO5:=Aa HO5
  have hBs:=hB.size
  refine⟨by simp, .inl ⟨_,_,rfl,run_takeDeferred hK5, ?_⟩⟩
  refine⟨_,results_tmp rfl _ _ _,_,L5,rfl, ?_,((hB.trans (hb5.mono hBs)).setCell (p:=⟨wm.heap.size,0,none⟩) (by exact hms) _).trans (belowK_b (w:=w1) (Nat.le_refl _) _ D _ _ (by omega) hK5 rfl rfl)⟩
  refine(hO5.mono hBs).block (fun g hg=> ?_)
  have hg2:=(hO5.own g hg)
  have e1: ∀(Z:World) (o':Obj),(Z.putObj D o').heap[g]? =Z.heap[g]? :=fun Z o'=>by
   show (Z.heap.setIfInBounds D o')[g]? =_
   rw[Array.getElem?_setIfInBounds_ne (by omega)]
  rw[e1,Below.heap_setCell _ _ _ _ (by have:=hv.lt;show g≠wm.heap.size;omega)]
 case stop=>
  rintro D c pre W _ _ h _
  exact h.elim
end
section
open Go Go.Proofs Go.RowKit FM Tryz
def Eb (x:Bool) (n d:DD):DD:=if Jj d==0|| !stV n then Ak else if noV n then (if x then Kw d else Ak) else if n.c==1 && Zz n d then n else Rl n d
def Yk (x:Bool) (n d:DD):Bool:=if Jj d==0|| !stV n then false else if noV n then x else !(n.c==1 && Zz n d)
def Lk (n d:DD):Int:=if Jj d==0|| !stV n then 5 else 0
theorem no_str {n:DD} (h:noV n=true):n.v.s.size<=1048576:=by
 refine Zcf ?_
 unfold noV Dg at h
 cases ht:thV n.v
 ·rfl
 ·rw[ht] at h
  simp at h
  split at h<;>simp_all
theorem st_str {n:DD} (h:stV n=true):n.v.s.size<=1048576:=by
 unfold stV at h
 simp only[Bool.or_eq_true] at h
 rcases h with h|h
 ·exact no_str h
 ·exact Vb (Qw (ZcK h))
theorem bec_str {n d:DD} (h1:n.v.s.size<=1048576) (h2:d.v.s.size<=1048576):(Rl n d).v.s.size<=1048576:=by
 unfold Rl
 cases turnV n d
 ·show (orV d.v n.v).s.size<=1048576
  unfold orV
  cases thV d.v
  ·exact h1
  ·exact h2
 ·exact Zct h2
theorem Zfa (x:Bool) (n d:DD) (hn:FD n) (hd:FD d) (w:World) (hT:Lib.Utf8Tabs 1 2 w):Calls prog 74 #[.bool x,n.agg,d.agg] w fun e w'=>e= .returned (.tuple #[(Eb x n d).agg, .bool (Yk x n d), .int .i64 (Lk n d)])/\Below w.heap.size w w':=by
 have HT:=Ab hT
 clear hT
 have HC:=Ab (fun w hT=>Uv d hd w hT)
 have HSt:=Ab (fun w hT=>ZcO n hn w hT)
 have HNo:=Ab (Vy n hn)
 have HFi:=Ab (Zad d hd)
 have HFb:=Ab (fun w hT=>ZaD n d hn hd w hT)
 have HBe:=Ab (Zdw n d hn hd)
 have HAf:=Ab (fun (h: ¬Jj d=0) w=>Zar (Kw d) (Zct (Vb (Qw h))) w)
 have HAn:=Ab (fun (h:stV n=true) w=>Zar n (st_str h) w)
 have HAb:=Ab (fun (h: ¬Jj d=0) (h2:stV n=true) w=>Zar (Rl n d) (bec_str (st_str h2) (Vb (Qw h))) w)
 clear hn hd
 have LL:=Ab (Lie.new3 w (.D n) (.D d) (.D Ak))
 unfold Eb Yk Lk
 unfold Ez at HC
 generalize Jj d=k at *
 generalize stV n=st at *
 generalize noV n=no at *
 generalize Kw d=fd at *
 generalize Zz n d=fb at *
 generalize Rl n d=be at *
 generalize hq:(n.c==1)=q at *
 have hq0:=Ja n
 have hq1:=Ja d
 rw[hq0,hq1]
 clear hq0 hq1
 by_cases hk:k=0
 ·clear HAf HAb HAn
  subst hk
  go_enter func74,ntmps74
  go_wp2_with (first|go_skip|((with_reducible apply De);(case ho=>rfl);(case hw=>rfl);(case hx=>rfl);(case hc=>first|exact(Aa LL).one|exact(Aa LL).two);simp only[nn]))
  refine(Aa HC _ (Ar (Aa HT) (Aa LL).below)).mono ?_
  rintro _ w11 ⟨rfl,hb⟩
  replace LL:=Ab ((Aa LL).on hb)
  clear hb
  go_wp2_with (first|go_skip|((with_reducible apply Km (u:=Ak) 2);(case ho=>rfl);(case hw=>rfl);(case hL=>exact Aa LL);(case hi=>rfl);(case hx=>rfl);(case hy=>rfl);(intro X LX;simp only[nn];replace LL:=Ab LX;clear LX)))
  refine Nz rfl rfl rfl rfl rfl (Aa LL).three ?_
  exact⟨rfl,(Aa LL).below⟩
 ·have e0:(k==0)=false:=by simp[hk]
  simp only[e0] at HC ⊢
  replace HAf:=Ab (Aa HAf hk)
  replace HAb:=Ab (Aa HAb hk)
  clear hk e0
  cases st
  ·clear HAn HAb
   go_enter func74,ntmps74
   go_wp2_with (first|go_skip|((with_reducible apply De);(case ho=>rfl);(case hw=>rfl);(case hx=>rfl);(case hc=>first|exact(Aa LL).one|exact(Aa LL).two);simp only[nn]))
   refine(Aa HC _ (Ar (Aa HT) (Aa LL).below)).mono ?_
   rintro _ w12 ⟨rfl,hb⟩
   replace LL:=Ab ((Aa LL).on hb)
   clear hb
   go_wp2_with (first|go_skip|((with_reducible apply De);(case ho=>rfl);(case hw=>rfl);(case hx=>rfl);(case hc=>first|exact(Aa LL).one|exact(Aa LL).two);simp only[nn]))
   refine(Aa HSt _ (Ar (Aa HT) (Aa LL).below)).mono ?_
   rintro _ w13 ⟨rfl,hb⟩
   replace LL:=Ab ((Aa LL).on hb)
   clear hb
   go_wp2_with (first|go_skip|((with_reducible apply Km (u:=Ak) 2);(case ho=>rfl);(case hw=>rfl);(case hL=>exact Aa LL);(case hi=>rfl);(case hx=>rfl);(case hy=>rfl);(intro X LX;simp only[nn];replace LL:=Ab LX;clear LX)))
   refine Nz rfl rfl rfl rfl rfl (Aa LL).three ?_
   exact⟨rfl,(Aa LL).below⟩
  ·replace HAn:=Ab (Aa HAn rfl)
   replace HAb:=Ab (Aa HAb rfl)
   cases no
   ·go_enter func74,ntmps74
    go_wp2_with (first|go_skip|((with_reducible apply De);(case ho=>rfl);(case hw=>rfl);(case hx=>rfl);(case hc=>first|exact(Aa LL).one|exact(Aa LL).two);simp only[nn]))
    refine(Aa HC _ (Ar (Aa HT) (Aa LL).below)).mono ?_
    rintro _ w17 ⟨rfl,hb⟩
    replace LL:=Ab ((Aa LL).on hb)
    clear hb
    go_wp2_with (first|go_skip|((with_reducible apply De);(case ho=>rfl);(case hw=>rfl);(case hx=>rfl);(case hc=>first|exact(Aa LL).one|exact(Aa LL).two);simp only[nn]))
    refine(Aa HSt _ (Ar (Aa HT) (Aa LL).below)).mono ?_
    rintro _ w18 ⟨rfl,hb⟩
    replace LL:=Ab ((Aa LL).on hb)
    clear hb
    go_wp2_with (first|go_skip|((with_reducible apply De);(case ho=>rfl);(case hw=>rfl);(case hx=>rfl);(case hc=>first|exact(Aa LL).one|exact(Aa LL).two);simp only[nn]))
    refine(Aa HNo _).mono ?_
    rintro _ w19 ⟨rfl,hb⟩
    replace LL:=Ab ((Aa LL).on hb)
    clear hb
    go_wp2_with (first|go_skip|((with_reducible apply De);(case ho=>rfl);(case hw=>rfl);(case hx=>rfl);(case hc=>first|exact(Aa LL).one|exact(Aa LL).two);simp only[nn]))
    refine(Aa HNo _).mono ?_
    rintro _ w20 ⟨rfl,hb⟩
    replace LL:=Ab ((Aa LL).on hb)
    clear hb
    cases q
    ·go_wp2_with (first|go_skip|((with_reducible apply De);(case ho=>rfl);(case hw=>rfl);(case hx=>rfl);(case hc=>first|exact(Aa LL).one|exact(Aa LL).two);simp only[nn])|((with_reducible apply Ev);(case ho=>rfl);(case hw=>rfl);(case hx=>rfl);(case hc=>first|exact(Aa LL).one|exact(Aa LL).two);simp only[nn]))
     refine(Aa HBe _).mono ?_
     rintro _ w21 ⟨rfl,hb⟩
     replace LL:=Ab ((Aa LL).on hb)
     clear hb
     go_wp2_with (go_skip)
     refine(Aa HAb _).mono ?_
     rintro _ w22 ⟨rfl,hb⟩
     replace LL:=Ab ((Aa LL).on hb)
     clear hb
     go_wp2_with (first|go_skip|((with_reducible apply Km 2);(case ho=>rfl);(case hw=>rfl);(case hL=>exact Aa LL);(case hi=>rfl);(case hx=>rfl);(case hy=>rfl);(intro X LX;simp only[nn];replace LL:=Ab LX;clear LX)))
     refine Nz rfl rfl rfl rfl rfl (Aa LL).three ?_
     exact⟨rfl,(Aa LL).below⟩
    ·go_wp2_with (first|go_skip|((with_reducible apply De);(case ho=>rfl);(case hw=>rfl);(case hx=>rfl);(case hc=>first|exact(Aa LL).one|exact(Aa LL).two);simp only[nn])|((with_reducible apply Ev);(case ho=>rfl);(case hw=>rfl);(case hx=>rfl);(case hc=>first|exact(Aa LL).one|exact(Aa LL).two);simp only[nn]))
     refine(Aa HFb _ (Ar (Aa HT) (Aa LL).below)).mono ?_
     rintro _ w23 ⟨rfl,hb⟩
     replace LL:=Ab ((Aa LL).on hb)
     clear hb
     cases fb
     ·go_wp2_with (first|go_skip|((with_reducible apply De);(case ho=>rfl);(case hw=>rfl);(case hx=>rfl);(case hc=>first|exact(Aa LL).one|exact(Aa LL).two);simp only[nn]))
      refine(Aa HBe _).mono ?_
      rintro _ w24 ⟨rfl,hb⟩
      replace LL:=Ab ((Aa LL).on hb)
      clear hb
      go_wp2_with (go_skip)
      refine(Aa HAb _).mono ?_
      rintro _ w25 ⟨rfl,hb⟩
      replace LL:=Ab ((Aa LL).on hb)
      clear hb
      go_wp2_with (first|go_skip|((with_reducible apply Km 2);(case ho=>rfl);(case hw=>rfl);(case hL=>exact Aa LL);(case hi=>rfl);(case hx=>rfl);(case hy=>rfl);(intro X LX;simp only[nn];replace LL:=Ab LX;clear LX)))
      refine Nz rfl rfl rfl rfl rfl (Aa LL).three ?_
      exact⟨rfl,(Aa LL).below⟩
     ·go_wp2_with (first|go_skip|((with_reducible apply De);(case ho=>rfl);(case hw=>rfl);(case hx=>rfl);(case hc=>first|exact(Aa LL).one|exact(Aa LL).two);simp only[nn]))
      refine(Aa HAn _).mono ?_
      rintro _ w26 ⟨rfl,hb⟩
      replace LL:=Ab ((Aa LL).on hb)
      clear hb
      go_wp2_with (first|go_skip|((with_reducible apply Km 2);(case ho=>rfl);(case hw=>rfl);(case hL=>exact Aa LL);(case hi=>rfl);(case hx=>rfl);(case hy=>rfl);(intro X LX;simp only[nn];replace LL:=Ab LX;clear LX)))
      refine Nz rfl rfl rfl rfl rfl (Aa LL).three ?_
      exact⟨rfl,(Aa LL).below⟩
   ·cases x
    ·go_enter func74,ntmps74
     go_wp2_with (first|go_skip|((with_reducible apply De);(case ho=>rfl);(case hw=>rfl);(case hx=>rfl);(case hc=>first|exact(Aa LL).one|exact(Aa LL).two);simp only[nn]))
     refine(Aa HC _ (Ar (Aa HT) (Aa LL).below)).mono ?_
     rintro _ w14 ⟨rfl,hb⟩
     replace LL:=Ab ((Aa LL).on hb)
     clear hb
     go_wp2_with (first|go_skip|((with_reducible apply De);(case ho=>rfl);(case hw=>rfl);(case hx=>rfl);(case hc=>first|exact(Aa LL).one|exact(Aa LL).two);simp only[nn]))
     refine(Aa HSt _ (Ar (Aa HT) (Aa LL).below)).mono ?_
     rintro _ w15 ⟨rfl,hb⟩
     replace LL:=Ab ((Aa LL).on hb)
     clear hb
     go_wp2_with (first|go_skip|((with_reducible apply De);(case ho=>rfl);(case hw=>rfl);(case hx=>rfl);(case hc=>first|exact(Aa LL).one|exact(Aa LL).two);simp only[nn]))
     refine(Aa HNo _).mono ?_
     rintro _ w16 ⟨rfl,hb⟩
     replace LL:=Ab ((Aa LL).on hb)
     clear hb
     go_wp2_with (first|go_skip|((with_reducible apply Km (u:=Ak) 2);(case ho=>rfl);(case hw=>rfl);(case hL=>exact Aa LL);(case hi=>rfl);(case hx=>rfl);(case hy=>rfl);(intro X LX;simp only[nn];replace LL:=Ab LX;clear LX)))
     refine Nz rfl rfl rfl rfl rfl (Aa LL).three ?_
     exact⟨rfl,(Aa LL).below⟩
    ·go_enter func74,ntmps74
     go_wp2_with (first|go_skip|((with_reducible apply De);(case ho=>rfl);(case hw=>rfl);(case hx=>rfl);(case hc=>first|exact(Aa LL).one|exact(Aa LL).two);simp only[nn]))
     refine(Aa HC _ (Ar (Aa HT) (Aa LL).below)).mono ?_
     rintro _ w11 ⟨rfl,hb⟩
     replace LL:=Ab ((Aa LL).on hb)
     clear hb
     go_wp2_with (first|go_skip|((with_reducible apply De);(case ho=>rfl);(case hw=>rfl);(case hx=>rfl);(case hc=>first|exact(Aa LL).one|exact(Aa LL).two);simp only[nn]))
     refine(Aa HSt _ (Ar (Aa HT) (Aa LL).below)).mono ?_
     rintro _ w12 ⟨rfl,hb⟩
     replace LL:=Ab ((Aa LL).on hb)
     clear hb
     go_wp2_with (first|go_skip|((with_reducible apply De);(case ho=>rfl);(case hw=>rfl);(case hx=>rfl);(case hc=>first|exact(Aa LL).one|exact(Aa LL).two);simp only[nn]))
     refine(Aa HNo _).mono ?_
     rintro _ w13 ⟨rfl,hb⟩
     replace LL:=Ab ((Aa LL).on hb)
     clear hb
     go_wp2_with (first|go_skip|((with_reducible apply De);(case ho=>rfl);(case hw=>rfl);(case hx=>rfl);(case hc=>first|exact(Aa LL).one|exact(Aa LL).two);simp only[nn]))
     refine(Aa HNo _).mono ?_
     rintro _ w14 ⟨rfl,hb⟩
     replace LL:=Ab ((Aa LL).on hb)
     clear hb
     go_wp2_with (first|go_skip|((with_reducible apply De);(case ho=>rfl);(case hw=>rfl);(case hx=>rfl);(case hc=>first|exact(Aa LL).one|exact(Aa LL).two);simp only[nn]))
     refine(Aa HFi _).mono ?_
     rintro _ w15 ⟨rfl,hb⟩
     replace LL:=Ab ((Aa LL).on hb)
     clear hb
     go_wp2_with (go_skip)
     refine(Aa HAf _).mono ?_
     rintro _ w16 ⟨rfl,hb⟩
     replace LL:=Ab ((Aa LL).on hb)
     clear hb
     go_wp2_with (first|go_skip|((with_reducible apply Km 2);(case ho=>rfl);(case hw=>rfl);(case hL=>exact Aa LL);(case hi=>rfl);(case hx=>rfl);(case hy=>rfl);(intro X LX;simp only[nn];replace LL:=Ab LX;clear LX)))
     refine Nz rfl rfl rfl rfl rfl (Aa LL).three ?_
     exact⟨rfl,(Aa LL).below⟩
end
section
open Go Go.Proofs Go.RowKit FM
theorem Nh {t a:Int} (h1:Oz t=true) (h2:Oz a=true):Oz (orT t a)=true:=by
 unfold orT
 cases (t !=0)
 ·exact h2
 ·exact h1
theorem st_whole {n:DD} (hs:stV n=true) (hz:noV n=false):wholeV n=true:=by
 unfold stV at hs
 rw[hz] at hs
 simpa using hs
theorem Nm (a:DD):wholeV a=true↔Ka a=true/\(a.e !=0)=true/\(a.c !=0)=true/\((thV a.v=true/\(a.w !=0)=true/\thV a.g=false/\thV a.s=false)∨(thV a.g=true/\thV a.s=true/\thV a.v=false/\(a.w !=0)=false)):=by
 unfold wholeV Jj Dg
 generalize Ka a=sd
 generalize thV a.v=tv
 generalize thV a.g=tg
 generalize thV a.s=ts
 generalize (a.w !=0)=qa
 generalize (a.e !=0)=qe
 generalize (a.c !=0)=qc
 cases sd<;>cases tv<;>cases qa<;>cases tg<;>cases ts<;>cases qe<;>cases qc<;>decide
theorem Zp (d:DD): ¬Jj d=0↔Ka d=true/\(((thV d.v||d.w !=0) && (thV d.g||thV d.s))=false):=by
 unfold Jj Dg
 generalize Ka d=sd
 generalize thV d.v=tv
 generalize thV d.g=tg
 generalize thV d.s=ts
 generalize (d.w !=0)=qa
 cases sd<;>cases tv<;>cases qa<;>cases tg<;>cases ts<;>decide
structure Took (a d:DD):Prop where
 whole:wholeV a=true
 turn:turnV a d=false
 v:thV d.v=true->a.v=d.v
 g:thV d.g=true->a.g=d.g
 s:thV d.s=true->a.s=d.s
 w:(d.w !=0)=true->a.w=d.w
 e:(d.e !=0)=true->a.e=d.e
 c:(d.c !=0)=true->a.c=d.c
theorem Od {v a:VV} (h:thV v=true):orV v a=v:=by unfold orV;rw[h];rfl
theorem Zc5 {v a:VV} (h:thV v=false):orV v a=a:=by unfold orV;rw[h];rfl
theorem Lm {v a:Int} (h:(v !=0)=true):orT v a=v:=by unfold orT;rw[h];rfl
theorem orT_no {v a:Int} (h:(v !=0)=false):orT v a=a:=by unfold orT;rw[h];rfl
theorem Qb:thV Dp=true/\Dp.good=true/\Nc Dp=true:=⟨by kernel_rfl,by kernel_rfl,by kernel_rfl⟩
theorem Ni (v a:VV):thV (orV v a)=(thV v||thV a):=by
 cases h:thV v
 ·rw[Zc5 h];rfl
 ·rw[Od h,h];rfl
theorem Vc (v a:Int):(orT v a !=0)=(v !=0||a !=0):=by
 cases h:(v !=0)
 ·rw[orT_no h];rfl
 ·rw[Lm h,h];rfl
theorem Zco {v a:VV} (h1:(!thV v||v.good)=true) (h2:(!thV a||a.good)=true):(!thV (orV v a)||(orV v a).good)=true:=by
 cases h:thV v
 ·rw[Zc5 h];exact h2
 ·rw[Od h];exact h1
theorem Yw {v a:VV} (h1:Nc v=true) (h2:Nc a=true):Nc (orV v a)=true:=by
 cases h:thV v
 ·rw[Zc5 h];exact h2
 ·rw[Od h];exact h1
theorem Pa {d:DD} (h:Ka d=true):(!thV d.v||d.v.good)=true/\Nc d.g=true/\Nc d.s=true/\Oz d.w=true/\Oz d.e=true/\Oz d.c=true:=by
 unfold Ka at h
 simp only[Bool.and_eq_true] at h
 exact⟨h.1.1.1.1.1,h.1.1.1.1.2,h.1.1.1.2,h.1.1.2,h.1.2,h.2⟩
theorem Rt {d:DD} (h1:(!thV d.v||d.v.good)=true) (h2:Nc d.g=true) (h3:Nc d.s=true) (h4:Oz d.w=true) (h5:Oz d.e=true) (h6:Oz d.c=true):Ka d=true:=by
 unfold Ka
 rw[h1,h2,h3,h4,h5,h6]
 rfl
theorem Za7 {a d:DD} (hd:((thV d.v||d.w !=0) && (thV d.g||thV d.s))=false) (h1:(thV d.v||d.w !=0)=true->(thV a.v||a.w !=0)=true/\(thV a.g||thV a.s)=false) (h2:(thV d.g||thV d.s)=true->(thV a.g||thV a.s)=true/\(thV a.v||a.w !=0)=false):turnV a d=false:=by
 unfold turnV Dg
 generalize (thV d.v||d.w !=0)=p at *
 generalize (thV d.g||thV d.s)=q at *
 generalize (thV a.v||a.w !=0)=r at *
 generalize (thV a.g||thV a.s)=t at *
 revert hd h1 h2
 cases p<;>cases q<;>cases r<;>cases t<;>decide
theorem ZaH {d:DD} (h: ¬Jj d=0):Took (Kw d) d:=by
 obtain⟨hs,hk⟩:=(Zp d).1 h
 obtain⟨p1,p2,p3,p4,p5,p6⟩:=Pa hs
 have e1:(orT d.e 1 !=0)=true:=by rw[Vc];cases (d.e !=0)<;>rfl
 have e2:(orT d.c 1 !=0)=true:=by rw[Vc];cases (d.c !=0)<;>rfl
 have e3:(orT d.w 1 !=0)=true:=by rw[Vc];cases (d.w !=0)<;>rfl
 have u1: ∀v,thV (orV v Dp)=true:=fun v=>by rw[Ni,Qb.1,Bool.or_true]
 have gt:((thV d.g||thV d.s)=true/\(thV d.v||d.w !=0)=false/\Kw d=⟨d.v,orV d.g Dp,orV d.s Dp,d.w,orT d.e 1,orT d.c 1⟩)∨((thV d.g||thV d.s)=false/\Kw d=⟨orV d.v Dp,d.g,d.s,orT d.w 1,orT d.e 1,orT d.c 1⟩):=by
  unfold Kw Dg
  generalize (thV d.v||d.w !=0)=p at *
  generalize (thV d.g||thV d.s)=q at *
  cases p<;>cases q
  ·exact Or.inr ⟨rfl,rfl⟩
  ·exact Or.inl ⟨rfl,rfl,rfl⟩
  ·exact Or.inr ⟨rfl,rfl⟩
  ·exact absurd hk (by decide)
 rcases gt with ⟨g1,g2,g3⟩|⟨g1,g3⟩
 ·have g2':=g2
  rw[Bool.or_eq_false_iff] at g2'
  rw[g3]
  refine⟨(Nm _).2 ⟨Rt p1 (Yw p2 Qb.2.2) (Yw p3 Qb.2.2) p4 (Nh p5 (by decide)) (Nh p6 (by decide)),e1,e2,Or.inr ⟨u1 _,u1 _,g2'.1,g2'.2⟩⟩,Za7 hk ?_ ?_,fun _=>rfl,fun k=>Od k,fun k=>Od k,fun _=>rfl,fun k=>Lm k,fun k=>Lm k⟩
  ·intro k
   rw[g2] at k
   exact absurd k (by decide)
  ·intro _
   refine⟨?_,g2⟩
   show (thV (orV d.g Dp)||thV (orV d.s Dp))=true
   rw[u1]
   rfl
 ·have g1':=g1
  rw[Bool.or_eq_false_iff] at g1'
  rw[g3]
  refine⟨(Nm _).2 ⟨Rt (Zco p1 (by rw[Qb.2.1];exact Bool.or_true _)) p2 p3 (Nh p4 (by decide)) (Nh p5 (by decide)) (Nh p6 (by decide)),e1,e2,Or.inl ⟨u1 _,e3,g1'.1,g1'.2⟩⟩,Za7 hk ?_ ?_,fun k=>Od k,fun _=>rfl,fun _=>rfl,fun k=>Lm k,fun k=>Lm k,fun k=>Lm k⟩
  ·intro _
   refine⟨?_,g1⟩
   show (thV (orV d.v Dp)||(orT d.w 1 !=0))=true
   rw[u1]
   rfl
  ·intro k
   rw[g1] at k
   exact absurd k (by decide)
theorem tri_ne {t a:Int} (h:(a !=0)=true):(orT t a !=0)=true:=by rw[Vc,h,Bool.or_true]
theorem took_bec {n d:DD} (hn:wholeV n=true) (h: ¬Jj d=0):Took (Rl n d) d:=by
 obtain⟨hs,hk⟩:=(Zp d).1 h
 obtain⟨p1,p2,p3,p4,p5,p6⟩:=Pa hs
 obtain⟨ns,ne,nc,nn⟩:=(Nm n).1 hn
 obtain⟨q1,q2,q3,q4,q5,q6⟩:=Pa ns
 cases ht:turnV n d
 ·have hb:Rl n d=⟨orV d.v n.v,orV d.g n.g,orV d.s n.s,orT d.w n.w,orT d.e n.e,orT d.c n.c⟩:=by
   unfold Rl
   rw[ht]
   rfl
  have sh:((thV d.v||d.w !=0)=true->thV n.v=true/\(n.w !=0)=true/\thV n.g=false/\thV n.s=false)/\((thV d.g||thV d.s)=true->thV n.g=true/\thV n.s=true/\thV n.v=false/\(n.w !=0)=false):=by
   unfold turnV Dg at ht
   generalize (thV d.v||d.w !=0)=p at *
   generalize (thV d.g||thV d.s)=q at *
   rcases nn with ⟨n1,n2,n3,n4⟩|⟨n1,n2,n3,n4⟩
   ·rw[n1,n2,n3,n4] at ht ⊢
    revert ht hk
    cases p<;>cases q<;>decide
   ·rw[n1,n2,n3,n4] at ht ⊢
    revert ht hk
    cases p<;>cases q<;>decide
  have hw:wholeV (Rl n d)=true:=by
   rw[hb]
   refine(Nm _).2 ⟨Rt (Zco p1 q1) (Yw p2 q2) (Yw p3 q3) (Nh p4 q4) (Nh p5 q5) (Nh p6 q6),tri_ne ne,tri_ne nc, ?_⟩
   show (thV (orV d.v n.v)=true/\(orT d.w n.w !=0)=true/\thV (orV d.g n.g)=false/\thV (orV d.s n.s)=false)∨(thV (orV d.g n.g)=true/\thV (orV d.s n.s)=true/\thV (orV d.v n.v)=false/\(orT d.w n.w !=0)=false)
   rw[Ni,Ni,Ni,Vc]
   revert sh nn
   generalize thV d.v=a1
   generalize (d.w !=0)=a2
   generalize thV d.g=a3
   generalize thV d.s=a4
   generalize thV n.v=b1
   generalize (n.w !=0)=b2
   generalize thV n.g=b3
   generalize thV n.s=b4
   cases a1<;>cases a2<;>cases a3<;>cases a4<;>cases b1<;>cases b2<;>cases b3<;>cases b4<;>decide
  refine⟨hw, ?_, ?_, ?_, ?_, ?_, ?_, ?_⟩
  ·obtain⟨-, -, -,ww⟩:=(Nm _).1 hw
   refine Za7 hk ?_ ?_
   ·intro k
    obtain⟨k1,k2,k3,k4⟩:=sh.1 k
    rw[hb]
    show (thV (orV d.v n.v)||(orT d.w n.w !=0))=true/\(thV (orV d.g n.g)||thV (orV d.s n.s))=false
    rw[Ni,Ni,Ni,k1,k3,k4]
    rw[k] at hk
    revert hk
    generalize thV d.g=a3
    generalize thV d.s=a4
    cases a3<;>cases a4<;>simp
   ·intro k
    obtain⟨k1,k2,k3,k4⟩:=sh.2 k
    rw[hb]
    show (thV (orV d.g n.g)||thV (orV d.s n.s))=true/\(thV (orV d.v n.v)||(orT d.w n.w !=0))=false
    rw[Ni,Ni,Ni,Vc,k1,k3,k4]
    rw[k] at hk
    revert hk
    generalize thV d.v=a3
    generalize (d.w !=0)=a4
    cases a3<;>cases a4<;>simp
  ·intro k;rw[hb];exact Od k
  ·intro k;rw[hb];exact Od k
  ·intro k;rw[hb];exact Od k
  ·intro k;rw[hb];exact Lm k
  ·intro k;rw[hb];exact Lm k
  ·intro k;rw[hb];exact Lm k
 ·have hb:Rl n d=Kw ⟨d.v,d.g,d.s,d.w,orT d.e n.e,orT d.c n.c⟩:=by
   unfold Rl
   rw[ht]
   rfl
  have hk2: ¬Jj ⟨d.v,d.g,d.s,d.w,orT d.e n.e,orT d.c n.c⟩=0:=(Zp _).2 ⟨Rt p1 p2 p3 p4 (Nh p5 q5) (Nh p6 q6),hk⟩
  have T:=ZaH hk2
  rw[←hb] at T
  exact⟨T.whole,T.turn,T.v,T.g,T.s,T.w,fun k=>(T.e (by show (orT d.e n.e !=0)=true;rw[Lm k];exact k)).trans (Lm k),fun k=>(T.c (by show (orT d.c n.c !=0)=true;rw[Lm k];exact k)).trans (Lm k)⟩
theorem app_took {x:Bool} {n d:DD} (h:Yk x n d=true): ¬Jj d=0/\Took (Eb x n d) d/\Lk n d=0:=by
 unfold Yk at h
 by_cases hk:Jj d=0
 ·simp[hk] at h
 ·have hk0:(Jj d==0)=false:=by simp[hk]
  rw[hk0] at h
  cases hst:stV n
  ·rw[hst] at h
   simp at h
  ·rw[hst] at h
   refine⟨hk, ?_,by unfold Lk;rw[hk0,hst];rfl⟩
   unfold Eb
   rw[hk0,hst]
   cases hno:noV n
   ·rw[hno] at h
    simp only[Bool.not_true,Bool.or_self,Bool.false_eq_true,if_false] at h ⊢
    have hf:(n.c==1 && Zz n d)=false:=by
     cases hq:(n.c==1 && Zz n d)
     ·rfl
     ·rw[hq] at h
      exact absurd h (by decide)
    rw[hf]
    simp only[Bool.false_eq_true,if_false]
    exact took_bec (st_whole hst hno) hk
   ·rw[hno] at h
    simp only[Bool.not_true,Bool.or_self,Bool.false_eq_true,if_false,if_true] at h ⊢
    rw[h]
    exact ZaH hk
theorem ZaR {v a:VV} (h1:v.x<2^64) (h2:a.x<2^64):(orV v a).x<2^64:=by
 unfold orV
 split
 ·exact h1
 ·exact h2
theorem Zd4 {d:DD} (h:FD d):FD (Kw d):=by
 unfold Kw
 split
 ·exact⟨h.1,ZaR h.2.1 (by decide),ZaR h.2.2 (by decide)⟩
 ·exact⟨ZaR h.1 (by decide),h.2.1,h.2.2⟩
theorem fd_app (x:Bool) {n d:DD} (hn:FD n) (hd:FD d):FD (Eb x n d):=by
 have hz:FD Ak:=by unfold FD;decide
 unfold Eb
 split
 ·exact hz
 ·split
  ·split
   ·exact Zd4 hd
   ·exact hz
  ·split
   ·exact hn
   ·unfold Rl
    split
    ·exact Zd4 hd
    ·exact⟨ZaR hd.1 hn.1,ZaR hd.2.1 hn.2.1,ZaR hd.2.2 hn.2.2⟩
