import Derived.Test.YtieahhciibdnaaaGreatDoorQj
import Derived.Test.YtieahhciibdnaaaGreatDoorQt
import Derived.Calls
import Derived.Sort.Grow
import Derived.Shelf.SlGeneric
import Derived.Shelf.SlSortCmp.WholeK
import Derived.Shelf.SlSortCmp.NoneTotal
set_option linter.all false
namespace Go.Proofs.YtieahhciibdnaaaGreatDoor
set_option maxRecDepth 100000
set_option maxHeartbeats 0
section
open Go.RowKit Go.Shelf
theorem Zdr (c:Int) (w:World):Calls Tryz.prog 82 #[.int .i32 c] w fun e w'=>e= .returned (.int .i64 (if 65536<=c then 2 else 1))/\w'=w:=by
 by_cases h1:65536<=c
 all_goals
  go_enter Tryz.func82,Tryz.ntmps82
  go_wp2
  go_ret
  simp
theorem Zd7 (c:Int) (h0:0<=c) (h1:c<=1114111) (w:World):Calls Tryz.prog 81 #[.int .i32 c] w fun e w'=>e= .returned (.int .u16 (if 65536<=c then 55296+(c - 65536) / 1024 else c))/\w'=w:=by
 by_cases h2:65536<=c
 all_goals
  go_enter Tryz.func81,Tryz.ntmps81
  go_wp2
  go_ret
  exact⟨rfl,rfl⟩
theorem Zcg (c:Int) (h0:65536<=c) (h1:c<=1114111) (w:World):Calls Tryz.prog 83 #[.int .i32 c] w fun e w'=>e= .returned (.int .u16 (56320+(c - 65536) % 1024))/\w'=w:=by
 have hb:bits .and .i32 (c - 65536) 1023=(c - 65536) % 1024:=bits_mask .i32 31 (by decide) wraps_i32 10 (by decide) _ (by omega) (by omega)
 have b1:0<=(c - 65536) % 1024:=by omega
 have b2:(c - 65536) % 1024<1024:=by omega
 go_enter Tryz.func83,Tryz.ntmps83
 go_wp2
 go_ret
 exact⟨rfl,rfl⟩

open Go.RowKit Go.Shelf
open Go.RowKit Go.Shelf

open Go.RowKit Go.Shelf
attribute [local go_sem] Oper.semAt_some

theorem Qy (c:Nat) (w:World):Calls Tryz.prog 82 #[.int .i32 (c:Nat)] w fun e w'=>e= .returned (.int .i64 (wid c:Nat))/\w'=w:=by
 refine(Zdr (c:Int) w).mono ?_
 rintro e w' ⟨rfl,rfl⟩
 refine⟨Ll ?_,rfl⟩
 unfold wid
 by_cases h:65536<=c
 ·rw[if_pos (by omega),if_pos h];rfl
 ·rw[if_neg (by omega),if_neg h];rfl
theorem walk1_in (n:Nat) (hn:1<=n) (l Bn n₀:Nat) (s:ByteArray) (cs:List CP) (hs:Dj s=bytes cs) (hsz:s.size<=4611686018427387904) (J Jx:List PT->World->Prop) (hn2:3<=n₀)
  (W:World) (hAb:AbidesFrom W.heap.size J)
  (hY: ∀pre x W,J pre W->pre.length<(pts 0 cs).length->YieldAt Fence.wide (n - 1) Tryz.prog l (encs x) W fun e W'=>
   (e= .returned (.bool true)/\J (pre++ [x]) W'/\Below n₀ W W')∨(e= .returned (.bool false)/\Jx (pre++ [x]) W'))
  (hBn:W.cell? ⟨Bn,0,none⟩=some (.string s)) (hT:Lib.Utf8Tabs 1 2 W) (h0:J [] W) (hn₀:n₀<=W.heap.size):
  CallsIn Fence.wide n Tryz.prog 98 #[.func (.yield l) #[] #[], .pointer (some ⟨Bn,0,none⟩)] W fun e W'=>(∃v,e= .returned v)/\
   ((∃ys,ys=pts 0 cs/\J ys W')∨(∃pre,pre<+:pts 0 cs/\Jx pre W')):=by
 refine callsIn_of_wp Tryz.func98 rfl trivial ?_ rfl
 simp only[Tryz.ntmps98,List.size_toArray,List.length_cons,List.length_nil,Nat.reduceAdd,Nat.reduceSub,Array.replicate_succ,Array.replicate_zero,List.push_toArray,List.append_toArray,List.nil_append,List.cons_append]
 gi_wp2
 gi_loopw [3,4] (fun a t wr=> ∃(pre:List PT) (k:Nat) (rest:List CP) (u:ByteArray),a= .int .i64 (k:Nat)/\t= .string u/\Dj u=bytes rest/\pts 0 cs=pre++pts k rest/\k+u.size<=s.size/\J pre wr/\W.heap.size<=wr.heap.size/\Lib.Utf8Tabs 1 2 wr/\n₀<=wr.heap.size)
  (fun _ t _=>Rd t)
 case atStart=>
  exact⟨[],0,cs,s,rfl,rfl,hs,rfl,by omega,h0,Nat.le_refl _,hT,hn₀⟩
 case round=>
  obtain⟨pre,k,rest,u,rfl,rfl,hu,hx,hk,hJs,hWr,hTr,hnr⟩:=hrel
  have HU:=Ab hu;clear hu
  have HX:=Ab hx;clear hx
  cases rest with
  |nil=>
   have hE:u.toList.isEmpty=true:=Xm (Aa HU)
   gi_wp2
   go_end0
   exact⟨⟨_,rfl⟩, .inl ⟨pre,by rw[Aa HX];simp[pts],hJs⟩⟩
  |cons c rest=>
   have hlen:=M.E_len c.1
   have hsize:u.size=(M.E c.1).length+(bytes rest).length:=by
    rw[←Ek,Aa HU];simp[bytes]
   have hE:u.toList.isEmpty=false:=Um (by omega)
   have hdec:M.dec (Dj u)=(c.1,(M.E c.1).length):=by
    rw[Aa HU];simp only[bytes,List.map_cons,List.flatMap_cons];exact M.dec_E c.1 _ c.2
   have hdc:=Ym u wr hTr
   rw[hdec] at hdc
   have hwid:wid c.1<=(M.E c.1).length:=wid_le c.1
   have hdrop:(Dj u).drop (M.E c.1).length=bytes rest:=by
    rw[Aa HU];simp only[bytes,List.map_cons,List.flatMap_cons,List.drop_left]
   clear hdec
   have HDr:=Ab hdrop;clear hdrop
   generalize (M.E c.1).length=m at *
   dsimp only at hdc
   have hm1:(m:Int)<=(u.size:Int):=by omega
   clear hsize
   have HD:=Ab hdc;clear hdc
   have HY:=Ab hY;clear hY
   gi_wp2_with fail
   refine⟨trivial,(callsIn_wide.2 (Aa HD)).mono ?_⟩
   rintro e w1 ⟨rfl,hb⟩
   have hJ1:=hAb pre wr w1 none hJs (Ed hb) (fun r e=>by cases e)
   obtain⟨fn,tmps,assign,body,hy,hR⟩:=(Aa HY) pre ⟨(k,c.1),c.2⟩ w1 hJ1 (by rw[Aa HX];simp[pts])
   simp only[encs] at hy
   have HHR:=Ab hR;clear hR
   have hwb:wid c.1<=2:=by unfold wid;split<;>omega
   have hwp:1<=wid c.1:=by unfold wid;split<;>omega
   generalize hg:wid c.1=wd at *
   have HG:=Ab hg;clear hg
   gi_wp2_with fail
   refine(Aa HHR).mono ?_
   rintro e W3 (⟨rfl,hJ3,hk3⟩|⟨rfl,hJx3⟩)
   ·gi_wp2_with fail
    refine⟨trivial,(callsIn_wide.2 (Qy c.1 _)).mono ?_⟩
    rintro e w4 ⟨rfl,rfl⟩
    rw[Aa HG]
    gi_wp2
    go_roundw
    case rel=>
     refine⟨pre++ [⟨(k,c.1),c.2⟩],k+wd,rest,u.extract m u.size,by simp,rfl,by rw[Mi];exact Aa HDr, ?_, ?_,hJ3, ?_, ?_, ?_⟩
     ·rw[Aa HX];simp[pts,Aa HG]
     ·rw[Mg];omega
     ·have:=hb.size;have:=hk3.size;omega
     ·exact Mu (Al hTr hb) hn2 hk3
     ·have:=hb.size;have:=hk3.size;omega
    case measure=>simp only[Rd];rw[Mg];omega
   ·gi_wp2
    refine bodyPost_ret (results_none rfl _ _ _) rfl ?_
    exact⟨⟨_,rfl⟩, .inr ⟨pre++ [⟨(k,c.1),c.2⟩],⟨pts (k+wid c.1) rest,by rw[Aa HX];simp[pts]⟩,hJx3⟩⟩

theorem walk_any (s:ByteArray) (w:World):
  Calls Tryz.prog 80 #[.string s] w fun e w'=>e= .returned (.func (.func 98) #[] #[.pointer (some ⟨w.heap.size,0,none⟩)])/\w'=w.alloc (.cells #[.string s] 9):=by
 go_enter Tryz.func80,Tryz.ntmps80
 go_wp2
 go_ret
 exact⟨rfl,rfl⟩

theorem Zb5 (n:Nat) (hn:1<=n) (Bn n₀:Nat) (s:ByteArray) (cs:List CP) (hs:Dj s=bytes cs) (hsz:s.size<=4611686018427387904) (w:World) (hBn:Bn<w.heap.size) (hn2:3<=n₀) (hn₀:n₀<=w.heap.size)
  (hc:w.cell? ⟨Bn,0,none⟩=some (.string s)) (hT:Lib.Utf8Tabs 1 2 w):
  SeqStopsK Fence.wide n Tryz.prog 98 #[.pointer (some ⟨Bn,0,none⟩)] encs (Below n₀) (fun ys=>ys=pts 0 cs) (fun pre=>pre<+:pts 0 cs) (pts 0 cs).length w:=fun l J Jx W hW hAb _ hY h0=>
 walk1_in n hn l Bn n₀ s cs hs hsz J Jx hn2 W hAb hY ((hW.cell (p:=⟨Bn,0,none⟩) hBn).trans hc) (Al hT hW) h0 (Nat.le_trans hn₀ hW.size)
end
section
open Go.RowKit Go.Shelf
attribute [local go_sem] Oper.semAt_some
theorem info38:(Tryz.prog.info? 103).map (fun i=>(i.zero,i.size,i.bytes))=some (some (.int .u16 0),1,2):=by kernel_rfl

theorem Rq (c:Nat) (hc:c<=1114111) (w:World):Calls Tryz.prog 81 #[.int .i32 (c:Nat)] w fun e w'=>e= .returned (.int .u16 (Oe c:Nat))/\w'=w:=by
 refine(Zd7 (c:Int) (by omega) (by omega) w).mono ?_
 rintro e w' ⟨rfl,rfl⟩
 refine⟨Ll ?_,rfl⟩
 unfold Oe
 by_cases h:65536<=c
 ·rw[if_pos (by omega),if_pos h];omega
 ·rw[if_neg (by omega),if_neg h]
theorem Oq (c:Nat) (h0:65536<=c) (hc:c<=1114111) (w:World):Calls Tryz.prog 83 #[.int .i32 (c:Nat)] w fun e w'=>e= .returned (.int .u16 (Ui c:Nat))/\w'=w:=by
 refine(Zcg (c:Int) (by omega) (by omega) w).mono ?_
 rintro e w' ⟨rfl,rfl⟩
 refine⟨Ll ?_,rfl⟩
 unfold Ui;omega
theorem ZaX (s:ByteArray) (cs:List CP) (hs:Dj s=bytes cs) (hsz:s.size<=1099511627776) (w:World) (hT:Lib.Utf8Tabs 1 2 w):
  Calls Tryz.prog 55 #[.string s] w fun e W'=> ∃v,e= .returned v/\W'.ownsRow w.heap.size 103 1 v (Ve (cs.map (·.1))).length ((Ve (cs.map (·.1))).map Rb)/\Below w.heap.size w W':=by
 refine(callsIn_wide (n:=5)).1 ?_
 obtain⟨i0,hi,hz0,hz1,hz2⟩:=info_parts info38
 refine callsIn_of_wp_marks Tryz.func55 rfl trivial ?_ rfl
 simp only[Tryz.ntmps55,List.size_toArray,List.length_cons,List.length_nil,Nat.reduceAdd,Nat.reduceSub,Array.replicate_succ,Array.replicate_zero,List.push_toArray,List.append_toArray,List.nil_append,List.cons_append]
 obtain⟨wm,hmake,hrow0,hgrow0⟩:=run_make_own (P:=Tryz.prog) w w.heap.size 102 103 i0 _ 1 Tryz.underlying102 hi hz0 hz1 .i64 .i64 s.size (by rw[hz2];omega) (by unfold maxLen;omega) (Nat.le_refl _)
 have HS:=Ab hs;clear hs
 gi_wp2_with fail
 refine⟨trivial,(callsIn_wide.2 (walk_any s _)).mono ?_⟩
 rintro e w' ⟨rfl,rfl⟩
 gi_wp2_with fail
 have hcs:cs.length<=s.size:=by rw[←Ek,Aa HS];exact Zag cs
 have hpl:=ZcU 0 cs
 have h2w:=Rc hT
 have bO:=Boxed.new wm 102 (.slice (some ⟨w.heap.size,0,none⟩) 0 s.size)
 have bN:=Boxed.new (wm.alloc (.cells #[.slice (some ⟨w.heap.size,0,none⟩) 0 s.size] 102)) 9 (.string s)
 rw[World.size_alloc] at bN
 have hBm:Below w.heap.size w wm:=⟨hgrow0.os,hgrow0.tape,hgrow0.output,hgrow0.size,fun k hk=>hgrow0.block k hk (by simp)⟩
 have hszm:=hBm.size
 have hB0:Below w.heap.size w ((wm.alloc (.cells #[.slice (some ⟨w.heap.size,0,none⟩) 0 s.size] 102)).alloc (.cells #[.string s] 9)):=(hBm.alloc hszm _).alloc (by simp;omega) _
 refine wpIn_rangeFunc_ownG rfl (by omega) (gf:=98) (lb:= #[.pointer (some ⟨wm.heap.size+1,0,none⟩)]) rfl trivial (enters_of Tryz.func98 (by kernel_rfl) rfl)
  (Zb5 4 (by omega) (wm.heap.size+1) w.heap.size s cs (Aa HS) (by omega) _ (by simp) h2w (by simp;omega) bN.cell (Al hT hB0)) belowK_t (belowK_b (by simp;omega)) (Below.refl _ _) (fun _=>rfl)
  (fun pre W=>(∃v,Boxed W wm.heap.size 102 v/\W.ownsRow w.heap.size 103 1 v (uN pre).length ((uN pre).map Rb)/\(∃g m cap,v= .slice (some ⟨g,0,none⟩) m cap))/\Below w.heap.size w W)
  (fun _ _ _=>False)
  (OwnFrom.and (Own.from (holdsRow_own w.heap.size wm.heap.size 102 103 1 (fun pre=>(uN pre).length) (fun pre=>(uN pre).map Rb) (fun pre v=> ∃g m cap,v= .slice (some ⟨g,0,none⟩) m cap)) _) (ownFrom_below (Nat.le_refl _) (by simp;omega)))
  (fun _ _ _ _ _ hs _ _=>hs)
  ⟨⟨_,bO.alloc _,(hrow0.alloc _).alloc _,⟨_,_,_,rfl⟩⟩,hB0⟩
  (fun x=>{tmps:= #[.string s,undef, .slice none 0 0, .pointer (some ⟨wm.heap.size,0,none⟩),undef, .int .i32 (x.1.2:Nat), .string s, .int .i64 s.size, .slice (some ⟨w.heap.size,0,none⟩) 0 s.size, .string s, .func (.func 98) #[] #[.pointer (some ⟨wm.heap.size+1,0,none⟩)], .int .i64 (x.1.1:Nat), .int .i32 (x.1.2:Nat),undef,undef,undef,undef,undef,undef,undef,undef,undef,undef,undef,undef,undef,undef],defers:= []}) ?assign ?body ?done ?stop
 case assign=>
  intro l x W K hK
  simp only[encs]
  gi_wp2
  exact hK
 case body=>
  rintro l pre x W ⟨⟨v,hv,hrow,g,m,cap,rfl⟩,hB⟩ hlt
  have hc:=hv.cell
  have hf:=hv.frozen
  have hul:=uN_len pre
  have hcA: ∀o,(W.alloc o).cell? ⟨wm.heap.size,0,none⟩=some (.slice (some ⟨g,0,none⟩) m cap):=fun o=>(hv.alloc o).cell
  have hx0:(0:Int)<=(x.1.2:Int):=by omega
  have hx1:(x.1.2:Int)<=1114111:=by have:=x.2;omega
  gi_wp2_with fail
  have hmix:Tryz.prog.follows .mixedOrders=true:=by kernel_rfl
  refine wpIn_mono (Q:=fun e a' W'=>e= .normal/\ ∃g' cap' tb,Boxed W' wm.heap.size 102 (.slice (some ⟨g',0,none⟩) ((uN pre).length+1) cap')/\W'.ownsRow w.heap.size 103 1 (.slice (some ⟨g',0,none⟩) ((uN pre).length+1) cap') ((uN pre).length+1) ((uN pre).map Rb++ [.int .u16 (Oe x.1.2:Nat)])/\KeepsOthers W W'/\Below w.heap.size W W'/\
   a'={tmps:= #[.string s,undef, .slice none 0 0, .pointer (some ⟨wm.heap.size,0,none⟩),undef, .int .i32 (x.1.2:Nat), .string s, .int .i64 s.size, .slice (some ⟨w.heap.size,0,none⟩) 0 s.size, .string s, .func (.func 98) #[] #[.pointer (some ⟨wm.heap.size+1,0,none⟩)], .int .i64 (x.1.1:Nat), .int .i32 (x.1.2:Nat), .slice (some ⟨g,0,none⟩) m cap, .int .i32 (x.1.2:Nat), .int .u16 (Oe x.1.2:Nat),tb, .slice (some ⟨g',0,none⟩) ((uN pre).length+1) cap',undef,undef,undef,undef,undef,undef,undef,undef,undef],defers:= []}) ?cut ?rest
  case cut=>
   refine wpIn_region_any hmix ?_
   change wpAnyIn _ _ _ _ _ _ _ _ _ (World.drew _)
   refine wpAnyIn_ready (rs:= [0,1]) (by kernel_rfl) (by simp) ?_
   refine AllReadyIn.cons rfl (fun K hK=> ?_) ?_
   ·go_simp
    refine hK _ _ ?_
    clear hK K
    refine wpAnyIn_ready (rs:= [1]) (by kernel_rfl) (by simp) ?_
    refine AllReadyIn.cons rfl (fun K hK=> ?_) ?_
    ·go_simp
     refine hK _ _ ?_
     clear hK K
     refine wpAnyIn_ready (rs:= [2]) (by kernel_rfl) (by simp) ?_
     refine AllReadyIn.cons rfl (fun K hK=> ?_) ?_
     ·go_simp
      gi_wp2_with (refine⟨trivial, ?_⟩;gi_at_call 81;refine(CallsIn.inRound l (callsIn_wide.2 (Rq _ x.2 _))).mono ?_;rintro e w' ⟨rfl,rfl⟩)
      refine wpAnyIn_ready (rs:= [3]) (by kernel_rfl) (by simp) ?_
      refine AllReadyIn.cons rfl (fun K hK=> ?_) ?_
      ·go_simp
       refine hK _ _ ?_
       clear hK K
       refine wpAnyIn_ready (rs:= [4]) (by kernel_rfl) (by simp) ?_
       refine AllReadyIn.cons rfl (fun K hK=> ?_) ?_
       ·refine Ei _ rfl _ _ 102 rfl w.heap.size 103 i0 (.int .u16 0) 1 2 Tryz.underlying102 hi hz0 hz1 hz2 rfl (by decide) _ _ _ rfl (hrow.alloc _) ⟨W.heap.size,0,none⟩ 1 1 [.int .u16 (Oe x.1.2:Nat)] rfl rfl (cell_one_new _ _ _) (by simp[Value.oneCell']) (by unfold maxLen;omega) (by omega) (by have:=hB.size;simp;omega) ?_
        intro v' w1 hown' hgrow _
        obtain⟨g',cap',rfl⟩:=ownsRow_succ hown'
        obtain⟨hv1,hv2,hr2,hk2,hb2⟩:=hv.appended (tmp:= .cells #[.int .u16 (Oe x.1.2:Nat)] 103) (by decide) hrow hB.size hszm hown' ⟨hgrow.os,hgrow.tape,hgrow.output,hgrow.size,hgrow.block⟩
        have hc1:=hv1.cell
        have hf1:=hv1.frozen
        refine hK _ _ ?_
        clear hK K
        refine wpAnyIn_ready (rs:= [5]) (by kernel_rfl) (by simp) ?_
        refine AllReadyIn.cons rfl (fun K hK=> ?_) ?_
        ·go_simp
         refine hK _ _ ?_
         clear hK K
         refine wpAnyIn_done (by kernel_rfl) ?_ _
         exact⟨rfl,_,_,_,hv2,hr2,hk2,hb2,rfl⟩
        exact AllReadyIn.nil
       exact AllReadyIn.nil
      exact AllReadyIn.nil
     exact AllReadyIn.nil
    exact AllReadyIn.nil
   refine AllReadyIn.cons rfl (fun K hK=> ?_) ?_
   ·go_simp
    refine hK _ _ ?_
    clear hK K
    refine wpAnyIn_ready (rs:= [0,2]) (by kernel_rfl) (by simp) ?_
    refine AllReadyIn.cons rfl (fun K hK=> ?_) ?_
    ·go_simp
     refine hK _ _ ?_
     clear hK K
     refine wpAnyIn_ready (rs:= [2]) (by kernel_rfl) (by simp) ?_
     refine AllReadyIn.cons rfl (fun K hK=> ?_) ?_
     ·go_simp
      gi_wp2_with (refine⟨trivial, ?_⟩;gi_at_call 81;refine(CallsIn.inRound l (callsIn_wide.2 (Rq _ x.2 _))).mono ?_;rintro e w' ⟨rfl,rfl⟩)
      refine wpAnyIn_ready (rs:= [3]) (by kernel_rfl) (by simp) ?_
      refine AllReadyIn.cons rfl (fun K hK=> ?_) ?_
      ·go_simp
       refine hK _ _ ?_
       clear hK K
       refine wpAnyIn_ready (rs:= [4]) (by kernel_rfl) (by simp) ?_
       refine AllReadyIn.cons rfl (fun K hK=> ?_) ?_
       ·refine Ei _ rfl _ _ 102 rfl w.heap.size 103 i0 (.int .u16 0) 1 2 Tryz.underlying102 hi hz0 hz1 hz2 rfl (by decide) _ _ _ rfl (hrow.alloc _) ⟨W.heap.size,0,none⟩ 1 1 [.int .u16 (Oe x.1.2:Nat)] rfl rfl (cell_one_new _ _ _) (by simp[Value.oneCell']) (by unfold maxLen;omega) (by omega) (by have:=hB.size;simp;omega) ?_
        intro v' w1 hown' hgrow _
        obtain⟨g',cap',rfl⟩:=ownsRow_succ hown'
        obtain⟨hv1,hv2,hr2,hk2,hb2⟩:=hv.appended (tmp:= .cells #[.int .u16 (Oe x.1.2:Nat)] 103) (by decide) hrow hB.size hszm hown' ⟨hgrow.os,hgrow.tape,hgrow.output,hgrow.size,hgrow.block⟩
        have hc1:=hv1.cell
        have hf1:=hv1.frozen
        refine hK _ _ ?_
        clear hK K
        refine wpAnyIn_ready (rs:= [5]) (by kernel_rfl) (by simp) ?_
        refine AllReadyIn.cons rfl (fun K hK=> ?_) ?_
        ·go_simp
         refine hK _ _ ?_
         clear hK K
         refine wpAnyIn_done (by kernel_rfl) ?_ _
         exact⟨rfl,_,_,_,hv2,hr2,hk2,hb2,rfl⟩
        exact AllReadyIn.nil
       exact AllReadyIn.nil
      exact AllReadyIn.nil
     exact AllReadyIn.nil
    refine AllReadyIn.cons rfl (fun K hK=> ?_) ?_
    ·go_simp
     gi_wp2_with (refine⟨trivial, ?_⟩;gi_at_call 81;refine(CallsIn.inRound l (callsIn_wide.2 (Rq _ x.2 _))).mono ?_;rintro e w' ⟨rfl,rfl⟩)
     refine wpAnyIn_ready (rs:= [0,3]) (by kernel_rfl) (by simp) ?_
     refine AllReadyIn.cons rfl (fun K hK=> ?_) ?_
     ·go_simp
      refine hK _ _ ?_
      clear hK K
      refine wpAnyIn_ready (rs:= [3]) (by kernel_rfl) (by simp) ?_
      refine AllReadyIn.cons rfl (fun K hK=> ?_) ?_
      ·go_simp
       refine hK _ _ ?_
       clear hK K
       refine wpAnyIn_ready (rs:= [4]) (by kernel_rfl) (by simp) ?_
       refine AllReadyIn.cons rfl (fun K hK=> ?_) ?_
       ·refine Ei _ rfl _ _ 102 rfl w.heap.size 103 i0 (.int .u16 0) 1 2 Tryz.underlying102 hi hz0 hz1 hz2 rfl (by decide) _ _ _ rfl (hrow.alloc _) ⟨W.heap.size,0,none⟩ 1 1 [.int .u16 (Oe x.1.2:Nat)] rfl rfl (cell_one_new _ _ _) (by simp[Value.oneCell']) (by unfold maxLen;omega) (by omega) (by have:=hB.size;simp;omega) ?_
        intro v' w1 hown' hgrow _
        obtain⟨g',cap',rfl⟩:=ownsRow_succ hown'
        obtain⟨hv1,hv2,hr2,hk2,hb2⟩:=hv.appended (tmp:= .cells #[.int .u16 (Oe x.1.2:Nat)] 103) (by decide) hrow hB.size hszm hown' ⟨hgrow.os,hgrow.tape,hgrow.output,hgrow.size,hgrow.block⟩
        have hc1:=hv1.cell
        have hf1:=hv1.frozen
        refine hK _ _ ?_
        clear hK K
        refine wpAnyIn_ready (rs:= [5]) (by kernel_rfl) (by simp) ?_
        refine AllReadyIn.cons rfl (fun K hK=> ?_) ?_
        ·go_simp
         refine hK _ _ ?_
         clear hK K
         refine wpAnyIn_done (by kernel_rfl) ?_ _
         exact⟨rfl,_,_,_,hv2,hr2,hk2,hb2,rfl⟩
        exact AllReadyIn.nil
       exact AllReadyIn.nil
      exact AllReadyIn.nil
     refine AllReadyIn.cons rfl (fun K hK=> ?_) ?_
     ·go_simp
      refine hK _ _ ?_
      clear hK K
      refine wpAnyIn_ready (rs:= [0]) (by kernel_rfl) (by simp) ?_
      refine AllReadyIn.cons rfl (fun K hK=> ?_) ?_
      ·go_simp
       refine hK _ _ ?_
       clear hK K
       refine wpAnyIn_ready (rs:= [4]) (by kernel_rfl) (by simp) ?_
       refine AllReadyIn.cons rfl (fun K hK=> ?_) ?_
       ·refine Ei _ rfl _ _ 102 rfl w.heap.size 103 i0 (.int .u16 0) 1 2 Tryz.underlying102 hi hz0 hz1 hz2 rfl (by decide) _ _ _ rfl (hrow.alloc _) ⟨W.heap.size,0,none⟩ 1 1 [.int .u16 (Oe x.1.2:Nat)] rfl rfl (cell_one_new _ _ _) (by simp[Value.oneCell']) (by unfold maxLen;omega) (by omega) (by have:=hB.size;simp;omega) ?_
        intro v' w1 hown' hgrow _
        obtain⟨g',cap',rfl⟩:=ownsRow_succ hown'
        obtain⟨hv1,hv2,hr2,hk2,hb2⟩:=hv.appended (tmp:= .cells #[.int .u16 (Oe x.1.2:Nat)] 103) (by decide) hrow hB.size hszm hown' ⟨hgrow.os,hgrow.tape,hgrow.output,hgrow.size,hgrow.block⟩
        have hc1:=hv1.cell
        have hf1:=hv1.frozen
        refine hK _ _ ?_
        clear hK K
        refine wpAnyIn_ready (rs:= [5]) (by kernel_rfl) (by simp) ?_
        refine AllReadyIn.cons rfl (fun K hK=> ?_) ?_
        ·go_simp
         refine hK _ _ ?_
         clear hK K
         refine wpAnyIn_done (by kernel_rfl) ?_ _
         exact⟨rfl,_,_,_,hv2,hr2,hk2,hb2,rfl⟩
        exact AllReadyIn.nil
       exact AllReadyIn.nil
      exact AllReadyIn.nil
     exact AllReadyIn.nil
    exact AllReadyIn.nil
   exact AllReadyIn.nil
  case rest=>
   rintro e a' W2 ⟨rfl,g2,cap2,tb,hv0,hr,hk,hb,rfl⟩
   clear hc hf hcA
   have hc:=hv0.cell
   have hf:=hv0.frozen
   have hcA: ∀o,(W2.alloc o).cell? ⟨wm.heap.size,0,none⟩=some (.slice (some ⟨g2,0,none⟩) ((uN pre).length+1) cap2):=fun o=>(hv0.alloc o).cell
   have hB2:Below w.heap.size w W2:=hB.trans hb
   by_cases hbig:65536<=x.1.2
   ·have hw2:wid x.1.2=2:=by unfold wid;rw[if_pos hbig]
    gi_wp2_with (refine⟨trivial, ?_⟩;gi_at_call 82;refine(CallsIn.inRound l (callsIn_wide.2 (Qy _ _))).mono ?_;rintro e w' ⟨rfl,rfl⟩)
    refine wpIn_region_any hmix ?_
    change wpAnyIn _ _ _ _ _ _ _ _ _ (World.drew _)
    refine wpAnyIn_ready (rs:= [0,1]) (by kernel_rfl) (by simp) ?_
    refine AllReadyIn.cons rfl (fun K hK=> ?_) ?_
    ·go_simp
     refine hK _ _ ?_
     clear hK K
     refine wpAnyIn_ready (rs:= [1]) (by kernel_rfl) (by simp) ?_
     refine AllReadyIn.cons rfl (fun K hK=> ?_) ?_
     ·go_simp
      refine hK _ _ ?_
      clear hK K
      refine wpAnyIn_ready (rs:= [2]) (by kernel_rfl) (by simp) ?_
      refine AllReadyIn.cons rfl (fun K hK=> ?_) ?_
      ·go_simp
       gi_wp2_with (refine⟨trivial, ?_⟩;gi_at_call 83;refine(CallsIn.inRound l (callsIn_wide.2 (Oq _ hbig x.2 _))).mono ?_;rintro e w' ⟨rfl,rfl⟩)
       refine wpAnyIn_ready (rs:= [3]) (by kernel_rfl) (by simp) ?_
       refine AllReadyIn.cons rfl (fun K hK=> ?_) ?_
       ·go_simp
        refine hK _ _ ?_
        clear hK K
        refine wpAnyIn_ready (rs:= [4]) (by kernel_rfl) (by simp) ?_
        refine AllReadyIn.cons rfl (fun K hK=> ?_) ?_
        ·refine Ei _ rfl _ _ 102 rfl w.heap.size 103 i0 (.int .u16 0) 1 2 Tryz.underlying102 hi hz0 hz1 hz2 rfl (by decide) _ _ _ rfl (hr.alloc _) ⟨w'.heap.size,0,none⟩ 1 1 [.int .u16 (Ui x.1.2:Nat)] rfl rfl (cell_one_new _ _ _) (by simp[Value.oneCell']) (by unfold maxLen;omega) (by omega) (by have:=hB2.size;simp;omega) ?_
         intro v' w1 hown' hgrow _
         obtain⟨g',cap',rfl⟩:=ownsRow_succ hown'
         obtain⟨hv1,hv2,hr2,hk2,hb2⟩:=hv0.appended (tmp:= .cells #[.int .u16 (Ui x.1.2:Nat)] 103) (by decide) hr hB2.size hszm hown' ⟨hgrow.os,hgrow.tape,hgrow.output,hgrow.size,hgrow.block⟩
         have hc1:=hv1.cell
         have hf1:=hv1.frozen
         refine hK _ _ ?_
         clear hK K
         refine wpAnyIn_ready (rs:= [5]) (by kernel_rfl) (by simp) ?_
         refine AllReadyIn.cons rfl (fun K hK=> ?_) ?_
         ·go_simp
          refine hK _ _ ?_
          clear hK K
          refine wpAnyIn_done (by kernel_rfl) ?_ _
          gi_wp2
          refine⟨(hk.trans hk2).from _,hb.trans hb2,⟨⟨_,hv2, ?_,⟨_,_,_,rfl⟩⟩,hB2.trans hb2⟩⟩
          rw[Pm,Zdp hbig]
          simpa [Rb] using hr2
         exact AllReadyIn.nil
        exact AllReadyIn.nil
       exact AllReadyIn.nil
      exact AllReadyIn.nil
     exact AllReadyIn.nil
    refine AllReadyIn.cons rfl (fun K hK=> ?_) ?_
    ·go_simp
     refine hK _ _ ?_
     clear hK K
     refine wpAnyIn_ready (rs:= [0,2]) (by kernel_rfl) (by simp) ?_
     refine AllReadyIn.cons rfl (fun K hK=> ?_) ?_
     ·go_simp
      refine hK _ _ ?_
      clear hK K
      refine wpAnyIn_ready (rs:= [2]) (by kernel_rfl) (by simp) ?_
      refine AllReadyIn.cons rfl (fun K hK=> ?_) ?_
      ·go_simp
       gi_wp2_with (refine⟨trivial, ?_⟩;gi_at_call 83;refine(CallsIn.inRound l (callsIn_wide.2 (Oq _ hbig x.2 _))).mono ?_;rintro e w' ⟨rfl,rfl⟩)
       refine wpAnyIn_ready (rs:= [3]) (by kernel_rfl) (by simp) ?_
       refine AllReadyIn.cons rfl (fun K hK=> ?_) ?_
       ·go_simp
        refine hK _ _ ?_
        clear hK K
        refine wpAnyIn_ready (rs:= [4]) (by kernel_rfl) (by simp) ?_
        refine AllReadyIn.cons rfl (fun K hK=> ?_) ?_
        ·refine Ei _ rfl _ _ 102 rfl w.heap.size 103 i0 (.int .u16 0) 1 2 Tryz.underlying102 hi hz0 hz1 hz2 rfl (by decide) _ _ _ rfl (hr.alloc _) ⟨w'.heap.size,0,none⟩ 1 1 [.int .u16 (Ui x.1.2:Nat)] rfl rfl (cell_one_new _ _ _) (by simp[Value.oneCell']) (by unfold maxLen;omega) (by omega) (by have:=hB2.size;simp;omega) ?_
         intro v' w1 hown' hgrow _
         obtain⟨g',cap',rfl⟩:=ownsRow_succ hown'
         obtain⟨hv1,hv2,hr2,hk2,hb2⟩:=hv0.appended (tmp:= .cells #[.int .u16 (Ui x.1.2:Nat)] 103) (by decide) hr hB2.size hszm hown' ⟨hgrow.os,hgrow.tape,hgrow.output,hgrow.size,hgrow.block⟩
         have hc1:=hv1.cell
         have hf1:=hv1.frozen
         refine hK _ _ ?_
         clear hK K
         refine wpAnyIn_ready (rs:= [5]) (by kernel_rfl) (by simp) ?_
         refine AllReadyIn.cons rfl (fun K hK=> ?_) ?_
         ·go_simp
          refine hK _ _ ?_
          clear hK K
          refine wpAnyIn_done (by kernel_rfl) ?_ _
          gi_wp2
          refine⟨(hk.trans hk2).from _,hb.trans hb2,⟨⟨_,hv2, ?_,⟨_,_,_,rfl⟩⟩,hB2.trans hb2⟩⟩
          rw[Pm,Zdp hbig]
          simpa [Rb] using hr2
         exact AllReadyIn.nil
        exact AllReadyIn.nil
       exact AllReadyIn.nil
      exact AllReadyIn.nil
     refine AllReadyIn.cons rfl (fun K hK=> ?_) ?_
     ·go_simp
      gi_wp2_with (refine⟨trivial, ?_⟩;gi_at_call 83;refine(CallsIn.inRound l (callsIn_wide.2 (Oq _ hbig x.2 _))).mono ?_;rintro e w' ⟨rfl,rfl⟩)
      refine wpAnyIn_ready (rs:= [0,3]) (by kernel_rfl) (by simp) ?_
      refine AllReadyIn.cons rfl (fun K hK=> ?_) ?_
      ·go_simp
       refine hK _ _ ?_
       clear hK K
       refine wpAnyIn_ready (rs:= [3]) (by kernel_rfl) (by simp) ?_
       refine AllReadyIn.cons rfl (fun K hK=> ?_) ?_
       ·go_simp
        refine hK _ _ ?_
        clear hK K
        refine wpAnyIn_ready (rs:= [4]) (by kernel_rfl) (by simp) ?_
        refine AllReadyIn.cons rfl (fun K hK=> ?_) ?_
        ·refine Ei _ rfl _ _ 102 rfl w.heap.size 103 i0 (.int .u16 0) 1 2 Tryz.underlying102 hi hz0 hz1 hz2 rfl (by decide) _ _ _ rfl (hr.alloc _) ⟨w'.heap.size,0,none⟩ 1 1 [.int .u16 (Ui x.1.2:Nat)] rfl rfl (cell_one_new _ _ _) (by simp[Value.oneCell']) (by unfold maxLen;omega) (by omega) (by have:=hB2.size;simp;omega) ?_
         intro v' w1 hown' hgrow _
         obtain⟨g',cap',rfl⟩:=ownsRow_succ hown'
         obtain⟨hv1,hv2,hr2,hk2,hb2⟩:=hv0.appended (tmp:= .cells #[.int .u16 (Ui x.1.2:Nat)] 103) (by decide) hr hB2.size hszm hown' ⟨hgrow.os,hgrow.tape,hgrow.output,hgrow.size,hgrow.block⟩
         have hc1:=hv1.cell
         have hf1:=hv1.frozen
         refine hK _ _ ?_
         clear hK K
         refine wpAnyIn_ready (rs:= [5]) (by kernel_rfl) (by simp) ?_
         refine AllReadyIn.cons rfl (fun K hK=> ?_) ?_
         ·go_simp
          refine hK _ _ ?_
          clear hK K
          refine wpAnyIn_done (by kernel_rfl) ?_ _
          gi_wp2
          refine⟨(hk.trans hk2).from _,hb.trans hb2,⟨⟨_,hv2, ?_,⟨_,_,_,rfl⟩⟩,hB2.trans hb2⟩⟩
          rw[Pm,Zdp hbig]
          simpa [Rb] using hr2
         exact AllReadyIn.nil
        exact AllReadyIn.nil
       exact AllReadyIn.nil
      refine AllReadyIn.cons rfl (fun K hK=> ?_) ?_
      ·go_simp
       refine hK _ _ ?_
       clear hK K
       refine wpAnyIn_ready (rs:= [0]) (by kernel_rfl) (by simp) ?_
       refine AllReadyIn.cons rfl (fun K hK=> ?_) ?_
       ·go_simp
        refine hK _ _ ?_
        clear hK K
        refine wpAnyIn_ready (rs:= [4]) (by kernel_rfl) (by simp) ?_
        refine AllReadyIn.cons rfl (fun K hK=> ?_) ?_
        ·refine Ei _ rfl _ _ 102 rfl w.heap.size 103 i0 (.int .u16 0) 1 2 Tryz.underlying102 hi hz0 hz1 hz2 rfl (by decide) _ _ _ rfl (hr.alloc _) ⟨w'.heap.size,0,none⟩ 1 1 [.int .u16 (Ui x.1.2:Nat)] rfl rfl (cell_one_new _ _ _) (by simp[Value.oneCell']) (by unfold maxLen;omega) (by omega) (by have:=hB2.size;simp;omega) ?_
         intro v' w1 hown' hgrow _
         obtain⟨g',cap',rfl⟩:=ownsRow_succ hown'
         obtain⟨hv1,hv2,hr2,hk2,hb2⟩:=hv0.appended (tmp:= .cells #[.int .u16 (Ui x.1.2:Nat)] 103) (by decide) hr hB2.size hszm hown' ⟨hgrow.os,hgrow.tape,hgrow.output,hgrow.size,hgrow.block⟩
         have hc1:=hv1.cell
         have hf1:=hv1.frozen
         refine hK _ _ ?_
         clear hK K
         refine wpAnyIn_ready (rs:= [5]) (by kernel_rfl) (by simp) ?_
         refine AllReadyIn.cons rfl (fun K hK=> ?_) ?_
         ·go_simp
          refine hK _ _ ?_
          clear hK K
          refine wpAnyIn_done (by kernel_rfl) ?_ _
          gi_wp2
          refine⟨(hk.trans hk2).from _,hb.trans hb2,⟨⟨_,hv2, ?_,⟨_,_,_,rfl⟩⟩,hB2.trans hb2⟩⟩
          rw[Pm,Zdp hbig]
          simpa [Rb] using hr2
         exact AllReadyIn.nil
        exact AllReadyIn.nil
       exact AllReadyIn.nil
      exact AllReadyIn.nil
     exact AllReadyIn.nil
    exact AllReadyIn.nil
   ·have hw1:wid x.1.2=1:=by unfold wid;rw[if_neg hbig]
    gi_wp2_with (refine⟨trivial, ?_⟩;gi_at_call 82;refine(CallsIn.inRound l (callsIn_wide.2 (Qy _ _))).mono ?_;rintro e w' ⟨rfl,rfl⟩)
    refine⟨hk.from _,hb,⟨⟨_,hv0, ?_,⟨_,_,_,rfl⟩⟩,hB2⟩⟩
    rw[Pm,U_one hbig]
    simpa [Rb] using hr
 case done=>
  rintro D ys W hD rfl ⟨⟨v,hv,hrow,g,m,cap,rfl⟩,hB⟩ hK
  have hc:=hv.cell
  gi_wp2
  refine⟨by simp, .inl ⟨_,_,rfl,run_takeDeferred hK, ?_⟩⟩
  refine⟨_,results_tmp rfl _ _ _,_,rfl, ?_,hB.trans (belowK_b (w:=w) (Nat.le_refl _) W D _ _ (by simp at hD;omega) hK rfl rfl)⟩
  rw[←uN_pts 0 cs]
  exact ownsRow_putObj hrow _ hK rfl
 case stop=>
  rintro D c pre W _ _ h _
  exact h.elim
end
section
open Go.RowKit Go.Shelf
open Go.RowKit Go.Shelf
theorem cmp_any (a b:Nat) (w:World):Calls Tryz.prog 79 #[.int .u16 (a:Nat), .int .u16 (b:Nat)] w fun e w'=>e= .returned (.int .i64 (if a<b then -1 else if b<a then 1 else 0))/\w'=w:=by
 by_cases h1:a<b
 ·have h1':(a:Int)<(b:Int):=by omega
  rw[if_pos h1]
  clear h1
  go_enter Tryz.func79,Tryz.ntmps79
  go_wp2
  go_ret
  exact⟨rfl,rfl⟩
 ·by_cases h2:b<a
  ·have h1': ¬(a:Int)<(b:Int):=by omega
   have h2':(b:Int)<(a:Int):=by omega
   rw[if_neg h1,if_pos h2]
   clear h1 h2
   go_enter Tryz.func79,Tryz.ntmps79
   go_wp2
   go_ret
   exact⟨rfl,rfl⟩
  ·have h1': ¬(a:Int)<(b:Int):=by omega
   have h2': ¬(b:Int)<(a:Int):=by omega
   rw[if_neg h1,if_neg h2]
   clear h1 h2
   go_enter Tryz.func79,Tryz.ntmps79
   go_wp2
   go_ret
   exact⟨rfl,rfl⟩

theorem scmp_any (va vb:Value) (la lb:List Nat) (hla:la.length<=1099511627776) (hlb:lb.length<=1099511627776) (w:World) (ha:Reads w va la) (hb:Reads w vb lb):
  Calls Tryz.prog 54 #[va,vb] w fun e w'=>e= .returned (.int .i64 (M.cmpL la lb))/\ ∃n,w'=w.drewN n:=by
 obtain⟨A,ca,rfl,hA⟩:=Vm ha
 obtain⟨B,cb,rfl,hB⟩:=Vm hb
 have HA:=Ab hA;have HB:=Ab hB;clear hA hB ha hb
 go_enter Tryz.func54,Tryz.ntmps54
 go_wp2
 go_loopw [11] (fun i wr=> ∃(k n:Nat),i= .int .i64 (k:Nat)/\k<=la.length/\k<=lb.length/\M.cmpL la lb=M.cmpL (la.drop k) (lb.drop k)/\wr=w.drewN n) (fun i _=>la.length - (intOf i).toNat)
 case atStart=>exact⟨0,0,rfl,by omega,by omega,rfl,rfl⟩
 case round=>
  obtain⟨k,n,rfl,hk,hkb,hc,rfl⟩:=hrel
  have HC:=Ab hc;clear hc
  by_cases hlt:k<la.length
  ·have hlt':(k:Int)<(la.length:Int):=by omega
   obtain⟨b,off,rfl,_,hca⟩:=Aa HA k hlt
   have HDA:=Ab (Rw la k hlt)
   generalize la.getD k 0=x at *
   by_cases hlb':k<lb.length
   ·have hlb2: ¬(lb.length:Int)<=(k:Int):=by omega
    obtain⟨b',off',rfl,_,hcb⟩:=Aa HB k hlb'
    have HDB:=Ab (Rw lb k hlb')
    generalize lb.getD k 0=y at *
    have hst:M.cmpL la lb=if x<y then -1 else if y<x then 1 else M.cmpL (la.drop (k+1)) (lb.drop (k+1)):=by
     rw[Aa HC,Aa HDA,Aa HDB];rfl
    have HST:=Ab hst;clear hst
    go_wp2_with fail
    refine(cmp_any x y _).mono ?_
    rintro e w' ⟨rfl,rfl⟩
    by_cases c1:x<y
    ·rw[if_pos c1]
     go_wp2
     go_ret
     exact⟨Ll (by rw[Aa HST,if_pos c1]),n,rfl⟩
    ·by_cases c2:y<x
     ·rw[if_neg c1,if_pos c2]
      go_wp2
      go_ret
      exact⟨Ll (by rw[Aa HST,if_neg c1,if_pos c2]),n,rfl⟩
     ·rw[if_neg c1,if_neg c2]
      go_wp2
      go_roundw
      case rel=>exact⟨k+1,n,by go_num,by omega,by omega,by rw[Aa HST,if_neg c1,if_neg c2],rfl⟩
      case measure=>simp[intOf];omega
   ·have hlb2:(lb.length:Int)<=(k:Int):=by omega
    go_wp2
    go_ret
    exact⟨Ll (by rw[Aa HC,Aa HDA,List.drop_of_length_le (by omega:lb.length<=k)];rfl),n,rfl⟩
  ·have hlt': ¬(k:Int)<(la.length:Int):=by omega
   by_cases hc2:la.length<lb.length
   ·have hc2':(la.length:Int)<(lb.length:Int):=by omega
    have hkl:k<lb.length:=by omega
    go_wp2
    go_ret
    exact⟨Ll (by rw[Aa HC,List.drop_of_length_le (by omega:la.length<=k),Rw lb k hkl];rfl),n,rfl⟩
   ·have hc2': ¬(la.length:Int)<(lb.length:Int):=by omega
    go_wp2
    go_ret
    exact⟨Ll (by rw[Aa HC,List.drop_of_length_le (by omega:la.length<=k),List.drop_of_length_le (by omega:lb.length<=k)];rfl),n,rfl⟩

theorem Zk (s:ByteArray) (hv:vS s=true) (hsz:s.size<=1099511627776) (w:World) (hT:Lib.Utf8Tabs 1 2 w):
  Calls Tryz.prog 55 #[.string s] w fun e W'=> ∃v,e= .returned v/\W'.ownsRow w.heap.size 103 1 v (unS s).length ((unS s).map Rb)/\Below w.heap.size w W':=by
 obtain⟨cs,h1,h2,_⟩:=valid_cs s hv
 rw[h2];exact ZaX s cs h1 hsz w hT

theorem Ug (a b:ByteArray) (hsa:a.size<=1099511627776) (hsb:b.size<=1099511627776) (w:World) (hT:Lib.Utf8Tabs 1 2 w):
  Calls Tryz.prog 24 #[.string a, .string b] w fun e w'=>e= .returned (.tuple #[.int .i64 (cmI a b), .int .i64 (cmE a b)])/\Below w.heap.size w w':=by
 have hva:=Ra a w hT
 have hvb: ∀w',Below w.heap.size w w'->Calls Tryz.prog 53 #[.string b] w' fun e w''=>e= .returned (.bool (M.valid false (Dj b)))/\Below w'.heap.size w' w'':=fun w' h=>Ra b w' (Al hT h)
 have hua:vS a=true-> ∀w',Below w.heap.size w w'->Calls Tryz.prog 55 #[.string a] w' fun e W'=> ∃v,e= .returned v/\W'.ownsRow w'.heap.size 103 1 v (unS a).length ((unS a).map Rb)/\Below w'.heap.size w' W':=fun h w' hb=>Zk a h hsa w' (Al hT hb)
 have hub:vS b=true-> ∀w',Below w.heap.size w w'->Calls Tryz.prog 55 #[.string b] w' fun e W'=> ∃v,e= .returned v/\W'.ownsRow w'.heap.size 103 1 v (unS b).length ((unS b).map Rb)/\Below w'.heap.size w' W':=fun h w' hb=>Zk b h hsb w' (Al hT hb)
 have hla:=ZcP a;have hlb:=ZcP b
 unfold cmI cmE ZdQ
 unfold vS at *
 generalize M.valid false (Dj a)=va at *
 generalize M.valid false (Dj b)=vb at *
 generalize unS a=la at *
 generalize unS b=lb at *
 have HVA:=Ab hva;have HVB:=Ab hvb;clear hva hvb
 cases va with
 |false=>
  clear hua hub
  go_enter Tryz.func24,Tryz.ntmps24
  go_wp2_with fail
  refine(Aa HVA).mono ?_
  rintro e w1 ⟨rfl,hb1⟩
  go_wp2
  go_ret2
  exact⟨rfl,hb1⟩
 |true=>
  have HUA:=Ab (hua rfl)
  cases vb with
  |false=>
   clear hua hub
   go_enter Tryz.func24,Tryz.ntmps24
   go_wp2_with fail
   refine(Aa HVA).mono ?_
   rintro e w1 ⟨rfl,hb1⟩
   go_wp2_with fail
   refine(Aa HVB w1 hb1).mono ?_
   rintro e w2 ⟨rfl,hb2⟩
   go_wp2
   go_ret2
   exact⟨rfl,hb1.trans (hb2.mono hb1.size)⟩
  |true=>
   have HUB:=Ab (hub rfl)
   clear hua hub
   go_enter Tryz.func24,Tryz.ntmps24
   go_wp2_with fail
   refine(Aa HVA).mono ?_
   rintro e w1 ⟨rfl,hb1⟩
   go_wp2_with fail
   refine(Aa HVB w1 hb1).mono ?_
   rintro e w2 ⟨rfl,hb2⟩
   have hB2:=hb1.trans (hb2.mono hb1.size)
   go_wp2_with fail
   refine(Aa HUA w2 hB2).mono ?_
   rintro e w3 ⟨v1,rfl,ho1,hb3⟩
   have hB3:=hB2.trans (hb3.mono hB2.size)
   go_wp2_with fail
   refine(Aa HUB w3 hB3).mono ?_
   rintro e w4 ⟨v2,rfl,ho2,hb4⟩
   have hB4:=hB3.trans (hb4.mono hB3.size)
   go_wp2_with fail
   refine(scmp_any v1 v2 la lb (by omega) (by omega) w4 ((Zp ho1).same hb4) (Zp ho2)).mono ?_
   rintro e w5 ⟨rfl,n,rfl⟩
   go_wp2
   go_ret2
   exact⟨rfl,hB4.trans (Gr _ _ _)⟩

end
def rW {α:Type}:Result α->World
 | .ok _ w=>w
 | .halt _ w=>w
theorem ask_mono {α:Type} (q:Ask α): ∀w:World,w.drawn<=(w.ask q).2.drawn:=by
 induction q with
 |done a=>intro w;simp[World.ask]
 |ask what range k ih=>
  intro w
  unfold World.ask
  dsimp only
  split
  ·exact ih 0 w
  ·have:=ih ((Question.extern what range).cut (w.tape w.drawn (Question.extern what range))) {w with drawn:=w.drawn+1}
   dsimp only at this
   omega
theorem sys_mono (w:World) (c:Sys):w.drawn<=(w.sys c).2.drawn:=by
 have:=ask_mono (Kernel.perform c w.os) w
 unfold World.sys
 split
 ·exact Nat.le_refl _
 ·rename_i h
  rw[h] at this
  exact this
theorem far_mono {p:Program} {w w':World} {a:Addr} {v:Value} {b:Bool} {t:List Addr} (h:w.farStore p a v b= .ok (w',t)):w'.drawn=w.drawn:=by
 unfold World.farStore at h
 split at h
 ·split at h
  ·rename_i r hr
   cases h
   unfold World.viewStore at hr
   simp only[bind,Except.bind,pure,Except.pure,throwThe,MonadExceptOf.throw,MonadExcept.throw] at hr
   repeat' split at hr
   all_goals first|(cases hr;rfl)|cases hr
  ·cases h
 ·cases h
theorem Vk {α:Type} (p:Program) (s:Sem α): ∀w:World,w.drawn<=(rW (s.run p w)).drawn:=by
 induction s with
 |pure a=>intro w;simp[Sem.run,rW]
 |load m a k ih=>
  intro w
  unfold Sem.run
  split
  ·exact ih _ w
  ·split
   ·exact ih _ w
   ·exact Nat.le_refl _
 |store m a v k ih=>
  intro w
  cases v
  all_goals first
   |exact Nat.le_refl _
   |(unfold Sem.run
     split
     ·split
      ·exact Nat.le_refl _
      ·exact ih (w.setCell a _)
     ·split
      ·rename_i h
       rw[←far_mono h]
       exact ih _
      ·exact Nat.le_refl _)
 |new o k ih=>intro w;exact ih _ {w with heap:=w.heap.push o}
 |shape r k ih=>intro w;exact ih _ w
 |freeze a n k ih=>
  intro w
  have e:(w.freeze a n).drawn=w.drawn:=by
   unfold World.freeze
   split<;>rfl
  have:=ih (w.freeze a n)
  rw[e] at this
  exact this
 |frozen a k ih=>intro w;exact ih _ w
 |getObj r k ih=>
  intro w
  unfold Sem.run
  split
  ·exact Nat.le_refl _
  ·exact ih _ w
  ·exact Nat.le_refl _
 |setObj r o k ih=>
  intro w
  unfold Sem.run
  split
  ·exact Nat.le_refl _
  ·exact ih {w with heap:=w.heap.setIfInBounds r o}
  ·exact Nat.le_refl _
 |choose q k ih=>
  intro w
  unfold Sem.run
  split
  ·exact ih _ w
  ·have:=ih (q.cut (w.tape w.drawn q)) {w with drawn:=w.drawn+1}
   dsimp only at this
   omega
 |sys c k ih=>
  intro w
  unfold Sem.run
  exact Nat.le_trans (sys_mono w c) (ih _ _)
 |program k ih=>intro w;exact ih p w
 |mark m k ih=>intro w;exact ih w
 |halt h=>intro w;exact Nat.le_refl _
theorem Kv {α:Type} (p:Program) (s:Sem α): ∀(w:World) (es:Array Event),(s.runT p w es).1=s.run p w:=by
 induction s with
 |pure a=>intro w es;rfl
 |load m a k ih=>
  intro w es
  unfold Sem.runT Sem.run
  split
  ·exact ih _ _ _
  ·split
   ·exact ih _ _ _
   ·rfl
 |store m a v k ih=>
  intro w es
  cases v
  all_goals first
   |rfl
   |(unfold Sem.runT Sem.run
     split
     ·split
      ·rfl
      ·exact ih _ _
     ·split
      ·exact ih _ _
      ·rfl)
 |new o k ih=>intro w es;exact ih _ _ _
 |shape r k ih=>intro w es;exact ih _ _ _
 |freeze a n k ih=>intro w es;exact ih _ _
 |frozen a k ih=>intro w es;exact ih _ _ _
 |getObj r k ih=>
  intro w es
  unfold Sem.runT Sem.run
  split
  ·rfl
  ·exact ih _ _ _
  ·rfl
 |setObj r o k ih=>
  intro w es
  unfold Sem.runT Sem.run
  split
  ·rfl
  ·exact ih _ _
  ·rfl
 |choose q k ih=>
  intro w es
  unfold Sem.runT Sem.run
  split
  ·exact ih _ _ _
  ·exact ih _ _ _
 |sys c k ih=>intro w es;exact ih _ _ _
 |program k ih=>intro w es;exact ih p _ _
 |mark m k ih=>intro w es;exact ih _ _
 |halt h=>intro w es;rfl
theorem Zn {α:Type} (p:Program) (s:Sem α) (w:World) (es:Array Event):w.drawn<=(rW (s.runT p w es).1).drawn:=by
 rw[Kv]
 exact Vk p s w
def gM (d:Nat):GStep->Prop
 | .go _ w _=>d<=w.drawn
 | .comm _ _ _ _ w _=>d<=w.drawn
 | .spawn _ _ w _=>d<=w.drawn
 | .count _ w _=>d<=w.drawn
 | .timer _ _ w _=>d<=w.drawn
 | .alone _ _ w _=>d<=w.drawn
 | .newcoro _ _ _ w _=>d<=w.drawn
 | .coroswitch _ _ _ w _=>d<=w.drawn
 | .collect _ w _=>d<=w.drawn
 | .watch _ w _=>d<=w.drawn
 | .ended _ _ _=>True
theorem Me {d:Nat} {es:Array Event} {s:GStep} (h:gM d s):gM d (s.after es):=by
 cases s<;>exact h
theorem Ej {α:Type} {p:Program} {s:Sem α} {w w':World} {a:α} (h:s.run p w= .ok a w'):w.drawn<=w'.drawn:=by
 have:=Vk p s w
 rw[h] at this
 exact this
theorem Jv {α:Type} {p:Program} {s:Sem α} {w w':World} {a:Halt} (h:s.run p w= .halt a w'):w.drawn<=w'.drawn:=by
 have:=Vk p s w
 rw[h] at this
 exact this
theorem of_okT {α:Type} {p:Program} {s:Sem α} {w w':World} {a:α} {es es':Array Event} (h:s.runT p w es=(.ok a w',es')):w.drawn<=w'.drawn:=by
 have:=Zn p s w es
 rw[h] at this
 exact this
theorem of_haltT {α:Type} {p:Program} {s:Sem α} {w w':World} {a:Halt} {es es':Array Event} (h:s.runT p w es=(.halt a w',es')):w.drawn<=w'.drawn:=by
 have:=Zn p s w es
 rw[h] at this
 exact this
theorem Zcu (d:Nat) (w:World) (fd:Nat) (t:ByteArray) (o:Outcome):gM d (endWith w fd t o):=by
 unfold endWith
 dsimp only
 repeat' split
 all_goals exact trivial
theorem Nf (d:Nat) (fr:Frame) (m:String) (w:World) (h:d<=w.drawn):gM d (endThrow fr m w):=h
theorem Ng (d:Nat) (p:Program) (fr:Frame) (v:Value) (w:World) (h:d<=w.drawn):gM d (endPrinting p fr v w):=by
 unfold endPrinting
 dsimp only
 split
 ·exact h
 ·exact trivial
theorem Ud (d:Nat) (p:Program) (fr:Frame) (cs:List Frame) (dy:Option Dying) (m:String) (w:World) (h:d<=w.drawn):gM d (endFatal p fr cs dy m w):=by
 unfold endFatal
 dsimp only
 split
 ·exact Nat.le_trans h (Ej (by assumption))
 ·exact trivial
 ·exact trivial
theorem Zct (d:Nat) (p:Program) (fr:Frame) (dy:Dying) (f:Fatal) (w:World) (h:d<=w.drawn):gM d (writeOn p fr dy f w):=by
 unfold writeOn
 dsimp only
 split
 ·exact trivial
 ·split
  ·exact Nat.le_trans h (of_okT (by assumption))
  ·exact Nat.le_trans h (of_haltT (by assumption))
  ·exact trivial
  ·exact trivial
theorem gM_die (d:Nat) (p:Program) (fr:Frame) (dy:Dying) (w:World) (h:d<=w.drawn):gM d (die p fr dy w):=by
 unfold die
 split
 ·exact Zct _ _ _ _ _ _ h
 ·dsimp only
  split
  ·split
   ·exact h
   ·exact Zcu _ _ _ _ _
  ·split
   ·exact h
   ·split
    ·exact Nat.le_trans h (Ej (by assumption))
    ·exact trivial
   ·refine Me ?_
    rw[Kv]
    split
    ·exact Nat.le_trans h (Ej (by assumption))
    ·exact Nat.le_trans h (Ej (by assumption))
    ·exact trivial
    ·exact Ng _ _ _ _ _ (Nat.le_trans h (Jv (by assumption)))
    ·exact trivial
   ·exact trivial
theorem gM_early (d:Nat) (p:Program) (fr:Frame) (cs:List Frame) (dy:Option Dying) (g:Nat) (w:World) (h:d<=w.drawn):gM d (early p fr cs dy g w):=by
 unfold early
 dsimp only
 repeat' split
 all_goals first|exact trivial|exact h|exact Nat.le_trans h (Ej (by assumption))|(have hq:=Ej ‹Sem.run p (choose (Question.early g)) w=Result.ok _ _›;exact Nat.le_trans h hq)
theorem Nh (d:Nat) (p:Program) (mn:Bool) (fr:Frame) (cs:List Frame) (dy:Option Dying) (v:Value) (w:World) (h:d<=w.drawn):gM d (doReturn p mn fr cs dy v w):=by
 unfold doReturn
 repeat' split
 all_goals first|exact trivial|exact h
theorem Uo (d:Nat) (p:Program) (fr:Frame) (cs:List Frame) (dy:Option Dying) (f:Deferred) (w:World) (h:d<=w.drawn):gM d (callDeferred p fr cs dy f w):=by
 have key: ∀(b:Bool) (x y:GStep),gM d x->gM d y->gM d (if b=true then x else y):=by
  intro b x y hx hy
  cases b
  ·exact hy
  ·exact hx
 unfold callDeferred
 refine key _ _ _ trivial ?_
 dsimp only
 refine Me ?_
 simp only[Kv]
 split
 all_goals try split
 all_goals first
  |exact trivial
  |exact Nat.le_trans h (Ej (by assumption))
  |exact Nat.le_trans h (Jv (by assumption))
  |exact Ud _ _ _ _ _ _ _ (Nat.le_trans h (Jv (by assumption)))
  |exact Nf _ _ _ _ (Nat.le_trans h (Jv (by assumption)))
theorem Zd2 (d:Nat) (p:Program) (mn:Bool) (fr:Frame) (cs:List Frame) (dy:Option Dying) (w:World) (h:d<=w.drawn):gM d (unwind p mn fr cs dy w):=by
 unfold unwind
 split
 ·dsimp only
  refine Me ?_
  simp only[Kv]
  split
  ·exact Nat.le_trans h (Ej (by assumption))
  ·exact trivial
 ·exact Uo _ _ _ _ _ _ _ h
 ·split
  ·exact trivial
  ·split
   ·exact trivial
   ·split
    ·exact h
    ·split
     ·split
      ·exact h
      ·split
       ·exact Nat.le_trans h (Ej (by assumption))
       ·exact trivial
       ·exact trivial
     ·split
      ·exact Ng _ _ _ _ _ h
      ·exact trivial
  ·split
   ·exact Nh _ _ _ _ _ _ _ _ h
   ·dsimp only
    refine Me ?_
    simp only[Kv]
    split
    ·exact Nh _ _ _ _ _ _ _ _ (Nat.le_trans h (Ej (by assumption)))
    ·exact trivial
    ·exact trivial
theorem Ql (d:Nat) (p:Program) (l:Bool) (fr:Frame) (cs:List Frame) (dy:Option Dying) (s:Sem Next) (w:World) (h:d<=w.drawn):gM d (stepG.apply p l fr cs dy s w):=by
 have e:(if l=true then Sem.runT p s w #[] else (Sem.run p s w, #[])).fst=Sem.run p s w:=by
  split
  ·exact Kv p s w #[]
  ·rfl
 unfold stepG.apply
 dsimp only
 refine Me ?_
 rw[e]
 split
 case h_1=>exact Nat.le_trans h (Ej (by assumption))
 all_goals try split
 all_goals try split
 all_goals first
  |exact trivial
  |exact Nat.le_trans h (Ej (by assumption))
  |exact Nat.le_trans h (Jv (by assumption))
  |exact Ud _ _ _ _ _ _ _ (Nat.le_trans h (Jv (by assumption)))
  |exact Nf _ _ _ _ (Nat.le_trans h (Ej (by assumption)))
  |exact Nf _ _ _ _ (Nat.le_trans h (Jv (by assumption)))
  |exact gM_early _ _ _ _ _ _ _ (Nat.le_trans h (Jv (by assumption)))
theorem gM_oper (d:Nat) (p:Program) (l:Bool) (fr:Frame) (cs:List Frame) (dy:Option Dying) (w:World) (h:d<=w.drawn):gM d (stepG.oper p l fr cs dy w):=by
 unfold stepG.oper
 split
 ·exact trivial
 ·split
  ·exact Ql _ _ _ _ _ _ _ _ h
  ·exact Ql _ _ _ _ _ _ _ _ h
theorem gM_exec (d:Nat) (p:Program) (mn l:Bool) (fr:Frame) (cs:List Frame) (dy:Option Dying) (w:World) (h:d<=w.drawn):gM d (stepG.exec p mn l fr cs dy w):=by
 unfold stepG.exec
 dsimp only
 simp only[Kv]
 split
 all_goals try unfold Option.elim
 all_goals repeat' (first
  |exact h
  |exact trivial
  |exact gM_oper _ _ _ _ _ _ _ h
  |exact Ql _ _ _ _ _ _ _ _ h
  |exact Ql _ _ _ _ _ _ _ _ (Nat.le_trans h (Ej (by assumption)))
  |exact Nh _ _ _ _ _ _ _ _ (Nat.le_trans h (Ej (by assumption)))
  |exact Nat.le_trans h (Ej (by assumption))
  |exact Nat.le_trans h (Jv (by assumption))
  |split
  |refine Me ?_)
theorem gM_stepG (d:Nat) (p:Program) (mn:Bool) (g:Goroutine) (w:World) (l:Bool) (h:d<=w.drawn):gM d (stepG p mn g w l):=by
 unfold stepG
 dsimp only
 split
 ·exact gM_die _ _ _ _ _ h
 ·exact gM_exec _ _ _ _ _ _ _ _ h
 ·exact Zd2 _ _ _ _ _ _ _ h
def sM (d:Nat):Stepped->Prop
 | .next m=>d<=m.world.drawn
 |_=>True
theorem ZcT (d:Nat) (p:Program) (gs:Array Goroutine) (rest:Rest) (w:World) (h:d<=w.drawn):sM d (look p gs rest w):=by
 unfold look
 dsimp only
 split
 ·split
  ·exact trivial
  ·split
   ·exact trivial
   ·split
    ·rename_i hq
     have h1:=Nat.le_trans h (Ej hq)
     exact h1
    ·exact trivial
    ·exact trivial
 ·exact trivial
theorem Zam {rest:Rest} {cases:Array CommCase} {w w':World} (h:waitingAt rest cases w=some w'):w'.drawn=w.drawn:=by
 unfold waitingAt at h
 split at h
 ·split at h
  ·cases h
   rfl
  ·cases h
 ·cases h
  rfl
theorem sM_comm (d:Nat) (p:Program) (rest:Rest) (gs:Array Goroutine) (i:Nat) (g:Goroutine) (cases:Array CommCase) (b:Bool) (sh:CommShape) (w:World) (h:d<=w.drawn):sM d (communicate p rest gs i g cases b sh w).1:=by
 unfold communicate
 dsimp only
 split
 ·exact trivial
 ·split
  ·split
   ·split
    ·rename_i hq
     have h1:=Zam hq
     show d<=World.drawn _
     rw[h1]
     exact h
    ·exact trivial
   ·exact h
  ·split
   ·exact trivial
   ·rename_i hq
    have h1:=Nat.le_trans h (Ej hq)
    clear hq h
    split
    ·split
     ·rename_i hq
      have h2:=Nat.le_trans h1 (Jv hq)
      exact h2
     ·exact trivial
    ·exact h1
    ·exact h1
    ·split
     ·exact h1
     ·split
      ·rename_i hq
       have h2:=Nat.le_trans h1 (Ej hq)
       exact h2
      ·exact trivial
    ·exact h1
    ·exact h1
    ·exact trivial
theorem ZcF (w:World) (c:Nat):(drain w c).2.drawn=w.drawn:=by
 unfold drain
 split<;>rfl
theorem Rz (m:Machine) (k:Nat) (t:Timer) (a b:Nat):(retime m k t a b).2.world.drawn=m.world.drawn:=by
 unfold retime
 dsimp only
 split
 ·exact ZcF _ _
 ·rfl
theorem Vy {m m':Machine} {var:Addr} {f:Nat->Timer->Value×Machine} {v:Value} {d:Nat} (hf: ∀k t,(f k t).2.world.drawn=d) (h:timerOp.named m var f= .ok (v,m')):m'.world.drawn=d:=by
 unfold timerOp.named at h
 split at h
 ·rename_i k _
  have:=hf k (m.rest.timers.getD k default)
  rw[Except.ok.inj h] at this
  exact this
 ·cases h
theorem Zbo {m m':Machine} {var:Addr} (h:timerOp.opened m var=some m'):m'.world.drawn=m.world.drawn:=by
 unfold timerOp.opened at h
 split at h
 ·split at h
  ·cases h
   rfl
  ·cases h
 ·cases h
  rfl
theorem Zb7 {m m':Machine} {op:TimerOp} {v:Value} (h:timerOp m op= .ok (v,m')):m'.world.drawn=m.world.drawn:=by
 unfold timerOp at h
 split at h
 ·split at h
  ·cases h
   rfl
  ·split at h
   ·split at h
    ·cases h
    ·cases h
     rfl
   ·cases h
 ·exact Vy (fun k t=>Rz _ _ _ _ _) h
 ·split at h
  ·rename_i hq
   exact Vy (fun k t=>(Rz _ _ _ _ _).trans (Zbo hq)) h
  ·cases h
 ·cases h
  rfl
theorem sM_serve (d:Nat) (p:Program) (m:Machine) (k:Nat) (h:d<=m.world.drawn):sM d (serve p m k):=by
 unfold serve
 dsimp only
 split
 ·exact trivial
 ·exact h
 ·split
  ·exact trivial
  ·exact h
theorem sM_runT (d:Nat) (p:Program) (m:Machine) (i:Nat) (l:Bool) (h:d<=m.world.drawn):sM d (runT p m i l).1:=by
 unfold runT
 dsimp only
 generalize m.gs.swapAt! i _=q
 have hg:=gM_stepG d p (i==0) q.1 m.world l h
 generalize stepG p (i==0) q.1 m.world l=st at *
 cases st with
 |go g w es=>exact hg
 |comm g cases blocking shape w es=>exact sM_comm _ _ _ _ _ _ _ _ _ _ hg
 |spawn g c w es=>exact hg
 |count g w es=>
  dsimp only
  split
  ·exact trivial
  ·exact hg
 |timer g op w es=>
  dsimp only
  split
  ·rename_i hq
   have:=Zb7 hq
   show d<=World.drawn _
   rw[this]
   exact hg
  ·exact hg
  ·exact trivial
  ·exact trivial
 |alone g on w es=>exact hg
 |newcoro g c e w es=>exact hg
 |coroswitch g c x w es=>
  dsimp only
  split
  ·exact hg
  ·exact hg
  ·exact trivial
 |collect g w es=>exact ZcT _ _ _ _ _ hg
 |watch g w es=>exact hg
 |ended o w es=>exact trivial
def mM (d:Nat):Move->Prop
 | .goroutine m _=>d<=m.world.drawn
 | .machine s _=>sM d s
theorem Xe (d:Nat) (p:Program) (m:Machine) (h:d<=m.world.drawn):mM d (askOn p m):=by
 unfold askOn
 dsimp only
 split
 ·exact trivial
 ·rename_i hq
  have h1:=Nat.le_trans h (Ej hq)
  clear hq
  split
  ·exact sM_serve _ _ _ _ h1
  ·split
   ·split
    ·exact h1
    ·split
     ·exact h1
     ·split<;>exact trivial
   ·split
    ·have h2:=h1
     split
     ·exact trivial
     ·rename_i hq
      have hq2:=Ej hq
      have h3:=Nat.le_trans h2 hq2
      clear hq2
      clear hq
      split
      ·exact h3
      ·split
       ·exact trivial
       ·rename_i hq
        have h4:=Nat.le_trans h3 (Ej hq)
        exact h4
    ·split
     ·exact trivial
     ·rename_i hq
      have h2:=Nat.le_trans h1 (Ej hq)
      clear hq
      split
      ·exact trivial
      ·rename_i hq
       have hq2:=Ej hq
       have h3:=Nat.le_trans h2 hq2
       clear hq2
       clear hq
       split
       ·exact h3
       ·split
        ·exact trivial
        ·rename_i hq
         have h4:=Nat.le_trans h3 (Ej hq)
         exact h4
     ·rename_i hq
      have h2:=Nat.le_trans h1 (Ej hq)
      exact h2
     ·rename_i hq
      have h2:=Nat.le_trans h1 (Ej hq)
      clear hq
      split
      ·exact trivial
      ·rename_i hq
       have hq2:=Ej hq
       have h3:=Nat.le_trans h2 hq2
       clear hq2
       clear hq
       split
       ·exact h3
       ·split
        ·exact trivial
        ·rename_i hq
         have h4:=Nat.le_trans h3 (Ej hq)
         exact h4
theorem mM_ask (d:Nat) (p:Program) (m:Machine) (h:d<=m.world.drawn):mM d (ask p m):=by
 unfold ask
 split
 ·split
  ·exact trivial
  ·rename_i hq
   have h1:=ZcT d p m.gs m.rest _ (Nat.le_trans h (Ej hq))
   split
   ·rename_i hl
    rw[hl] at h1
    exact Xe _ _ _ h1
   ·exact h1
  ·rename_i hq
   have h1:=Nat.le_trans h (Ej hq)
   exact Xe d p _ h1
 ·exact Xe _ _ _ h
theorem mM_move (d:Nat) (p:Program) (m:Machine) (h:d<=m.world.drawn):mM d (move p m):=by
 unfold move
 split
 ·split
  ·exact h
  ·exact trivial
 ·split
  ·split
   ·exact h
   ·exact mM_ask d p _ h
  ·exact mM_ask _ _ _ h
theorem sM_step (d:Nat) (p:Program) (m:Machine) (h:d<=m.world.drawn):sM d (step p m):=by
 unfold step stepT
 have hm:=mM_move d p m h
 generalize move p m=mv at *
 cases mv with
 |goroutine m' i=>exact sM_runT _ _ _ _ _ hm
 |machine s ops=>exact hm
theorem ZdD (p:Program): ∀(n:Nat) (m m':Machine),runN p n m= .next m'->m.world.drawn<=m'.world.drawn:=by
 intro n
 induction n with
 |zero=>
  intro m m' h
  cases h
  exact Nat.le_refl _
 |succ n ih=>
  intro m m' h
  unfold runN at h
  have h1:=sM_step m.world.drawn p m (Nat.le_refl _)
  generalize step p m=st at *
  cases st with
  |next m1=>exact Nat.le_trans h1 (ih m1 m' h)
  |ended o w=>cases h
theorem Vi {P:Program} {m m':Machine} (h:Steps P m m'):m.world.drawn<=m'.world.drawn:=by
 obtain⟨n,hn⟩:=h
 exact ZdD P n m m' hn
theorem ZbY {P:Program} {f:FuncId} {args:Array Value} {w:World} {R:Ending->World->Prop} (h:Calls P f args w R):Calls P f args w fun e w'=>R e w'/\(e= .outgrown∨w.drawn<=w'.drawn):=by
 intro cs
 obtain⟨e,w',fr,hR,hc,h1,h2⟩:=h cs
 refine⟨e,w',fr,⟨hR, ?_⟩,hc,h1,h2⟩
 cases e with
 |returned v=>exact .inr (Vi hc)
 |panicked c=>exact .inr (Vi hc)
 |outgrown=>exact .inl rfl
theorem grows_of {w w':World} (hb:Go.RowKit.Below w.heap.size w w') (hd:w.drawn<=w'.drawn): ∃q os',w'=Go.Sort.grow (w.drewN q) os':=by
 refine⟨w'.drawn - w.drawn,w'.heap.extract w.heap.size w'.heap.size, ?_⟩
 have hh:w'.heap=w.heap++w'.heap.extract w.heap.size w'.heap.size:=by
  apply Array.ext
  ·have:=hb.size
   simp
   omega
  ·intro k h1 h2
   rcases Nat.lt_or_ge k w.heap.size with hk|hk
   ·have:=hb.block k hk
    rw[Array.getElem?_eq_getElem h1,Array.getElem?_eq_getElem hk] at this
    rw[Array.getElem_append_left hk]
    exact Option.some.inj this
   ·rw[Array.getElem_append_right hk]
    simp
    congr 1
    omega
 have e1:=hb.os
 have e2:=hb.tape
 have e3:=hb.output
 cases w
 cases w'
 unfold Go.Sort.grow World.drewN
 dsimp only at *
 rw[←hh,e1,e2,e3]
 congr 1
 omega
theorem ZbX {P:Program} {f:FuncId} {args:Array Value} {w:World} {v:Value} (h:Calls P f args w fun e w'=>e= .returned v/\Go.RowKit.Below w.heap.size w w'):Calls P f args w fun e w'=>e= .returned v/\ ∃q os',w'=Go.Sort.grow (w.drewN q) os':=
 (ZbY h).mono fun e w' ⟨⟨he,hb⟩,hd⟩=>by
  subst he
  rcases hd with hd|hd
  ·cases hd
  ·exact⟨rfl,grows_of hb hd⟩
end Go.Proofs.YtieahhciibdnaaaGreatDoor
namespace Go.Proofs
open Go.Shelf
def Tryz.sortB_ren:Go.Shelf.Ren:=⟨fun|6=>63|14=>85|15=>86|20=>99|21=>100|22=>101|23=>102|24=>103|25=>104|26=>105|27=>106|28=>107|29=>108|46=>121|47=>122|48=>123|49=>124|50=>125|57=>133|n=>n,fun|0=>0|3=>3|4=>4|5=>5|9=>9|22=>125|24=>130|25=>132|39=>168|45=>186|46=>187|50=>53|53=>193|55=>105|66=>205|70=>209|76=>218|77=>219|n=>n,fun|n=>n⟩
theorem Tryz.sortB:Go.Proofs.SlLaysF0.n6 Tryz.prog Tryz.sortB_ren:={
 mixed:=by kernel_rfl
 f6:=⟨Tryz.f63.name,by decide,Tryz.func63.trans (congrArg some (by kernel_rfl))⟩
 f14:=⟨Tryz.f85.name,by decide,Tryz.func85.trans (congrArg some (by kernel_rfl))⟩
 f15:=Tryz.func86.trans (congrArg some (by kernel_rfl))
 f20:=⟨Tryz.f99.name,by decide,Tryz.func99.trans (congrArg some (by kernel_rfl))⟩
 f21:=⟨Tryz.f100.name,by decide,Tryz.func100.trans (congrArg some (by kernel_rfl))⟩
 f22:=⟨Tryz.f101.name,by decide,Tryz.func101.trans (congrArg some (by kernel_rfl))⟩
 f23:=⟨Tryz.f102.name,by decide,Tryz.func102.trans (congrArg some (by kernel_rfl))⟩
 f24:=⟨Tryz.f103.name,by decide,Tryz.func103.trans (congrArg some (by kernel_rfl))⟩
 f25:=⟨Tryz.f104.name,by decide,Tryz.func104.trans (congrArg some (by kernel_rfl))⟩
 f26:=⟨Tryz.f105.name,by decide,Tryz.func105.trans (congrArg some (by kernel_rfl))⟩
 f27:=⟨Tryz.f106.name,by decide,Tryz.func106.trans (congrArg some (by kernel_rfl))⟩
 f28:=Tryz.func107.trans (congrArg some (by kernel_rfl))
 f29:=Tryz.func108.trans (congrArg some (by kernel_rfl))
 f46:=⟨Tryz.f121.name,by decide,Tryz.func121.trans (congrArg some (by kernel_rfl))⟩
 f47:=Tryz.func122.trans (congrArg some (by kernel_rfl))
 f48:=Tryz.func123.trans (congrArg some (by kernel_rfl))
 f49:=⟨Tryz.f124.name,by decide,Tryz.func124.trans (congrArg some (by kernel_rfl))⟩
 f50:=⟨Tryz.f125.name,by decide,Tryz.func125.trans (congrArg some (by kernel_rfl))⟩
 f57:=⟨Tryz.f133.name,by decide,Tryz.func133.trans (congrArg some (by kernel_rfl))⟩
 t0:=Tryz.underlying0
 a0:=Tryz.isAgg0
 z0:=Tryz.sizeOf0
 v0:=Tryz.zeroValue0
 t3:=Tryz.underlying3
 a3:=Tryz.isAgg3
 z3:=Tryz.sizeOf3
 v3:=Tryz.zeroValue3
 t4:=Tryz.underlying4
 a4:=Tryz.isAgg4
 z4:=Tryz.sizeOf4
 v4:=Tryz.zeroValue4
 t5:=Tryz.underlying5
 a5:=Tryz.isAgg5
 z5:=Tryz.sizeOf5
 v5:=Tryz.zeroValue5
 t9:=Tryz.underlying9
 a9:=Tryz.isAgg9
 z9:=Tryz.sizeOf9
 v9:=Tryz.zeroValue9
 t22:=Tryz.underlying125
 a22:=Tryz.isAgg125
 z22:=Tryz.sizeOf125
 v22:=Tryz.zeroValue125
 t25:=Tryz.underlying132
 a25:=Tryz.isAgg132
 z25:=Tryz.sizeOf132
 v25:=Tryz.zeroValue132
 t39:=Tryz.underlying168
 a39:=Tryz.isAgg168
 z39:=Tryz.sizeOf168
 v39:=Tryz.zeroValue168
 t45:=Tryz.underlying186
 a45:=Tryz.isAgg186
 z45:=Tryz.sizeOf186
 v45:=Tryz.zeroValue186
 t46:=Tryz.underlying187
 a46:=Tryz.isAgg187
 z46:=Tryz.sizeOf187
 v46:=Tryz.zeroValue187
 t50:=Tryz.underlying53
 a50:=Tryz.isAgg53
 z50:=Tryz.sizeOf53
 v50:=Tryz.zeroValue53
 t53:=Tryz.underlying193
 a53:=Tryz.isAgg193
 z53:=Tryz.sizeOf193
 v53:=Tryz.zeroValue193
 t55:=Tryz.underlying105
 a55:=Tryz.isAgg105
 z55:=Tryz.sizeOf105
 v55:=Tryz.zeroValue105
 t66:=Tryz.underlying205
 a66:=Tryz.isAgg205
 z66:=Tryz.sizeOf205
 v66:=Tryz.zeroValue205
 t70:=Tryz.underlying209
 a70:=Tryz.isAgg209
 z70:=Tryz.sizeOf209
 v70:=Tryz.zeroValue209
 t76:=Tryz.underlying218
 a76:=Tryz.isAgg218
 z76:=Tryz.sizeOf218
 v76:=Tryz.zeroValue218
 t77:=Tryz.underlying219
 a77:=Tryz.isAgg219
 z77:=Tryz.sizeOf219
 v77:=Tryz.zeroValue219}
end Go.Proofs
namespace Go.Proofs.YtieahhciibdnaaaGreatDoor
set_option maxRecDepth 100000
set_option maxHeartbeats 0
section
open Go Go.Proofs Go.RowKit FM
theorem Zw {v a:VV} (h1:v.x<2^64) (h2:a.x<2^64):(orV v a).x<2^64:=by
 unfold orV
 split
 ·exact h1
 ·exact h2
theorem Zde {d:DD} (h:FD d):FD (Ni d):=by
 unfold Ni
 split
 ·exact⟨h.1,Zw h.2.1 (by decide),Zw h.2.2 (by decide)⟩
 ·exact⟨Zw h.1 (by decide),h.2.1,h.2.2⟩
theorem fd_app (x:Bool) {n d:DD} (hn:FD n) (hd:FD d):FD (Du x n d):=by
 have hz:FD Ar:=by unfold FD;decide
 unfold Du
 split
 ·exact hz
 ·split
  ·split
   ·exact Zde hd
   ·exact hz
  ·split
   ·exact hn
   ·unfold ZaQ
    split
    ·exact Zde hd
    ·exact⟨Zw hd.1 hn.1,Zw hd.2.1 hn.2.1,Zw hd.2.2 hn.2.2⟩
