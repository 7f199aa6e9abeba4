import Derived.Test.YtlpdllcedgnaaaaGreatDoorQx
import Derived.Shelf.Utf8.AppendRunePlain
import Derived.Shelf.Strings.Builder1
import Derived.Shelf.Strings.Builder2
import Derived.Shelf.Strings.OnBuilder
import Derived.ProofKit
import Derived.OpenShut
import Derived.Lib.SmallJoins
set_option linter.all false
namespace Go.Proofs.YtlpdllcedgnaaaaGreatDoor
set_option maxRecDepth 100000
set_option maxHeartbeats 0
section
open Go.RowKit Go.Shelf
theorem Ya (c:Int) (w:World):Calls Tryz.prog 82 #[.int .i32 c] w fun e w'=>e= .returned (.bool (suZ c))/\w'=w:=by
 unfold suZ
 by_cases h1:55296<=c<;>by_cases h2:c<=57343
 all_goals
  go_enter Tryz.func82,Tryz.ntmps82
  go_wp2
  go_ret
  simp[h1,h2]
theorem ZcP (c:Int) (w:World):Calls Tryz.prog 79 #[.int .i32 c] w fun e w'=>e= .returned (.int .i64 (if 65536<=c then 2 else 1))/\w'=w:=by
 by_cases h1:65536<=c
 all_goals
  go_enter Tryz.func79,Tryz.ntmps79
  go_wp2
  go_ret
  simp
theorem ZaH (a b:Int) (ha:55296<=a) (ha':a<56320) (hb:56320<=b) (hb':b<=57343) (w:World):Calls Tryz.prog 57 #[.int .i32 a, .int .i32 b] w fun e w'=>e= .returned (.int .i32 (65536+1024 * (a - 55296)+(b - 56320)))/\w'=w:=by
 go_enter Tryz.func57,Tryz.ntmps57
 go_wp2
 go_ret
 exact⟨Oh (by omega),rfl⟩
theorem Zdu (c:Int) (h0:0<=c) (h1:c<=1114111) (w:World):Calls Tryz.prog 78 #[.int .i32 c] w fun e w'=>e= .returned (.int .u16 (if 65536<=c then 55296+(c - 65536) / 1024 else c))/\w'=w:=by
 by_cases h2:65536<=c
 all_goals
  go_enter Tryz.func78,Tryz.ntmps78
  go_wp2
  go_ret
  exact⟨rfl,rfl⟩
theorem Zbq (c:Int) (h0:65536<=c) (h1:c<=1114111) (w:World):Calls Tryz.prog 80 #[.int .i32 c] w fun e w'=>e= .returned (.int .u16 (56320+(c - 65536) % 1024))/\w'=w:=by
 have hb:bits .and .i32 (c - 65536) 1023=(c - 65536) % 1024:=bits_mask .i32 31 (by decide) wraps_i32 10 (by decide) _ (by omega) (by omega)
 have b1:0<=(c - 65536) % 1024:=by omega
 have b2:(c - 65536) % 1024<1024:=by omega
 go_enter Tryz.func80,Tryz.ntmps80
 go_wp2
 go_ret
 exact⟨rfl,rfl⟩

open Go.RowKit Go.Shelf
open Go.RowKit Go.Shelf

open Go.RowKit Go.Shelf
attribute [local go_sem] Oper.semAt_some

theorem Pd (c:Nat) (w:World):Calls Tryz.prog 79 #[.int .i32 (c:Nat)] w fun e w'=>e= .returned (.int .i64 (wid c:Nat))/\w'=w:=by
 refine(ZcP (c:Int) w).mono ?_
 rintro e w' ⟨rfl,rfl⟩
 refine⟨Oh ?_,rfl⟩
 unfold wid
 by_cases h:65536<=c
 ·rw[if_pos (by omega),if_pos h];rfl
 ·rw[if_neg (by omega),if_neg h];rfl
theorem walk1_in (n:Nat) (hn:1<=n) (l Bn n₀:Nat) (s:ByteArray) (cs:List CP) (hs:Az s=bytes cs) (hsz:s.size<=4611686018427387904) (J Jx:List PT->World->Prop) (hn2:2<=n₀)
  (W:World) (hAb:AbidesFrom W.heap.size J)
  (hY: ∀pre x W,J pre W->pre.length<(pts 0 cs).length->YieldAt Fence.wide (n - 1) Tryz.prog l (encs x) W fun e W'=>
   (e= .returned (.bool true)/\J (pre++ [x]) W'/\Below n₀ W W')∨(e= .returned (.bool false)/\Jx (pre++ [x]) W'))
  (hBn:W.cell? ⟨Bn,0,none⟩=some (.string s)) (hT:Lib.Utf8Tabs 0 1 W) (h0:J [] W) (hn₀:n₀<=W.heap.size):
  CallsIn Fence.wide n Tryz.prog 100 #[.func (.yield l) #[] #[], .pointer (some ⟨Bn,0,none⟩)] W fun e W'=>(∃v,e= .returned v)/\
   ((∃ys,ys=pts 0 cs/\J ys W')∨(∃pre,pre<+:pts 0 cs/\Jx pre W')):=by
 refine callsIn_of_wp Tryz.func100 rfl trivial ?_ rfl
 simp only[Tryz.ntmps100,List.size_toArray,List.length_cons,List.length_nil,Nat.reduceAdd,Nat.reduceSub,Array.replicate_succ,Array.replicate_zero,List.push_toArray,List.append_toArray,List.nil_append,List.cons_append]
 gi_wp2
 gi_loopw [3,4] (fun a t wr=> ∃(pre:List PT) (k:Nat) (rest:List CP) (u:ByteArray),a= .int .i64 (k:Nat)/\t= .string u/\Az u=bytes rest/\pts 0 cs=pre++pts k rest/\k+u.size<=s.size/\J pre wr/\W.heap.size<=wr.heap.size/\Lib.Utf8Tabs 0 1 wr/\n₀<=wr.heap.size)
  (fun _ t _=>Pg t)
 case atStart=>
  exact⟨[],0,cs,s,rfl,rfl,hs,rfl,by omega,h0,Nat.le_refl _,hT,hn₀⟩
 case round=>
  obtain⟨pre,k,rest,u,rfl,rfl,hu,hx,hk,hJs,hWr,hTr,hnr⟩:=hrel
  have HU:=Ab hu;clear hu
  have HX:=Ab hx;clear hx
  cases rest with
  |nil=>
   have hE:u.toList.isEmpty=true:=Uh (Aa HU)
   gi_wp2
   go_end0
   exact⟨⟨_,rfl⟩, .inl ⟨pre,by rw[Aa HX];simp[pts],hJs⟩⟩
  |cons c rest=>
   have hlen:=M.E_len c.1
   have hsize:u.size=(M.E c.1).length+(bytes rest).length:=by
    rw[←By,Aa HU];simp[bytes]
   have hE:u.toList.isEmpty=false:=Qn (by omega)
   have hdec:M.dec (Az u)=(c.1,(M.E c.1).length):=by
    rw[Aa HU];simp only[bytes,List.map_cons,List.flatMap_cons];exact M.dec_E c.1 _ c.2
   have hdc:=Va u wr hTr
   rw[hdec] at hdc
   have hwid:wid c.1<=(M.E c.1).length:=wid_le c.1
   have hdrop:(Az u).drop (M.E c.1).length=bytes rest:=by
    rw[Aa HU];simp only[bytes,List.map_cons,List.flatMap_cons,List.drop_left]
   clear hdec
   have HDr:=Ab hdrop;clear hdrop
   generalize (M.E c.1).length=m at *
   dsimp only at hdc
   have hm1:(m:Int)<=(u.size:Int):=by omega
   clear hsize
   have HD:=Ab hdc;clear hdc
   have HY:=Ab hY;clear hY
   gi_wp2_with fail
   refine⟨trivial,(callsIn_wide.2 (Aa HD)).mono ?_⟩
   rintro e w1 ⟨rfl,hb⟩
   have hJ1:=hAb pre wr w1 none hJs (Dx hb) (fun r e=>by cases e)
   obtain⟨fn,tmps,assign,body,hy,hR⟩:=(Aa HY) pre ⟨(k,c.1),c.2⟩ w1 hJ1 (by rw[Aa HX];simp[pts])
   simp only[encs] at hy
   have HHR:=Ab hR;clear hR
   have hwb:wid c.1<=2:=by unfold wid;split<;>omega
   have hwp:1<=wid c.1:=by unfold wid;split<;>omega
   generalize hg:wid c.1=wd at *
   have HG:=Ab hg;clear hg
   gi_wp2_with fail
   refine(Aa HHR).mono ?_
   rintro e W3 (⟨rfl,hJ3,hk3⟩|⟨rfl,hJx3⟩)
   ·gi_wp2_with fail
    refine⟨trivial,(callsIn_wide.2 (Pd c.1 _)).mono ?_⟩
    rintro e w4 ⟨rfl,rfl⟩
    rw[Aa HG]
    gi_wp2
    go_roundw
    case rel=>
     refine⟨pre++ [⟨(k,c.1),c.2⟩],k+wd,rest,u.extract m u.size,by simp,rfl,by rw[Gr];exact Aa HDr, ?_, ?_,hJ3, ?_, ?_, ?_⟩
     ·rw[Aa HX];simp[pts,Aa HG]
     ·rw[Lg];omega
     ·have:=hb.size;have:=hk3.size;omega
     ·exact Qc (Ag hTr hb) hn2 hk3
     ·have:=hb.size;have:=hk3.size;omega
    case measure=>simp only[Pg];rw[Lg];omega
   ·gi_wp2
    refine bodyPost_ret (results_none rfl _ _ _) rfl ?_
    exact⟨⟨_,rfl⟩, .inr ⟨pre++ [⟨(k,c.1),c.2⟩],⟨pts (k+wid c.1) rest,by rw[Aa HX];simp[pts]⟩,hJx3⟩⟩

theorem walk_any (s:ByteArray) (w:World):
  Calls Tryz.prog 77 #[.string s] w fun e w'=>e= .returned (.func (.func 100) #[] #[.pointer (some ⟨w.heap.size,0,none⟩)])/\w'=w.alloc (.cells #[.string s] 9):=by
 go_enter Tryz.func77,Tryz.ntmps77
 go_wp2
 go_ret
 exact⟨rfl,rfl⟩

theorem Zbc (n:Nat) (hn:1<=n) (Bn n₀:Nat) (s:ByteArray) (cs:List CP) (hs:Az s=bytes cs) (hsz:s.size<=4611686018427387904) (w:World) (hBn:Bn<w.heap.size) (hn2:2<=n₀) (hn₀:n₀<=w.heap.size)
  (hc:w.cell? ⟨Bn,0,none⟩=some (.string s)) (hT:Lib.Utf8Tabs 0 1 w):
  SeqStopsK Fence.wide n Tryz.prog 100 #[.pointer (some ⟨Bn,0,none⟩)] encs (Below n₀) (fun ys=>ys=pts 0 cs) (fun pre=>pre<+:pts 0 cs) (pts 0 cs).length w:=fun l J Jx W hW hAb _ hY h0=>
 walk1_in n hn l Bn n₀ s cs hs hsz J Jx hn2 W hAb hY ((hW.cell (p:=⟨Bn,0,none⟩) hBn).trans hc) (Ag hT hW) h0 (Nat.le_trans hn₀ hW.size)
end
section
open Go.RowKit Go.Shelf
attribute [local go_sem] Oper.semAt_some
theorem info38:(Tryz.prog.info? 103).map (fun i=>(i.zero,i.size,i.bytes))=some (some (.int .u16 0),1,2):=by kernel_rfl

theorem Pv (c:Nat) (hc:c<=1114111) (w:World):Calls Tryz.prog 78 #[.int .i32 (c:Nat)] w fun e w'=>e= .returned (.int .u16 (Mz c:Nat))/\w'=w:=by
 refine(Zdu (c:Int) (by omega) (by omega) w).mono ?_
 rintro e w' ⟨rfl,rfl⟩
 refine⟨Oh ?_,rfl⟩
 unfold Mz
 by_cases h:65536<=c
 ·rw[if_pos (by omega),if_pos h];omega
 ·rw[if_neg (by omega),if_neg h]
theorem Nk (c:Nat) (h0:65536<=c) (hc:c<=1114111) (w:World):Calls Tryz.prog 80 #[.int .i32 (c:Nat)] w fun e w'=>e= .returned (.int .u16 (Qk c:Nat))/\w'=w:=by
 refine(Zbq (c:Int) (by omega) (by omega) w).mono ?_
 rintro e w' ⟨rfl,rfl⟩
 refine⟨Oh ?_,rfl⟩
 unfold Qk;omega
theorem Zab (s:ByteArray) (cs:List CP) (hs:Az s=bytes cs) (hsz:s.size<=1099511627776) (w:World) (hT:Lib.Utf8Tabs 0 1 w):
  Calls Tryz.prog 52 #[.string s] w fun e W'=> ∃v,e= .returned v/\W'.ownsRow w.heap.size 103 1 v (Nh (cs.map (·.1))).length ((Nh (cs.map (·.1))).map Em)/\Below w.heap.size w W':=by
 refine(callsIn_wide (n:=5)).1 ?_
 obtain⟨i0,hi,hz0,hz1,hz2⟩:=info_parts info38
 refine callsIn_of_wp_marks Tryz.func52 rfl trivial ?_ rfl
 simp only[Tryz.ntmps52,List.size_toArray,List.length_cons,List.length_nil,Nat.reduceAdd,Nat.reduceSub,Array.replicate_succ,Array.replicate_zero,List.push_toArray,List.append_toArray,List.nil_append,List.cons_append]
 obtain⟨wm,hmake,hrow0,hgrow0⟩:=run_make_own (P:=Tryz.prog) w w.heap.size 52 103 i0 _ 1 Tryz.underlying52 hi hz0 hz1 .i64 .i64 s.size (by rw[hz2];omega) (by unfold maxLen;omega) (Nat.le_refl _)
 have HS:=Ab hs;clear hs
 gi_wp2_with fail
 refine⟨trivial,(callsIn_wide.2 (walk_any s _)).mono ?_⟩
 rintro e w' ⟨rfl,rfl⟩
 gi_wp2_with fail
 have hcs:cs.length<=s.size:=by rw[←By,Aa HS];exact Yh cs
 have hpl:=Zcc 0 cs
 have h2w:=Pf hT
 have bO:=Boxed.new wm 52 (.slice (some ⟨w.heap.size,0,none⟩) 0 s.size)
 have bN:=Boxed.new (wm.alloc (.cells #[.slice (some ⟨w.heap.size,0,none⟩) 0 s.size] 52)) 9 (.string s)
 rw[World.size_alloc] at bN
 have hBm:Below w.heap.size w wm:=⟨hgrow0.os,hgrow0.tape,hgrow0.output,hgrow0.size,fun k hk=>hgrow0.block k hk (by simp)⟩
 have hszm:=hBm.size
 have hB0:Below w.heap.size w ((wm.alloc (.cells #[.slice (some ⟨w.heap.size,0,none⟩) 0 s.size] 52)).alloc (.cells #[.string s] 9)):=(hBm.alloc hszm _).alloc (by simp;omega) _
 refine wpIn_rangeFunc_ownG rfl (by omega) (gf:=100) (lb:= #[.pointer (some ⟨wm.heap.size+1,0,none⟩)]) rfl trivial (enters_of Tryz.func100 (by kernel_rfl) rfl)
  (Zbc 4 (by omega) (wm.heap.size+1) w.heap.size s cs (Aa HS) (by omega) _ (by simp) h2w (by simp;omega) bN.cell (Ag hT hB0)) belowK_t (belowK_b (by simp;omega)) (Below.refl _ _) (fun _=>rfl)
  (fun pre W=>(∃v,Boxed W wm.heap.size 52 v/\W.ownsRow w.heap.size 103 1 v (uN pre).length ((uN pre).map Em)/\(∃g m cap,v= .slice (some ⟨g,0,none⟩) m cap))/\Below w.heap.size w W)
  (fun _ _ _=>False)
  (OwnFrom.and (Own.from (holdsRow_own w.heap.size wm.heap.size 52 103 1 (fun pre=>(uN pre).length) (fun pre=>(uN pre).map Em) (fun pre v=> ∃g m cap,v= .slice (some ⟨g,0,none⟩) m cap)) _) (ownFrom_below (Nat.le_refl _) (by simp;omega)))
  (fun _ _ _ _ _ hs _ _=>hs)
  ⟨⟨_,bO.alloc _,(hrow0.alloc _).alloc _,⟨_,_,_,rfl⟩⟩,hB0⟩
  (fun x=>{tmps:= #[.string s,undef, .slice none 0 0, .pointer (some ⟨wm.heap.size,0,none⟩),undef, .int .i32 (x.1.2:Nat), .string s, .int .i64 s.size, .slice (some ⟨w.heap.size,0,none⟩) 0 s.size, .string s, .func (.func 100) #[] #[.pointer (some ⟨wm.heap.size+1,0,none⟩)], .int .i64 (x.1.1:Nat), .int .i32 (x.1.2:Nat),undef,undef,undef,undef,undef,undef,undef,undef,undef,undef,undef,undef,undef,undef],defers:= []}) ?assign ?body ?done ?stop
 case assign=>
  intro l x W K hK
  simp only[encs]
  gi_wp2
  exact hK
 case body=>
  rintro l pre x W ⟨⟨v,hv,hrow,g,m,cap,rfl⟩,hB⟩ hlt
  have hc:=hv.cell
  have hf:=hv.frozen
  have hul:=uN_len pre
  have hcA: ∀o,(W.alloc o).cell? ⟨wm.heap.size,0,none⟩=some (.slice (some ⟨g,0,none⟩) m cap):=fun o=>(hv.alloc o).cell
  have hx0:(0:Int)<=(x.1.2:Int):=by omega
  have hx1:(x.1.2:Int)<=1114111:=by have:=x.2;omega
  gi_wp2_with fail
  have hmix:Tryz.prog.follows .mixedOrders=true:=by kernel_rfl
  refine wpIn_mono (Q:=fun e a' W'=>e= .normal/\ ∃g' cap' tb,Boxed W' wm.heap.size 52 (.slice (some ⟨g',0,none⟩) ((uN pre).length+1) cap')/\W'.ownsRow w.heap.size 103 1 (.slice (some ⟨g',0,none⟩) ((uN pre).length+1) cap') ((uN pre).length+1) ((uN pre).map Em++ [.int .u16 (Mz x.1.2:Nat)])/\KeepsOthers W W'/\Below w.heap.size W W'/\
   a'={tmps:= #[.string s,undef, .slice none 0 0, .pointer (some ⟨wm.heap.size,0,none⟩),undef, .int .i32 (x.1.2:Nat), .string s, .int .i64 s.size, .slice (some ⟨w.heap.size,0,none⟩) 0 s.size, .string s, .func (.func 100) #[] #[.pointer (some ⟨wm.heap.size+1,0,none⟩)], .int .i64 (x.1.1:Nat), .int .i32 (x.1.2:Nat), .slice (some ⟨g,0,none⟩) m cap, .int .i32 (x.1.2:Nat), .int .u16 (Mz x.1.2:Nat),tb, .slice (some ⟨g',0,none⟩) ((uN pre).length+1) cap',undef,undef,undef,undef,undef,undef,undef,undef,undef],defers:= []}) ?cut ?rest
  case cut=>
   refine wpIn_region_any hmix ?_
   change wpAnyIn _ _ _ _ _ _ _ _ _ (World.drew _)
   refine wpAnyIn_ready (rs:= [0,1]) (by kernel_rfl) (by simp) ?_
   refine AllReadyIn.cons rfl (fun K hK=> ?_) ?_
   ·go_simp
    refine hK _ _ ?_
    clear hK K
    refine wpAnyIn_ready (rs:= [1]) (by kernel_rfl) (by simp) ?_
    refine AllReadyIn.cons rfl (fun K hK=> ?_) ?_
    ·go_simp
     refine hK _ _ ?_
     clear hK K
     refine wpAnyIn_ready (rs:= [2]) (by kernel_rfl) (by simp) ?_
     refine AllReadyIn.cons rfl (fun K hK=> ?_) ?_
     ·go_simp
      gi_wp2_with (refine⟨trivial, ?_⟩;gi_at_call 78;refine(CallsIn.inRound l (callsIn_wide.2 (Pv _ x.2 _))).mono ?_;rintro e w' ⟨rfl,rfl⟩)
      refine wpAnyIn_ready (rs:= [3]) (by kernel_rfl) (by simp) ?_
      refine AllReadyIn.cons rfl (fun K hK=> ?_) ?_
      ·go_simp
       refine hK _ _ ?_
       clear hK K
       refine wpAnyIn_ready (rs:= [4]) (by kernel_rfl) (by simp) ?_
       refine AllReadyIn.cons rfl (fun K hK=> ?_) ?_
       ·refine Ed _ rfl _ _ 52 rfl w.heap.size 103 i0 (.int .u16 0) 1 2 Tryz.underlying52 hi hz0 hz1 hz2 rfl (by decide) _ _ _ rfl (hrow.alloc _) ⟨W.heap.size,0,none⟩ 1 1 [.int .u16 (Mz x.1.2:Nat)] rfl rfl (cell_one_new _ _ _) (by simp[Value.oneCell']) (by unfold maxLen;omega) (by omega) (by have:=hB.size;simp;omega) ?_
        intro v' w1 hown' hgrow _
        obtain⟨g',cap',rfl⟩:=ownsRow_succ hown'
        obtain⟨hv1,hv2,hr2,hk2,hb2⟩:=hv.appended (tmp:= .cells #[.int .u16 (Mz x.1.2:Nat)] 103) (by decide) hrow hB.size hszm hown' ⟨hgrow.os,hgrow.tape,hgrow.output,hgrow.size,hgrow.block⟩
        have hc1:=hv1.cell
        have hf1:=hv1.frozen
        refine hK _ _ ?_
        clear hK K
        refine wpAnyIn_ready (rs:= [5]) (by kernel_rfl) (by simp) ?_
        refine AllReadyIn.cons rfl (fun K hK=> ?_) ?_
        ·go_simp
         refine hK _ _ ?_
         clear hK K
         refine wpAnyIn_done (by kernel_rfl) ?_ _
         exact⟨rfl,_,_,_,hv2,hr2,hk2,hb2,rfl⟩
        exact AllReadyIn.nil
       exact AllReadyIn.nil
      exact AllReadyIn.nil
     exact AllReadyIn.nil
    exact AllReadyIn.nil
   refine AllReadyIn.cons rfl (fun K hK=> ?_) ?_
   ·go_simp
    refine hK _ _ ?_
    clear hK K
    refine wpAnyIn_ready (rs:= [0,2]) (by kernel_rfl) (by simp) ?_
    refine AllReadyIn.cons rfl (fun K hK=> ?_) ?_
    ·go_simp
     refine hK _ _ ?_
     clear hK K
     refine wpAnyIn_ready (rs:= [2]) (by kernel_rfl) (by simp) ?_
     refine AllReadyIn.cons rfl (fun K hK=> ?_) ?_
     ·go_simp
      gi_wp2_with (refine⟨trivial, ?_⟩;gi_at_call 78;refine(CallsIn.inRound l (callsIn_wide.2 (Pv _ x.2 _))).mono ?_;rintro e w' ⟨rfl,rfl⟩)
      refine wpAnyIn_ready (rs:= [3]) (by kernel_rfl) (by simp) ?_
      refine AllReadyIn.cons rfl (fun K hK=> ?_) ?_
      ·go_simp
       refine hK _ _ ?_
       clear hK K
       refine wpAnyIn_ready (rs:= [4]) (by kernel_rfl) (by simp) ?_
       refine AllReadyIn.cons rfl (fun K hK=> ?_) ?_
       ·refine Ed _ rfl _ _ 52 rfl w.heap.size 103 i0 (.int .u16 0) 1 2 Tryz.underlying52 hi hz0 hz1 hz2 rfl (by decide) _ _ _ rfl (hrow.alloc _) ⟨W.heap.size,0,none⟩ 1 1 [.int .u16 (Mz x.1.2:Nat)] rfl rfl (cell_one_new _ _ _) (by simp[Value.oneCell']) (by unfold maxLen;omega) (by omega) (by have:=hB.size;simp;omega) ?_
        intro v' w1 hown' hgrow _
        obtain⟨g',cap',rfl⟩:=ownsRow_succ hown'
        obtain⟨hv1,hv2,hr2,hk2,hb2⟩:=hv.appended (tmp:= .cells #[.int .u16 (Mz x.1.2:Nat)] 103) (by decide) hrow hB.size hszm hown' ⟨hgrow.os,hgrow.tape,hgrow.output,hgrow.size,hgrow.block⟩
        have hc1:=hv1.cell
        have hf1:=hv1.frozen
        refine hK _ _ ?_
        clear hK K
        refine wpAnyIn_ready (rs:= [5]) (by kernel_rfl) (by simp) ?_
        refine AllReadyIn.cons rfl (fun K hK=> ?_) ?_
        ·go_simp
         refine hK _ _ ?_
         clear hK K
         refine wpAnyIn_done (by kernel_rfl) ?_ _
         exact⟨rfl,_,_,_,hv2,hr2,hk2,hb2,rfl⟩
        exact AllReadyIn.nil
       exact AllReadyIn.nil
      exact AllReadyIn.nil
     exact AllReadyIn.nil
    refine AllReadyIn.cons rfl (fun K hK=> ?_) ?_
    ·go_simp
     gi_wp2_with (refine⟨trivial, ?_⟩;gi_at_call 78;refine(CallsIn.inRound l (callsIn_wide.2 (Pv _ x.2 _))).mono ?_;rintro e w' ⟨rfl,rfl⟩)
     refine wpAnyIn_ready (rs:= [0,3]) (by kernel_rfl) (by simp) ?_
     refine AllReadyIn.cons rfl (fun K hK=> ?_) ?_
     ·go_simp
      refine hK _ _ ?_
      clear hK K
      refine wpAnyIn_ready (rs:= [3]) (by kernel_rfl) (by simp) ?_
      refine AllReadyIn.cons rfl (fun K hK=> ?_) ?_
      ·go_simp
       refine hK _ _ ?_
       clear hK K
       refine wpAnyIn_ready (rs:= [4]) (by kernel_rfl) (by simp) ?_
       refine AllReadyIn.cons rfl (fun K hK=> ?_) ?_
       ·refine Ed _ rfl _ _ 52 rfl w.heap.size 103 i0 (.int .u16 0) 1 2 Tryz.underlying52 hi hz0 hz1 hz2 rfl (by decide) _ _ _ rfl (hrow.alloc _) ⟨W.heap.size,0,none⟩ 1 1 [.int .u16 (Mz x.1.2:Nat)] rfl rfl (cell_one_new _ _ _) (by simp[Value.oneCell']) (by unfold maxLen;omega) (by omega) (by have:=hB.size;simp;omega) ?_
        intro v' w1 hown' hgrow _
        obtain⟨g',cap',rfl⟩:=ownsRow_succ hown'
        obtain⟨hv1,hv2,hr2,hk2,hb2⟩:=hv.appended (tmp:= .cells #[.int .u16 (Mz x.1.2:Nat)] 103) (by decide) hrow hB.size hszm hown' ⟨hgrow.os,hgrow.tape,hgrow.output,hgrow.size,hgrow.block⟩
        have hc1:=hv1.cell
        have hf1:=hv1.frozen
        refine hK _ _ ?_
        clear hK K
        refine wpAnyIn_ready (rs:= [5]) (by kernel_rfl) (by simp) ?_
        refine AllReadyIn.cons rfl (fun K hK=> ?_) ?_
        ·go_simp
         refine hK _ _ ?_
         clear hK K
         refine wpAnyIn_done (by kernel_rfl) ?_ _
         exact⟨rfl,_,_,_,hv2,hr2,hk2,hb2,rfl⟩
        exact AllReadyIn.nil
       exact AllReadyIn.nil
      exact AllReadyIn.nil
     refine AllReadyIn.cons rfl (fun K hK=> ?_) ?_
     ·go_simp
      refine hK _ _ ?_
      clear hK K
      refine wpAnyIn_ready (rs:= [0]) (by kernel_rfl) (by simp) ?_
      refine AllReadyIn.cons rfl (fun K hK=> ?_) ?_
      ·go_simp
       refine hK _ _ ?_
       clear hK K
       refine wpAnyIn_ready (rs:= [4]) (by kernel_rfl) (by simp) ?_
       refine AllReadyIn.cons rfl (fun K hK=> ?_) ?_
       ·refine Ed _ rfl _ _ 52 rfl w.heap.size 103 i0 (.int .u16 0) 1 2 Tryz.underlying52 hi hz0 hz1 hz2 rfl (by decide) _ _ _ rfl (hrow.alloc _) ⟨W.heap.size,0,none⟩ 1 1 [.int .u16 (Mz x.1.2:Nat)] rfl rfl (cell_one_new _ _ _) (by simp[Value.oneCell']) (by unfold maxLen;omega) (by omega) (by have:=hB.size;simp;omega) ?_
        intro v' w1 hown' hgrow _
        obtain⟨g',cap',rfl⟩:=ownsRow_succ hown'
        obtain⟨hv1,hv2,hr2,hk2,hb2⟩:=hv.appended (tmp:= .cells #[.int .u16 (Mz x.1.2:Nat)] 103) (by decide) hrow hB.size hszm hown' ⟨hgrow.os,hgrow.tape,hgrow.output,hgrow.size,hgrow.block⟩
        have hc1:=hv1.cell
        have hf1:=hv1.frozen
        refine hK _ _ ?_
        clear hK K
        refine wpAnyIn_ready (rs:= [5]) (by kernel_rfl) (by simp) ?_
        refine AllReadyIn.cons rfl (fun K hK=> ?_) ?_
        ·go_simp
         refine hK _ _ ?_
         clear hK K
         refine wpAnyIn_done (by kernel_rfl) ?_ _
         exact⟨rfl,_,_,_,hv2,hr2,hk2,hb2,rfl⟩
        exact AllReadyIn.nil
       exact AllReadyIn.nil
      exact AllReadyIn.nil
     exact AllReadyIn.nil
    exact AllReadyIn.nil
   exact AllReadyIn.nil
  case rest=>
   rintro e a' W2 ⟨rfl,g2,cap2,tb,hv0,hr,hk,hb,rfl⟩
   clear hc hf hcA
   have hc:=hv0.cell
   have hf:=hv0.frozen
   have hcA: ∀o,(W2.alloc o).cell? ⟨wm.heap.size,0,none⟩=some (.slice (some ⟨g2,0,none⟩) ((uN pre).length+1) cap2):=fun o=>(hv0.alloc o).cell
   have hB2:Below w.heap.size w W2:=hB.trans hb
   by_cases hbig:65536<=x.1.2
   ·have hw2:wid x.1.2=2:=by unfold wid;rw[if_pos hbig]
    gi_wp2_with (refine⟨trivial, ?_⟩;gi_at_call 79;refine(CallsIn.inRound l (callsIn_wide.2 (Pd _ _))).mono ?_;rintro e w' ⟨rfl,rfl⟩)
    refine wpIn_region_any hmix ?_
    change wpAnyIn _ _ _ _ _ _ _ _ _ (World.drew _)
    refine wpAnyIn_ready (rs:= [0,1]) (by kernel_rfl) (by simp) ?_
    refine AllReadyIn.cons rfl (fun K hK=> ?_) ?_
    ·go_simp
     refine hK _ _ ?_
     clear hK K
     refine wpAnyIn_ready (rs:= [1]) (by kernel_rfl) (by simp) ?_
     refine AllReadyIn.cons rfl (fun K hK=> ?_) ?_
     ·go_simp
      refine hK _ _ ?_
      clear hK K
      refine wpAnyIn_ready (rs:= [2]) (by kernel_rfl) (by simp) ?_
      refine AllReadyIn.cons rfl (fun K hK=> ?_) ?_
      ·go_simp
       gi_wp2_with (refine⟨trivial, ?_⟩;gi_at_call 80;refine(CallsIn.inRound l (callsIn_wide.2 (Nk _ hbig x.2 _))).mono ?_;rintro e w' ⟨rfl,rfl⟩)
       refine wpAnyIn_ready (rs:= [3]) (by kernel_rfl) (by simp) ?_
       refine AllReadyIn.cons rfl (fun K hK=> ?_) ?_
       ·go_simp
        refine hK _ _ ?_
        clear hK K
        refine wpAnyIn_ready (rs:= [4]) (by kernel_rfl) (by simp) ?_
        refine AllReadyIn.cons rfl (fun K hK=> ?_) ?_
        ·refine Ed _ rfl _ _ 52 rfl w.heap.size 103 i0 (.int .u16 0) 1 2 Tryz.underlying52 hi hz0 hz1 hz2 rfl (by decide) _ _ _ rfl (hr.alloc _) ⟨w'.heap.size,0,none⟩ 1 1 [.int .u16 (Qk x.1.2:Nat)] rfl rfl (cell_one_new _ _ _) (by simp[Value.oneCell']) (by unfold maxLen;omega) (by omega) (by have:=hB2.size;simp;omega) ?_
         intro v' w1 hown' hgrow _
         obtain⟨g',cap',rfl⟩:=ownsRow_succ hown'
         obtain⟨hv1,hv2,hr2,hk2,hb2⟩:=hv0.appended (tmp:= .cells #[.int .u16 (Qk x.1.2:Nat)] 103) (by decide) hr hB2.size hszm hown' ⟨hgrow.os,hgrow.tape,hgrow.output,hgrow.size,hgrow.block⟩
         have hc1:=hv1.cell
         have hf1:=hv1.frozen
         refine hK _ _ ?_
         clear hK K
         refine wpAnyIn_ready (rs:= [5]) (by kernel_rfl) (by simp) ?_
         refine AllReadyIn.cons rfl (fun K hK=> ?_) ?_
         ·go_simp
          refine hK _ _ ?_
          clear hK K
          refine wpAnyIn_done (by kernel_rfl) ?_ _
          gi_wp2
          refine⟨(hk.trans hk2).from _,hb.trans hb2,⟨⟨_,hv2, ?_,⟨_,_,_,rfl⟩⟩,hB2.trans hb2⟩⟩
          rw[Ny,ZcN hbig]
          simpa [Em] using hr2
         exact AllReadyIn.nil
        exact AllReadyIn.nil
       exact AllReadyIn.nil
      exact AllReadyIn.nil
     exact AllReadyIn.nil
    refine AllReadyIn.cons rfl (fun K hK=> ?_) ?_
    ·go_simp
     refine hK _ _ ?_
     clear hK K
     refine wpAnyIn_ready (rs:= [0,2]) (by kernel_rfl) (by simp) ?_
     refine AllReadyIn.cons rfl (fun K hK=> ?_) ?_
     ·go_simp
      refine hK _ _ ?_
      clear hK K
      refine wpAnyIn_ready (rs:= [2]) (by kernel_rfl) (by simp) ?_
      refine AllReadyIn.cons rfl (fun K hK=> ?_) ?_
      ·go_simp
       gi_wp2_with (refine⟨trivial, ?_⟩;gi_at_call 80;refine(CallsIn.inRound l (callsIn_wide.2 (Nk _ hbig x.2 _))).mono ?_;rintro e w' ⟨rfl,rfl⟩)
       refine wpAnyIn_ready (rs:= [3]) (by kernel_rfl) (by simp) ?_
       refine AllReadyIn.cons rfl (fun K hK=> ?_) ?_
       ·go_simp
        refine hK _ _ ?_
        clear hK K
        refine wpAnyIn_ready (rs:= [4]) (by kernel_rfl) (by simp) ?_
        refine AllReadyIn.cons rfl (fun K hK=> ?_) ?_
        ·refine Ed _ rfl _ _ 52 rfl w.heap.size 103 i0 (.int .u16 0) 1 2 Tryz.underlying52 hi hz0 hz1 hz2 rfl (by decide) _ _ _ rfl (hr.alloc _) ⟨w'.heap.size,0,none⟩ 1 1 [.int .u16 (Qk x.1.2:Nat)] rfl rfl (cell_one_new _ _ _) (by simp[Value.oneCell']) (by unfold maxLen;omega) (by omega) (by have:=hB2.size;simp;omega) ?_
         intro v' w1 hown' hgrow _
         obtain⟨g',cap',rfl⟩:=ownsRow_succ hown'
         obtain⟨hv1,hv2,hr2,hk2,hb2⟩:=hv0.appended (tmp:= .cells #[.int .u16 (Qk x.1.2:Nat)] 103) (by decide) hr hB2.size hszm hown' ⟨hgrow.os,hgrow.tape,hgrow.output,hgrow.size,hgrow.block⟩
         have hc1:=hv1.cell
         have hf1:=hv1.frozen
         refine hK _ _ ?_
         clear hK K
         refine wpAnyIn_ready (rs:= [5]) (by kernel_rfl) (by simp) ?_
         refine AllReadyIn.cons rfl (fun K hK=> ?_) ?_
         ·go_simp
          refine hK _ _ ?_
          clear hK K
          refine wpAnyIn_done (by kernel_rfl) ?_ _
          gi_wp2
          refine⟨(hk.trans hk2).from _,hb.trans hb2,⟨⟨_,hv2, ?_,⟨_,_,_,rfl⟩⟩,hB2.trans hb2⟩⟩
          rw[Ny,ZcN hbig]
          simpa [Em] using hr2
         exact AllReadyIn.nil
        exact AllReadyIn.nil
       exact AllReadyIn.nil
      exact AllReadyIn.nil
     refine AllReadyIn.cons rfl (fun K hK=> ?_) ?_
     ·go_simp
      gi_wp2_with (refine⟨trivial, ?_⟩;gi_at_call 80;refine(CallsIn.inRound l (callsIn_wide.2 (Nk _ hbig x.2 _))).mono ?_;rintro e w' ⟨rfl,rfl⟩)
      refine wpAnyIn_ready (rs:= [0,3]) (by kernel_rfl) (by simp) ?_
      refine AllReadyIn.cons rfl (fun K hK=> ?_) ?_
      ·go_simp
       refine hK _ _ ?_
       clear hK K
       refine wpAnyIn_ready (rs:= [3]) (by kernel_rfl) (by simp) ?_
       refine AllReadyIn.cons rfl (fun K hK=> ?_) ?_
       ·go_simp
        refine hK _ _ ?_
        clear hK K
        refine wpAnyIn_ready (rs:= [4]) (by kernel_rfl) (by simp) ?_
        refine AllReadyIn.cons rfl (fun K hK=> ?_) ?_
        ·refine Ed _ rfl _ _ 52 rfl w.heap.size 103 i0 (.int .u16 0) 1 2 Tryz.underlying52 hi hz0 hz1 hz2 rfl (by decide) _ _ _ rfl (hr.alloc _) ⟨w'.heap.size,0,none⟩ 1 1 [.int .u16 (Qk x.1.2:Nat)] rfl rfl (cell_one_new _ _ _) (by simp[Value.oneCell']) (by unfold maxLen;omega) (by omega) (by have:=hB2.size;simp;omega) ?_
         intro v' w1 hown' hgrow _
         obtain⟨g',cap',rfl⟩:=ownsRow_succ hown'
         obtain⟨hv1,hv2,hr2,hk2,hb2⟩:=hv0.appended (tmp:= .cells #[.int .u16 (Qk x.1.2:Nat)] 103) (by decide) hr hB2.size hszm hown' ⟨hgrow.os,hgrow.tape,hgrow.output,hgrow.size,hgrow.block⟩
         have hc1:=hv1.cell
         have hf1:=hv1.frozen
         refine hK _ _ ?_
         clear hK K
         refine wpAnyIn_ready (rs:= [5]) (by kernel_rfl) (by simp) ?_
         refine AllReadyIn.cons rfl (fun K hK=> ?_) ?_
         ·go_simp
          refine hK _ _ ?_
          clear hK K
          refine wpAnyIn_done (by kernel_rfl) ?_ _
          gi_wp2
          refine⟨(hk.trans hk2).from _,hb.trans hb2,⟨⟨_,hv2, ?_,⟨_,_,_,rfl⟩⟩,hB2.trans hb2⟩⟩
          rw[Ny,ZcN hbig]
          simpa [Em] using hr2
         exact AllReadyIn.nil
        exact AllReadyIn.nil
       exact AllReadyIn.nil
      refine AllReadyIn.cons rfl (fun K hK=> ?_) ?_
      ·go_simp
       refine hK _ _ ?_
       clear hK K
       refine wpAnyIn_ready (rs:= [0]) (by kernel_rfl) (by simp) ?_
       refine AllReadyIn.cons rfl (fun K hK=> ?_) ?_
       ·go_simp
        refine hK _ _ ?_
        clear hK K
        refine wpAnyIn_ready (rs:= [4]) (by kernel_rfl) (by simp) ?_
        refine AllReadyIn.cons rfl (fun K hK=> ?_) ?_
        ·refine Ed _ rfl _ _ 52 rfl w.heap.size 103 i0 (.int .u16 0) 1 2 Tryz.underlying52 hi hz0 hz1 hz2 rfl (by decide) _ _ _ rfl (hr.alloc _) ⟨w'.heap.size,0,none⟩ 1 1 [.int .u16 (Qk x.1.2:Nat)] rfl rfl (cell_one_new _ _ _) (by simp[Value.oneCell']) (by unfold maxLen;omega) (by omega) (by have:=hB2.size;simp;omega) ?_
         intro v' w1 hown' hgrow _
         obtain⟨g',cap',rfl⟩:=ownsRow_succ hown'
         obtain⟨hv1,hv2,hr2,hk2,hb2⟩:=hv0.appended (tmp:= .cells #[.int .u16 (Qk x.1.2:Nat)] 103) (by decide) hr hB2.size hszm hown' ⟨hgrow.os,hgrow.tape,hgrow.output,hgrow.size,hgrow.block⟩
         have hc1:=hv1.cell
         have hf1:=hv1.frozen
         refine hK _ _ ?_
         clear hK K
         refine wpAnyIn_ready (rs:= [5]) (by kernel_rfl) (by simp) ?_
         refine AllReadyIn.cons rfl (fun K hK=> ?_) ?_
         ·go_simp
          refine hK _ _ ?_
          clear hK K
          refine wpAnyIn_done (by kernel_rfl) ?_ _
          gi_wp2
          refine⟨(hk.trans hk2).from _,hb.trans hb2,⟨⟨_,hv2, ?_,⟨_,_,_,rfl⟩⟩,hB2.trans hb2⟩⟩
          rw[Ny,ZcN hbig]
          simpa [Em] using hr2
         exact AllReadyIn.nil
        exact AllReadyIn.nil
       exact AllReadyIn.nil
      exact AllReadyIn.nil
     exact AllReadyIn.nil
    exact AllReadyIn.nil
   ·have hw1:wid x.1.2=1:=by unfold wid;rw[if_neg hbig]
    gi_wp2_with (refine⟨trivial, ?_⟩;gi_at_call 79;refine(CallsIn.inRound l (callsIn_wide.2 (Pd _ _))).mono ?_;rintro e w' ⟨rfl,rfl⟩)
    refine⟨hk.from _,hb,⟨⟨_,hv0, ?_,⟨_,_,_,rfl⟩⟩,hB2⟩⟩
    rw[Ny,U_one hbig]
    simpa [Em] using hr
 case done=>
  rintro D ys W hD rfl ⟨⟨v,hv,hrow,g,m,cap,rfl⟩,hB⟩ hK
  have hc:=hv.cell
  gi_wp2
  refine⟨by simp, .inl ⟨_,_,rfl,run_takeDeferred hK, ?_⟩⟩
  refine⟨_,results_tmp rfl _ _ _,_,rfl, ?_,hB.trans (belowK_b (w:=w) (Nat.le_refl _) W D _ _ (by simp at hD;omega) hK rfl rfl)⟩
  rw[←uN_pts 0 cs]
  exact ownsRow_putObj hrow _ hK rfl
 case stop=>
  rintro D c pre W _ _ h _
  exact h.elim
end
end Go.Proofs.YtlpdllcedgnaaaaGreatDoor
namespace Go.Proofs
open Go.Shelf
def Tryz.lays242_ren:Go.Shelf.Ren:=⟨fun|242=>83|278=>105|n=>n,fun|37=>102|21=>21|51=>61|4=>4|5=>5|46=>149|n=>n,fun|n=>n⟩
theorem Tryz.lays242:Go.Proofs.Lays.n242 Tryz.prog Tryz.lays242_ren:={
 mixed:=by kernel_rfl
 f242:=Tryz.func83.trans (congrArg some (by kernel_rfl))
 f278:=Tryz.func105.trans (congrArg some (by kernel_rfl))
 t4:=Tryz.underlying4
 a4:=Tryz.isAgg4
 z4:=Tryz.sizeOf4
 v4:=Tryz.zeroValue4
 t5:=Tryz.underlying5
 a5:=Tryz.isAgg5
 z5:=Tryz.sizeOf5
 v5:=Tryz.zeroValue5
 t21:=Tryz.underlying21
 a21:=Tryz.isAgg21
 z21:=Tryz.sizeOf21
 v21:=Tryz.zeroValue21
 t37:=Tryz.underlying102
 a37:=Tryz.isAgg102
 z37:=Tryz.sizeOf102
 v37:=Tryz.zeroValue102
 t46:=Tryz.underlying149
 a46:=Tryz.isAgg149
 z46:=Tryz.sizeOf149
 v46:=Tryz.zeroValue149
 t51:=Tryz.underlying61
 a51:=Tryz.isAgg61
 z51:=Tryz.sizeOf61
 v51:=Tryz.zeroValue61}
open Go.RowKit in
/-- unicode/utf8.AppendRune: "AppendRune appends the UTF-8 encoding of r to the end of p and returns the extended buffer. If the rune is out of range, it appends the encoding of RuneError.": ONTO A ROW OF BYTES THAT THE CALL OWNS (its head frozen or not): EVERY int32: 'Lib.runeCells r' goes in behind what the row holds; the world: one new block (the bytes as the call's variadic argument), then what 'append' does to the row. (LAID: no walk: one application.) -/
theorem Tryz.utf8_AppendRune_plain (B:Nat) (v:Value) (n:Nat) (xs:List Value) (r:Int) (hr0: -2147483648<=r) (hr1:r<=2147483647) (w:World) (hown:w.ownsRow B 5 1 v n xs) (hlen:n+4<=140737488355328) (hBw:B<=w.heap.size):
  Calls Tryz.prog 83 #[v, .int .i32 r] w fun e w'=> ∃v',e= .returned v'/\w'.ownsRow B 5 1 v' (n+(Lib.runeCells r).length) (xs++Lib.runeCells r)/\ ∃o,(w.alloc o).grownBy w' v.ownBlock:=Any.utf8_AppendRune_plain Tryz.lays242 (by kernel_rfl) B v n xs r hr0 hr1 w hown hlen hBw
end Go.Proofs
namespace Go.Proofs.YtlpdllcedgnaaaaGreatDoor
set_option maxRecDepth 100000
set_option maxHeartbeats 0
section
open Go.RowKit Go.Shelf
theorem rune_E (c:Nat) (hc:c<=1114111) (hs: ¬(55296<=c/\c<=57343)):Lib.runeCells (c:Int)=(M.E c).map u8v:=by
 unfold Lib.runeCells M.E
 by_cases h1:c<128
 ·rw[Lib.encodeRuneZ_one (by omega) (by omega),if_pos h1];rfl
 by_cases h2:c<2048
 ·rw[Lib.encodeRuneZ_two (by omega) (by omega),if_neg h1,if_pos h2];simp[u8v]
 by_cases h3:c<65536
 ·rw[Lib.encodeRuneZ_three (by omega),if_neg h1,if_neg h2,if_pos h3];simp[u8v]
 ·rw[Lib.encodeRuneZ_four (by omega) (by omega),if_neg h1,if_neg h2,if_neg h3];simp[u8v]

theorem Uy (B n:Nat) (v:Value) (xs:List Value) (c:Nat) (hc:c<=1114111) (w:World) (hown:w.ownsRow B 5 1 v n xs) (hlen:n+4<=140737488355328) (hBw:B<=w.heap.size):
  Calls Tryz.prog 58 #[v, .int .i32 (c:Nat)] w fun e w'=> ∃v',e= .returned v'/\w'.ownsRow B 5 1 v' (n+(M.E c).length) (xs++(M.E c).map u8v)/\Below B w w':=by
 obtain⟨i0,hi,hz0,hz1,hz2⟩:=info_parts info5
 by_cases hs:55296<=c/\c<=57343
 ·have hsu:suZ (c:Int)=true:=by unfold suZ;simp;omega
  have hE:M.E c= [237,128+c / 64 % 64,128+c % 64]:=by
   unfold M.E;rw[if_neg (by omega),if_neg (by omega),if_pos (by omega)];simp only[List.cons.injEq,and_true];omega
  rw[hE]
  have h1:55296<=c:=hs.1
  have h2:c<=57343:=hs.2
  clear hs hE
  go_enter Tryz.func58,Tryz.ntmps58
  go_wp2_with fail
  refine(Ya _ _).mono ?_
  rintro e w' ⟨rfl,rfl⟩
  rw[hsu]
  clear hsu
  go_wp2_with (at_builtin;refine wpList_append_own _ rfl _ _ 102 rfl B 5 i0 (.int .u8 0) 1 1 Tryz.underlying102 hi hz0 hz1 hz2 rfl (by decide) _ _ _ rfl (hown.alloc _) ⟨w'.heap.size,0,none⟩ 3 3 [.int .u8 237, .int .u8 (128+(c:Int) / 64 % 64), .int .u8 (128+(c:Int) % 64)] rfl rfl (Ua _ #[.int .u8 237, .int .u8 (128+(c:Int) / 64 % 64), .int .u8 (128+(c:Int) % 64)] 5) (by simp[Value.oneCell']) (by unfold maxLen;omega) (by omega) (by simp;omega) ?_;intro v' w1 hown' hgrow _)
  go_ret
  refine⟨_,rfl, ?_,Yk hown hBw hgrow⟩
  simpa [u8v] using hown'
 ·have hsu:suZ (c:Int)=false:=by unfold suZ;simp;omega
  have hR:=Tryz.utf8_AppendRune_plain B v n xs (c:Int) (by omega) (by omega) w hown hlen hBw
  rw[rune_E c hc hs] at hR
  have HR:=Ab hR;clear hR hs
  go_enter Tryz.func58,Tryz.ntmps58
  go_wp2_with fail
  refine(Ya _ _).mono ?_
  rintro e w' ⟨rfl,rfl⟩
  rw[hsu]
  clear hsu
  go_wp2_with fail
  refine(Aa HR).mono ?_
  rintro e w2 ⟨v',rfl,hown',o,hg⟩
  go_wp2
  go_ret
  refine⟨_,rfl, ?_,Yk hown hBw hg⟩
  simpa using hown'
theorem Zbz (v:Value) (l:List Nat) (h16: ∀x∈l,x<65536) (hlen:l.length<=1099511627776) (w:World) (hR:Reads w v l):
  Calls Tryz.prog 23 #[v] w fun e w'=> ∃s,e= .returned (.string s)/\Az s=M.ofL l/\Below w.heap.size w w':=by
 obtain⟨i0,hi,hz0,hz1,hz2⟩:=info_parts info5
 obtain⟨wm,hmake,hrow0,hgrow0⟩:=run_make_own (P:=Tryz.prog) w w.heap.size 102 5 i0 _ 1 Tryz.underlying102 hi hz0 hz1 .i64 .i64 l.length (by rw[hz2];omega) (by unfold maxLen;omega) (Nat.le_refl _)
 have hBm:Below w.heap.size w wm:=⟨hgrow0.os,hgrow0.tape,hgrow0.output,hgrow0.size,fun k hk=>hgrow0.block k hk (by simp)⟩
 obtain⟨A,cap,rfl,hA⟩: ∃A cap,v= .slice A l.length cap/\(∀i,i<l.length-> ∃b off,A=some ⟨b,off,none⟩/\b<w.heap.size/\w.cell? ⟨b,off+i,none⟩=some (.int .u16 (l.getD i 0:Nat))):=by
  rcases hR with ⟨A,c,rfl,rfl⟩|⟨b,off,cap,rfl,hlt,hc⟩
  ·exact⟨A,c,rfl,fun i hi=>by simp at hi⟩
  ·exact⟨_,_,rfl,fun i hi=>⟨b,off,rfl,hlt,hc i hi⟩⟩
 have HA:=Ab hA;clear hA hR
 have h16': ∀k,k<l.length->l.getD k 0<65536:=fun k hk=>by
  rw[List.getD_eq_getElem?_getD,List.getElem?_eq_getElem hk];exact h16 _ (List.getElem_mem hk)
 have H16:=Ab h16';clear h16'
 go_enter Tryz.func23,Tryz.ntmps23
 go_wp2
 go_loopw [3,4,5] (fun b i c wr=> ∃(k n:Nat) (vb:Value) (ds:List Nat),b=vb/\i= .int .i64 (k:Nat)/\k<=l.length/\M.row l=ds++M.row (l.drop k)/\n<=4 * k/\wr.ownsRow w.heap.size 5 1 vb n ((ds.flatMap M.E).map u8v)/\Below w.heap.size w wr/\(∀x∈ds,x<=1114111)) (fun _ i _ _=>l.length - (intOf i).toNat)
 case atStart=>exact⟨0,0,_, [],rfl,rfl,by omega,by simp,by omega,hrow0,hBm,by simp⟩
 case round=>
  obtain⟨k,n,vb,ds,rfl,rfl,hk,hrw,hn,hown,hB,hds⟩:=hrel
  have HRW:=Ab hrw;clear hrw
  by_cases hlt:k<l.length
  ·obtain⟨b,off,rfl,hblt,hcell⟩:=Aa HA k hlt
   have hcw:wr.cell? ⟨b,off+k,none⟩=some (.int .u16 (l.getD k 0:Nat)):=(hB.cell (p:=⟨b,off+k,none⟩) hblt).trans hcell
   have ha:=Aa H16 k hlt
   have HDR:=Ab (Yf l k hlt)
   generalize l.getD k 0=a at *
   have hhi:hiZ (a:Int)=M.isHi a:=Zn a
   have HHI:=Ab hhi;clear hhi
   have hk1:(k:Int)<(l.length:Int):=by omega
   have fin1:(∀b' r,l.drop (k+1)=b'::r->(M.isHi a && M.isLo b')=false)->M.row l=(ds++ [a])++M.row (l.drop (k+1)):=by
    intro h
    rw[Aa HRW,Aa HDR,Zbu a _ h];simp
   have FIN1:=Ab fin1;clear fin1
   have henc:=Uy w.heap.size n u3 _ a (by omega) wr hown (by omega) hB.size
   have HENC:=Ab henc;clear henc
   have hds1: ∀x∈ds++ [a],x<=1114111:=by
    intro x hx;rw[List.mem_append] at hx
    rcases hx with hx|hx
    ·exact hds x hx
    ·simp at hx;omega
   have hE4:=M.E_len a
   cases hhi:M.isHi a with
   |false=>
    go_wp2_with fail
    refine(Eu _ _).mono ?_
    rintro e w' ⟨rfl,rfl⟩
    rw[Aa HHI,hhi]
    go_wp2_with fail
    refine(Aa HENC).mono ?_
    rintro e w2 ⟨vb2,rfl,hown2,hb2⟩
    go_wp2
    go_roundw
    case rel=>exact⟨k+1,n+(M.E a).length,vb2,ds++ [a],rfl,by go_num,by omega,Aa FIN1 (fun b' r _=>by simp[hhi]),by omega,by simpa using hown2,hB.trans hb2,hds1⟩
    case measure=>simp[intOf];omega
   |true=>
    by_cases hlt2:k+1<l.length
    ·obtain⟨b2,off2,hbe,hblt2,hcell2⟩:=Aa HA (k+1) hlt2
     cases hbe
     have hcw2:wr.cell? ⟨b,off+(k+1),none⟩=some (.int .u16 (l.getD (k+1) 0:Nat)):=(hB.cell (p:=⟨b,off+(k+1),none⟩) hblt).trans hcell2
     have ha2:=Aa H16 (k+1) hlt2
     have HDR2:=Ab (Yf l (k+1) hlt2)
     generalize l.getD (k+1) 0=a2 at *
     have HLO:=Ab (Zd a2)
     have hk2:(k:Int)+1<(l.length:Int):=by omega
     cases hlo:M.isLo a2 with
     |false=>
      go_wp2_with fail
      refine(Eu _ _).mono ?_
      rintro e w' ⟨rfl,rfl⟩
      rw[Aa HHI,hhi]
      go_wp2_with fail
      refine(Ld _ _).mono ?_
      rintro e w' ⟨rfl,rfl⟩
      rw[Aa HLO,hlo]
      go_wp2_with fail
      refine(Aa HENC).mono ?_
      rintro e w2 ⟨vb2,rfl,hown2,hb2⟩
      go_wp2
      go_roundw
      case rel=>exact⟨k+1,n+(M.E a).length,vb2,ds++ [a],rfl,by go_num,by omega,Aa FIN1 (fun b' r e'=>by rw[Aa HDR2] at e';simp only[List.cons.injEq] at e';rw[←e'.1,hlo];simp),by omega,by simpa using hown2,hB.trans hb2,hds1⟩
      case measure=>simp[intOf];omega
     |true=>
      have hb1:=(M.isHi_iff a).1 hhi
      have hb2:=(M.isLo_iff a2).1 hlo
      obtain⟨j,hj⟩: ∃j:Nat,65536+1024 * (a - 55296)+(a2 - 56320)=j:=⟨_,rfl⟩
      have hjb:j<=1114111:=by omega
      have hjz:65536+1024 * ((a:Int) - 55296)+((a2:Int) - 56320)=(j:Int):=by omega
      have HJZ:=Ab hjz;clear hjz
      have fin2:M.row l=(ds++ [j])++M.row (l.drop (k+1+1)):=by
       rw[Aa HRW,Aa HDR,Aa HDR2,row_pair a a2 _ (by simp[hhi,hlo]),hj];simp
      have FIN2:=Ab fin2;clear fin2
      have HJ:=Ab hj;clear hj
      have henc2:=Uy w.heap.size n u3 _ j hjb wr hown (by omega) hB.size
      have HENC2:=Ab henc2;clear henc2
      have hE5:=M.E_len j
      have hds2: ∀x∈ds++ [j],x<=1114111:=by
       intro x hx;rw[List.mem_append] at hx
       rcases hx with hx|hx
       ·exact hds x hx
       ·simp at hx;omega
      go_wp2_with fail
      refine(Eu _ _).mono ?_
      rintro e w' ⟨rfl,rfl⟩
      rw[Aa HHI,hhi]
      go_wp2_with fail
      refine(Ld _ _).mono ?_
      rintro e w' ⟨rfl,rfl⟩
      rw[Aa HLO,hlo]
      go_wp2_with fail
      refine(ZaH _ _ (by omega) (by omega) (by omega) (by omega) _).mono ?_
      rintro e w' ⟨rfl,rfl⟩
      rw[Aa HJZ]
      go_wp2_with fail
      refine(Aa HENC2).mono ?_
      rintro e w2 ⟨vb2,rfl,hown2,hb2⟩
      go_wp2
      go_roundw
      case rel=>exact⟨k+1+1,n+(M.E j).length,vb2,ds++ [j],rfl,by go_num,by omega,Aa FIN2,by omega,by simpa using hown2,hB.trans hb2,hds2⟩
      case measure=>simp[intOf];omega
    ·have hk2: ¬((k:Int)+1<(l.length:Int)):=by omega
     go_wp2_with fail
     refine(Eu _ _).mono ?_
     rintro e w' ⟨rfl,rfl⟩
     rw[Aa HHI,hhi]
     go_wp2_with fail
     refine(Aa HENC).mono ?_
     rintro e w2 ⟨vb2,rfl,hown2,hb2⟩
     go_wp2
     go_roundw
     case rel=>exact⟨k+1,n+(M.E a).length,vb2,ds++ [a],rfl,by go_num,by omega,Aa FIN1 (fun b' r e'=>by rw[List.drop_of_length_le (by omega)] at e';cases e'),by omega,by simpa using hown2,hB.trans hb2,hds1⟩
     case measure=>simp[intOf];omega
  ·obtain⟨s,hconv,hns⟩:=run_str wr w.heap.size n u3 (ds.flatMap M.E) hown (fun x hx=>by
    rw[List.mem_flatMap] at hx;obtain⟨c,hc,hx⟩:=hx;exact E_256 c (hds c hc) x hx)
   have HNS:=Ab hns;clear hns
   go_wp2
   go_ret
   refine⟨s,rfl, ?_,hB⟩
   rw[Aa HNS,M.ofL,Aa HRW,List.drop_of_length_le (by omega)]
   simp[M.row]
theorem Vy (s:ByteArray) (hsz:s.size<=1099511627776) (w:World) (hT:Lib.Utf8Tabs 0 1 w):
  Calls Tryz.prog 17 #[.string s] w fun e w'=> ∃v,e= .returned (.tuple #[v, .int .i64 (erS s)])/\w'.ownsRow w.heap.size 103 1 v (unS s).length ((unS s).map Em)/\Below w.heap.size w w':=by
 have hva:=Gn s w hT
 have hun:vS s=true-> ∃cs:List CP,Az s=bytes cs/\rdL s=Nh (cs.map (·.1)):=by
  intro h
  rcases M.valid_ref (Az s) (Ki s) with ⟨_,u,h2,h3,cs,⟨e1,e2,e3⟩,hu⟩|⟨h1,_⟩
  ·have hcs: ∃l:List CP,l.map (·.1)=cs:=by
    clear h2 h3 e1 e3 hu
    induction cs with
    |nil=>exact⟨[],rfl⟩
    |cons c r ih=>
     obtain⟨l,hl⟩:=ih (fun x hx=>e2 x (by simp[hx]))
     exact⟨⟨c,e2 c (by simp)⟩::l,by simp[hl]⟩
   obtain⟨l,rfl⟩:=hcs
   refine⟨l,e1, ?_⟩
   unfold rdL;rw[h2,hu];rfl
  ·unfold vS at h;rw[h] at h1;cases h1
 unfold unS erS
 unfold vS at *
 generalize M.valid false (Az s)=b at *
 have HVA:=Ab hva;clear hva
 have HT:=Ab hT;clear hT
 cases b with
 |false=>
  clear hun
  go_enter Tryz.func17,Tryz.ntmps17
  go_wp2_with fail
  refine(Aa HVA).mono ?_
  rintro e w1 ⟨rfl,hb⟩
  go_wp2
  go_ret2
  exact⟨_,rfl,World.ownsRow_nil _ _ _ _,hb⟩
 |true=>
  obtain⟨cs,h1,h2⟩:=hun rfl
  have H1:=Ab h1;have H2:=Ab h2;clear h1 h2 hun
  go_enter Tryz.func17,Tryz.ntmps17
  go_wp2_with fail
  refine(Aa HVA).mono ?_
  rintro e w1 ⟨rfl,hb⟩
  go_wp2_with fail
  refine(Zab s cs (Aa H1) hsz w1 (Ag (Aa HT) hb)).mono ?_
  rintro e w2 ⟨v,rfl,hown,hb2⟩
  go_wp2
  go_ret2
  refine⟨_,rfl, ?_,hb.trans (hb2.mono hb.size)⟩
  rw[Aa H2]
  exact Xp hown hb.size

theorem Vz (s:ByteArray): ∀x∈unS s,x<65536:=by
 unfold unS;split
 ·exact Zc8 s
 ·simp
theorem Qs (s:ByteArray):(unS s).length<=s.size:=by
 unfold unS;split
 ·exact Zcb s
 ·simp
theorem Zc6 {w:World} {A:Option Addr} {c:Nat} {l:List Nat} {i k:Nat} (h:Reads w (.slice A l.length c) l) (hik:i<=k) (hk:k<=l.length) (hc:l.length<=c):
  ∃A',(A=none->A'=none)/\(∀b off,A=some ⟨b,off,none⟩->A'=some ⟨b,off+i,none⟩)/\Reads w (.slice A' (k - i) (c - i)) ((l.drop i).take (k - i)):=by
 have hlen:((l.drop i).take (k - i)).length=k - i:=by rw[List.length_take,List.length_drop];omega
 rcases h with ⟨A',c',h1,h2⟩|⟨b,off,cap,h1,hlt,hcell⟩
 ·simp only[Value.slice.injEq] at h1
  obtain⟨rfl,h3,rfl⟩:=h1
  subst h2
  have:k - i=0:=by simp at hk;omega
  cases A with
  |none=>exact⟨none,fun _=>rfl,fun _ _ h=>by simp at h, .inl ⟨none,_,by rw[this],by simp⟩⟩
  |some x=>
   obtain⟨b,off,sp⟩:=x
   exact⟨some ⟨b,off+i,none⟩,fun h=>by simp at h,fun b' off' h=>by simp at h;obtain⟨rfl,rfl,_⟩:=h;rfl, .inl ⟨_,_,by rw[this],by simp⟩⟩
 ·simp only[Value.slice.injEq,true_and] at h1
  obtain⟨rfl,rfl⟩:=h1
  refine⟨some ⟨b,off+i,none⟩,fun h=>by simp at h,fun b' off' h=>by simp at h;obtain⟨rfl,rfl⟩:=h;rfl, .inr ⟨b,off+i,c - i,by rw[hlen],hlt,fun j hj=> ?_⟩⟩
  rw[hlen] at hj
  rw[Nat.add_assoc,hcell (i+j) (by omega)]
  rw[List.getD_eq_getElem?_getD,List.getD_eq_getElem?_getD,List.getElem?_take,if_pos hj,List.getElem?_drop]

open Go.RowKit Go.Shelf
attribute [local go_sem] Oper.semAt_some

open Go.RowKit Go.Shelf

theorem Re (s:ByteArray) (h:vS s=true): ∃cs:List CP,Az s=bytes cs/\unS s=Nh (cs.map (·.1))/\M.Wtf (Az s) (cs.map (·.1)):=by
 rcases M.valid_ref (Az s) (Ki s) with ⟨_,u,h2,h3,cs,⟨e1,e2,e3⟩,hu⟩|⟨h1,_⟩
 ·have hcs: ∃l:List CP,l.map (·.1)=cs:=by
   clear h2 h3 e1 e3 hu
   induction cs with
   |nil=>exact⟨[],rfl⟩
   |cons c r ih=>
    obtain⟨l,hl⟩:=ih (fun x hx=>e2 x (by simp[hx]))
    exact⟨⟨c,e2 c (by simp)⟩::l,by simp[hl]⟩
  obtain⟨l,rfl⟩:=hcs
  refine⟨l,e1, ?_,e1,e2,e3⟩
  unfold unS rdL;rw[h,h2,hu];rfl
 ·unfold vS at h;rw[h] at h1;cases h1

theorem un_ok {a:ByteArray} (h:vS a=true):Az a=M.ofL (unS a):=by
 unfold unS;rw[h,if_pos rfl]
 rcases M.valid_ref (Az a) (Ki a) with ⟨_,u,h2,h3,_⟩|⟨h1,_⟩
 ·unfold rdL;rw[h2];exact h3.symm
 ·unfold vS at h;rw[h] at h1;cases h1
theorem of_un {t:ByteArray} {l:List Nat} (hl: ∀x∈l,x<65536) (h:Az t=M.ofL l):vS t=true/\unS t=l:=by
 obtain⟨p1,p2,p3⟩:=M.row_props l.length l (Nat.le_refl _) hl
 have hv:vS t=true:=by
  unfold vS;rw[h]
  exact M.valid_of (M.row l) false p1 (p3 false (fun _ _ _=>rfl))
 refine⟨hv, ?_⟩
 unfold unS;rw[hv,if_pos rfl]
 unfold rdL;rw[h];unfold M.ofL
 rw[M.rd_flat _ p1,p2];rfl
open Go.RowKit Go.Shelf

open Go.RowKit Go.Shelf

theorem add_plain (b off j:Nat):(⟨b,off,none⟩:Addr).add j=⟨b,off+j,none⟩:=by unfold Addr.add;split<;>simp_all

end
section
namespace M
def jn (h l:Nat):Nat:=65536+1024 * (h - 55296)+(l - 56320)
def meetL (a b:List Nat):List Nat×List Nat×List Nat:=
 if a.length<3∨b.length<3 then (a, [],b)
 else if isHi (surr (a.drop (a.length - 3))).1=true/\isLo (surr b).1=true then (a.take (a.length - 3),E (jn (surr (a.drop (a.length - 3))).1 (surr b).1),b.drop 3)
 else (a, [],b)

def Md:Bool->List Nat->Bool
 |h, []=>h
 |_,c::r=>Md (isHi c) r
theorem Ll: ∀(cs ds:List Nat) (h:Bool),Dt h (cs++ds)=(Dt h cs && Dt (Md h cs) ds)
 | [],ds,h=>by simp[Dt,Md]
 |c::r,ds,h=>by simp only[List.cons_append,Dt,Md];rw[Ll r ds];simp[Bool.and_assoc]
theorem ZbF (cs:List Nat) (c:Nat): ∀h,Md h (cs++ [c])=isHi c:=by
 induction cs with
 |nil=>intro h;rfl
 |cons d r ih=>intro h;simp only[List.cons_append,Md];exact ih _
theorem Nj: ∀(cs:List Nat),cs= []∨ ∃r c,cs=r++ [c]
 | []=> .inl rfl
 |c::r=>by
  rcases Nj r with rfl|⟨r',d,rfl⟩
  ·exact .inr ⟨[],c,rfl⟩
  ·exact .inr ⟨c::r',d,rfl⟩
theorem E_inj {c d:Nat} (hc:c<=1114111) (hd:d<=1114111) {r q:List Nat} (h:E c++r=E d++q):c=d:=by
 have h1:=dec_E c r hc
 rw[h,dec_E d q hd] at h1
 exact(congrArg Prod.fst h1).symm
theorem isHi_3 {c:Nat} (h:isHi c=true):E c= [237,128+c / 64 % 64,128+c % 64]:=by
 rw[isHi_iff] at h
 unfold E;rw[if_neg (by omega),if_neg (by omega),if_pos (by omega)]
 simp only[List.cons.injEq,and_true];omega
theorem isLo_3 {c:Nat} (h:isLo c=true):E c= [237,128+c / 64 % 64,128+c % 64]:=by
 rw[isLo_iff] at h
 unfold E;rw[if_neg (by omega),if_neg (by omega),if_pos (by omega)]
 simp only[List.cons.injEq,and_true];omega
theorem Zb7 {l:List Nat} (h:55296<=(surr l).1):(surr l).2=3:=by
 unfold surr at *
 split
 ·rename_i h';rw[if_pos h'] at h;simp at h
 ·rfl
theorem Zb3 {c:Nat} (h:isHi c=true∨isLo c=true):(E c).length=3:=by
 rcases h with h|h
 ·rw[isHi_3 h];rfl
 ·rw[isLo_3 h];rfl
theorem surr_E {c:Nat} (r:List Nat) (h:isHi c=true∨isLo c=true):surr (E c++r)=(c,3):=by
 have hb:55296<=c/\c<=57343:=by
  rcases h with h|h
  ·rw[isHi_iff] at h;omega
  ·rw[isLo_iff] at h;omega
 rw[(Zcx c r hb.1 hb.2).2,Zb3 h]

theorem last_hi (cs:List Nat) (hs:small cs) (h3:3<=(cs.flatMap E).length) (hh:isHi (surr ((cs.flatMap E).drop ((cs.flatMap E).length - 3))).1=true):
  ∃r,cs=r++ [(surr ((cs.flatMap E).drop ((cs.flatMap E).length - 3))).1]:=by
 generalize hv:(surr ((cs.flatMap E).drop ((cs.flatMap E).length - 3))).1=v at *
 have hv1:55296<=(surr ((cs.flatMap E).drop ((cs.flatMap E).length - 3))).1:=by rw[hv];rw[isHi_iff] at hh;omega
 have hn:=Zb7 hv1
 obtain⟨i1,i2,i3⟩:=Ri _ (by rw[hn];omega)
 rw[hv,hn] at i2
 have e3:(cs.flatMap E).drop ((cs.flatMap E).length - 3)=E v:=by
  rw[i2,List.drop_drop,List.drop_of_length_le (by omega),List.append_nil]
 rcases Nj cs with rfl|⟨r,c,rfl⟩
 ·simp at h3
 ·refine⟨r, ?_⟩
  have hc:c<=1114111:=hs c (by simp)
  have hfl:(r++ [c]).flatMap E=r.flatMap E++E c:=by simp
  rw[hfl] at e3
  rw[isHi_3 hh] at e3
  have hl:=E_len c
  suffices c=v by rw[this]
  generalize r.flatMap E=pre at *
  have key: ∃q,pre++E c=q++ [237,128+v / 64 % 64,128+v % 64]:=⟨_,by rw[←e3];exact(List.take_append_drop _ _).symm⟩
  obtain⟨q,hq⟩:=key
  have hrev:=congrArg List.reverse hq
  simp only[List.reverse_append,List.reverse_cons,List.reverse_nil,List.nil_append,List.cons_append] at hrev
  unfold E at hrev
  split at hrev
  ·simp at hrev;omega
  ·split at hrev
   ·simp at hrev;omega
   ·split at hrev
    ·simp only[List.reverse_cons,List.reverse_nil,List.nil_append,List.cons_append,List.cons.injEq] at hrev
     rw[isHi_iff] at hh
     omega
    ·simp at hrev;omega

theorem meet_spec (a b cs ds:List Nat) (ha:Wtf a cs) (hb:Wtf b ds):
  (meetL a b).1++((meetL a b).2.1++(meetL a b).2.2)=ofL (cs.flatMap U++ds.flatMap U):=by
 obtain⟨ea,sa,pa⟩:=ha
 obtain⟨eb,sb,pb⟩:=hb
 have hsm:small (cs++ds):=fun c hc=>by
  rw[List.mem_append] at hc
  rcases hc with hc|hc
  ·exact sa c hc
  ·exact sb c hc
 have plain:Dt false (cs++ds)=true->a++([]++b)=ofL (cs.flatMap U++ds.flatMap U):=by
  intro hp
  unfold ofL
  rw[←List.flatMap_append,Ro (cs++ds) false hsm hp,List.flatMap_append,ea,eb,List.nil_append]
 by_cases hseam: ∃r h l q,cs=r++ [h]/\ds=l::q/\isHi h=true/\isLo l=true
 ·obtain⟨r,h,l,q,rfl,rfl,hh,hl⟩:=hseam
  have hE:=Zb3 (.inl hh)
  have hE':=Zb3 (.inr hl)
  have ea':a=r.flatMap E++E h:=by rw[ea];simp
  have eb':b=E l++q.flatMap E:=by rw[eb];simp
  have hlen:a.length=(r.flatMap E).length+3:=by rw[ea',List.length_append,hE]
  have hd:a.drop (a.length - 3)=E h:=by rw[hlen,ea',Nat.add_sub_cancel,List.drop_left]
  have ht:a.take (a.length - 3)=r.flatMap E:=by rw[hlen,ea',Nat.add_sub_cancel,List.take_left]
  have s1:surr (E h)=(h,3):=by have:=surr_E [] (.inl hh);rwa [List.append_nil] at this
  have s2:surr b=(l,3):=by rw[eb'];exact surr_E _ (.inr hl)
  have hb3:b.drop 3=q.flatMap E:=by rw[eb',←hE',List.drop_left]
  have hbl:b.length=3+(q.flatMap E).length:=by rw[eb',List.length_append,hE']
  have e:meetL a b=(r.flatMap E,E (jn h l),q.flatMap E):=by
   unfold meetL
   rw[if_neg (by omega),hd,s1,s2,ht,hb3,if_pos ⟨hh,hl⟩]
  rw[e]
  have hh':=(isHi_iff h).1 hh
  have hl':=(isLo_iff l).1 hl
  have hj:U (jn h l)= [h,l]:=by
   unfold U jn;rw[if_neg (by omega)];simp only[List.cons.injEq,and_true];omega
  have hU:(r++ [h]).flatMap U++(l::q).flatMap U=(r++jn h l::q).flatMap U:=by
   have u1:U h= [h]:=by unfold U;rw[if_pos (by omega)]
   have u2:U l= [l]:=by unfold U;rw[if_pos (by omega)]
   simp[u1,u2,hj]
  have j1:isLo (jn h l)=false:=by
   cases hq:isLo (jn h l) with
   |false=>rfl
   |true=>rw[isLo_iff] at hq;unfold jn at hq;omega
  have j2:isHi (jn h l)=false:=by
   cases hq:isHi (jn h l) with
   |false=>rfl
   |true=>rw[isHi_iff] at hq;unfold jn at hq;omega
  have j3:isHi l=false:=by
   cases hq:isHi l with
   |false=>rfl
   |true=>rw[isHi_iff] at hq;omega
  have p1:Dt false r=true:=by
   rw[Ll] at pa;simp only[Bool.and_eq_true] at pa;exact pa.1
  have p2:Dt false q=true:=by
   simp only[Dt,Bool.and_eq_true,j3] at pb;exact pb.2
  have hp:Dt false (r++jn h l::q)=true:=by
   rw[Ll,p1];simp[Dt,j1,j2,p2]
  have hs2:small (r++jn h l::q):=by
   intro c hc
   simp only[List.mem_append,List.mem_cons] at hc
   rcases hc with hc|hc|hc
   ·exact sa c (by simp[hc])
   ·unfold jn at hc;omega
   ·exact sb c (by simp[hc])
  unfold ofL
  rw[hU,Ro _ false hs2 hp]
  simp
 ·have hp:Dt false (cs++ds)=true:=by
   rw[Ll,pa,Bool.true_and]
   cases hlh:Md false cs with
   |false=>exact pb
   |true=>
    rcases Nj cs with rfl|⟨r,c,rfl⟩
    ·simp[Md] at hlh
    ·rw[ZbF] at hlh
     cases ds with
     |nil=>rfl
     |cons l q=>
      cases hl:isLo l with
      |true=>exact absurd ⟨r,c,l,q,rfl,rfl,hlh,hl⟩ hseam
      |false=>simp only[Dt,hl,Bool.and_false,Bool.not_false,Bool.true_and] at pb ⊢;exact pb
  have e:meetL a b=(a, [],b):=by
   unfold meetL
   split
   ·rfl
   ·rename_i h3
    rw[if_neg]
    rintro⟨h1,h2⟩
    apply hseam
    rw[ea] at h1 h3
    obtain⟨r,hr⟩:=last_hi cs sa (by omega) h1
    have hb1:55296<=(surr b).1:=by rw[isLo_iff] at h2;omega
    have hn:=Zb7 hb1
    obtain⟨i1,i2,i3⟩:=Ri b (by rw[hn];omega)
    cases ds with
    |nil=>simp at eb;rw[eb] at h3;simp at h3
    |cons l q=>
     have:(surr b).1=l:=E_inj i1 (sb l (by simp)) (r:=b.drop (surr b).2) (q:=q.flatMap E) (by rw[←i2,eb];simp)
     refine⟨r,_,l,q,hr,rfl,h1,by rw[←this];exact h2⟩
  rw[e]
  exact plain hp
theorem meet_len (a b:List Nat):(meetL a b).1.length<=a.length/\(meetL a b).2.1.length<=4/\(meetL a b).2.2.length<=b.length:=by
 unfold meetL
 split
 ·simp
 ·split
  ·have:=E_len (jn (surr (a.drop (a.length - 3))).1 (surr b).1)
   simp only[List.length_take,List.length_drop];omega
  ·simp
end M
end
end Go.Proofs.YtlpdllcedgnaaaaGreatDoor
namespace Go.Proofs
open Go.Shelf
def Tryz.lays156_ren:Go.Shelf.Ren:=⟨fun|156=>60|165=>84|166=>85|169=>86|240=>106|241=>107|276=>125|277=>126|n=>n,fun|31=>109|9=>9|3=>3|4=>4|0=>0|20=>20|72=>152|76=>32|70=>150|37=>102|75=>31|127=>187|164=>208|5=>5|80=>155|n=>n,fun|n=>n⟩
theorem Tryz.lays156:Go.Proofs.Lays.n156 Tryz.prog Tryz.lays156_ren:={
 mixed:=by kernel_rfl
 f156:=Tryz.func60.trans (congrArg some (by kernel_rfl))
 f165:=Tryz.func84.trans (congrArg some (by kernel_rfl))
 f166:=Tryz.func85.trans (congrArg some (by kernel_rfl))
 f169:=Tryz.func86.trans (congrArg some (by kernel_rfl))
 f240:=Tryz.func106.trans (congrArg some (by kernel_rfl))
 f241:=Tryz.func107.trans (congrArg some (by kernel_rfl))
 f276:=Tryz.func125.trans (congrArg some (by kernel_rfl))
 f277:=Tryz.func126.trans (congrArg some (by kernel_rfl))
 t0:=Tryz.underlying0
 a0:=Tryz.isAgg0
 z0:=Tryz.sizeOf0
 v0:=Tryz.zeroValue0
 t3:=Tryz.underlying3
 a3:=Tryz.isAgg3
 z3:=Tryz.sizeOf3
 v3:=Tryz.zeroValue3
 t4:=Tryz.underlying4
 a4:=Tryz.isAgg4
 z4:=Tryz.sizeOf4
 v4:=Tryz.zeroValue4
 t9:=Tryz.underlying9
 a9:=Tryz.isAgg9
 z9:=Tryz.sizeOf9
 v9:=Tryz.zeroValue9
 t20:=Tryz.underlying20
 a20:=Tryz.isAgg20
 z20:=Tryz.sizeOf20
 v20:=Tryz.zeroValue20
 t31:=Tryz.underlying109
 a31:=Tryz.isAgg109
 z31:=Tryz.sizeOf109
 v31:=Tryz.zeroValue109
 t37:=Tryz.underlying102
 a37:=Tryz.isAgg102
 z37:=Tryz.sizeOf102
 v37:=Tryz.zeroValue102
 t70:=Tryz.underlying150
 a70:=Tryz.isAgg150
 z70:=Tryz.sizeOf150
 v70:=Tryz.zeroValue150
 t72:=Tryz.underlying152
 a72:=Tryz.isAgg152
 z72:=Tryz.sizeOf152
 v72:=Tryz.zeroValue152
 t75:=Tryz.underlying31
 a75:=Tryz.isAgg31
 z75:=Tryz.sizeOf31
 v75:=Tryz.zeroValue31
 t76:=Tryz.underlying32
 a76:=Tryz.isAgg32
 z76:=Tryz.sizeOf32
 v76:=Tryz.zeroValue32
 t127:=Tryz.underlying187
 a127:=Tryz.isAgg187
 z127:=Tryz.sizeOf187
 v127:=Tryz.zeroValue187
 t164:=Tryz.underlying208
 a164:=Tryz.isAgg208
 z164:=Tryz.sizeOf208
 v164:=Tryz.zeroValue208}
theorem Tryz.Builder_Extra_156:Builder.Extra Tryz.prog Tryz.lays156_ren:={
 sizeBuilder:=by kernel_rfl
 liesBuilder:=by kernel_rfl
 t5:=Tryz.underlying5
 a5:=Tryz.isAgg5
 z5:=Tryz.sizeOf5
 v5:=Tryz.zeroValue5
 infoByte:=by kernel_rfl
 cellsByte:=by kernel_rfl
 sizeByte:=by kernel_rfl
 neB5:=by decide}
open Go.RowKit in
/-- strings.Join: "Join concatenates the elements of its first argument to create a single string. The separator string sep is placed between elements in the resulting string.": HOWEVER MANY ELEMENTS. Below the heap's end the world is as it was. (LAID: no walk: one application.) -/
theorem Tryz.strings_Join (bk o c:Nat) (xs:List ByteArray) (sep:ByteArray) (w:World) (hcells: ∀(j:Nat) x,xs[j]? =some x->w.cell? ⟨bk,o+j,none⟩=some (.string x)) (hbk:bk<w.heap.size) (hN:xs.length<=140737488355328) (hcap:xs.length<=c) (hlen:(Lib.join (xs.map (·.data.toList)) sep.data.toList).length<=140737488355328):
  Calls Tryz.prog 60 #[.slice (some ⟨bk,o,none⟩) xs.length c, .string sep] w fun e w'=>e= .returned (.string ⟨(Lib.join (xs.map (·.data.toList)) sep.data.toList).toArray⟩)/\Below w.heap.size w w':=Any.strings_Join Tryz.lays156 Tryz.Builder_Extra_156 bk o c xs sep w hcells hbk hN hcap hlen
end Go.Proofs
namespace Go.Proofs.YtlpdllcedgnaaaaGreatDoor
set_option maxRecDepth 100000
set_option maxHeartbeats 0
section
open Go.RowKit Go.Shelf
theorem Vp (u:ByteArray) (i k:Nat):Az (u.extract i k)=((Az u).take k).drop i:=by
 unfold Az
 rw[ByteArray.data_extract,Array.toList_extract,←List.map_take,←List.map_drop]
 congr 1
 rw[List.extract_eq_take_drop,List.drop_take]
theorem ZaB (j:Nat) (h1:j<=1114111) (h2:65536<=j):Az (Utf8.encode (j:Int))=M.E j:=by
 have hv:Utf8.valid (j:Int)=true:=by rw[Vw,M.okc_iff];omega
 have hE:M.E j= [240+j / 262144,128+j / 4096 % 64,128+j / 64 % 64,128+j % 64]:=by
  unfold M.E;rw[if_neg (by omega),if_neg (by omega),if_neg (by omega)]
 rw[hE]
 unfold Utf8.encode
 simp only[hv,if_true,Int.toNat_natCast]
 rw[if_neg (by omega),if_neg (by omega),if_neg (by omega)]
 simp only[Az,List.map_cons,List.map_nil,UInt8.toNat_ofNat',List.cons.injEq,and_true]
 omega
theorem meet_any (a b:ByteArray) (hsa:a.size<=1099511627776) (hsb:b.size<=1099511627776) (w:World):
  Calls Tryz.prog 59 #[.string a, .string b] w fun e w'=> ∃h m t,e= .returned (.tuple #[.string h, .string m, .string t])/\Az h=(M.meetL (Az a) (Az b)).1/\Az m=(M.meetL (Az a) (Az b)).2.1/\Az t=(M.meetL (Az a) (Az b)).2.2/\Below w.heap.size w w':=by
 have hn0:Az ⟨#[]⟩= []:=rfl
 by_cases h1:a.size<3
 ·have e:M.meetL (Az a) (Az b)=(Az a, [],Az b):=by unfold M.meetL;rw[By,if_pos (.inl h1)]
  rw[e]
  have h1':(a.size:Int)<3:=by omega
  go_enter Tryz.func59,Tryz.ntmps59
  go_wp2
  go_ret3
  exact⟨_,_,_,rfl,rfl,hn0,rfl,Below.refl _ _⟩
 by_cases h2:b.size<3
 ·have e:M.meetL (Az a) (Az b)=(Az a, [],Az b):=by unfold M.meetL;rw[By,By,if_pos (.inr h2)]
  rw[e]
  have h1': ¬(a.size:Int)<3:=by omega
  have h2':(b.size:Int)<3:=by omega
  go_enter Tryz.func59,Tryz.ntmps59
  go_wp2
  go_ret3
  exact⟨_,_,_,rfl,rfl,hn0,rfl,Below.refl _ _⟩
 have h1': ¬(a.size:Int)<3:=by omega
 have h2': ¬(b.size:Int)<3:=by omega
 have hcut:Az (a.extract (a.size - 3) a.size)=(Az a).drop ((Az a).length - 3):=by rw[Gr,By]
 have hS1:=fun w=>Rj (a.extract (a.size - 3) a.size) w
 rw[hcut] at hS1
 have hS2:=fun w=>Rj b w
 have hmt:M.meetL (Az a) (Az b)=if M.isHi (M.surr ((Az a).drop ((Az a).length - 3))).1=true/\M.isLo (M.surr (Az b)).1=true then ((Az a).take ((Az a).length - 3),M.E (M.jn (M.surr ((Az a).drop ((Az a).length - 3))).1 (M.surr (Az b)).1),(Az b).drop 3) else (Az a, [],Az b):=by
  unfold M.meetL;rw[if_neg (by rw[By,By];omega)]
 rw[hmt]
 clear hmt hcut
 generalize M.surr ((Az a).drop ((Az a).length - 3))=p at *
 generalize M.surr (Az b)=q at *
 obtain⟨c1,n1⟩:=p
 obtain⟨c2,n2⟩:=q
 dsimp only at *
 have HS1:=Ab hS1;have HS2:=Ab hS2;clear hS1 hS2
 have hz:(0:Int)<=(a.size:Int) - 3:=by omega
 have hz2:(a.size:Int) - 3<=(a.size:Int):=by omega
 have hz3:(3:Int)<=(b.size:Int):=by omega
 have HHI:=Ab (Zn c1)
 have HLO:=Ab (Zd c2)
 cases hhi:M.isHi c1 with
 |false=>
  rw[if_neg (by simp)]
  go_enter Tryz.func59,Tryz.ntmps59
  go_wp2_with fail
  refine(Aa HS1 _).mono ?_
  rintro e w1 ⟨rfl,m1,rfl⟩
  go_wp2_with fail
  refine(Aa HS2 _).mono ?_
  rintro e w2 ⟨rfl,m2,rfl⟩
  go_wp2_with fail
  refine(Eu _ _).mono ?_
  rintro e w3 ⟨rfl,rfl⟩
  rw[Aa HHI,hhi]
  go_wp2
  go_ret3
  exact⟨_,_,_,rfl,rfl,hn0,rfl,Gv _ _ _⟩
 |true=>
  cases hlo:M.isLo c2 with
  |false=>
   rw[if_neg (by simp)]
   go_enter Tryz.func59,Tryz.ntmps59
   go_wp2_with fail
   refine(Aa HS1 _).mono ?_
   rintro e w1 ⟨rfl,m1,rfl⟩
   go_wp2_with fail
   refine(Aa HS2 _).mono ?_
   rintro e w2 ⟨rfl,m2,rfl⟩
   go_wp2_with fail
   refine(Eu _ _).mono ?_
   rintro e w3 ⟨rfl,rfl⟩
   rw[Aa HHI,hhi]
   go_wp2_with fail
   refine(Ld _ _).mono ?_
   rintro e w3 ⟨rfl,rfl⟩
   rw[Aa HLO,hlo]
   go_wp2
   go_ret3
   exact⟨_,_,_,rfl,rfl,hn0,rfl,Gv _ _ _⟩
  |true=>
   rw[if_pos ⟨rfl,rfl⟩]
   have d1:=(M.isHi_iff c1).1 hhi
   have d2:=(M.isLo_iff c2).1 hlo
   have hjb:M.jn c1 c2<=1114111/\65536<=M.jn c1 c2:=by unfold M.jn;omega
   have hjz:65536+1024 * ((c1:Int) - 55296)+((c2:Int) - 56320)=(M.jn c1 c2:Int):=by unfold M.jn;omega
   generalize M.jn c1 c2=j at *
   have HJ:=Ab hjz;clear hjz
   have hJ: ∀w,Calls Tryz.prog 57 #[.int .i32 (c1:Int), .int .i32 (c2:Int)] w fun e w'=>e= .returned (.int .i32 (j:Int))/\w'=w:=fun w=>by
    refine(ZaH (c1:Int) (c2:Int) (by omega) (by omega) (by omega) (by omega) w).mono ?_
    rintro e w' ⟨rfl,rfl⟩
    exact⟨Oh (Aa HJ),rfl⟩
   have HJJ:=Ab hJ;clear hJ
   go_enter Tryz.func59,Tryz.ntmps59
   go_wp2_with fail
   refine(Aa HS1 _).mono ?_
   rintro e w1 ⟨rfl,m1,rfl⟩
   go_wp2_with fail
   refine(Aa HS2 _).mono ?_
   rintro e w2 ⟨rfl,m2,rfl⟩
   go_wp2_with fail
   refine(Eu _ _).mono ?_
   rintro e w3 ⟨rfl,rfl⟩
   rw[Aa HHI,hhi]
   go_wp2_with fail
   refine(Ld _ _).mono ?_
   rintro e w3 ⟨rfl,rfl⟩
   rw[Aa HLO,hlo]
   go_wp2_with fail
   go_quiet ((go_at_call 57;refine(Aa HJJ _).mono ?_;rintro e w' ⟨rfl,rfl⟩;exact⟨rfl,_,rfl⟩))
   go_wp2
   go_ret3
   refine⟨_,_,_,rfl, ?_, ?_, ?_,(Gv _ _ _).trans (Gv _ _ _)⟩
   ·rw[Vp,List.drop_zero,By]
   ·exact ZaB j hjb.1 (by omega)
   ·rw[Gr]

def Vo (a b:ByteArray):Bool:=vS a && vS b
def Qq (a b:ByteArray):List Nat:=M.ofL (unS a++unS b)
def Za5 (a b:ByteArray):List Nat:=if Vo a b && decide ((Qq a b).length<=1048576) then Qq a b else []
def Za6 (a b:ByteArray):Int:=if Vo a b then (if (Qq a b).length<=1048576 then 0 else 6) else 10
theorem cat_bad {a b:ByteArray} (h:Vo a b=false):Za5 a b= []/\Za6 a b=10:=by unfold Za5 Za6;rw[h];exact⟨rfl,rfl⟩
theorem cat_long {a b:ByteArray} (h:Vo a b=true) (hl:1048576<(Qq a b).length):Za5 a b= []/\Za6 a b=6:=by
 have h1: ¬(Qq a b).length<=1048576:=by omega
 unfold Za5 Za6;simp[h,h1]
theorem cat_ok {a b:ByteArray} (h:Vo a b=true) (hl:(Qq a b).length<=1048576):Za5 a b=Qq a b/\Za6 a b=0:=by
 unfold Za5 Za6;simp[h,hl]
theorem join3 (h m t:ByteArray):Lib.join ([h,m,t].map (·.data.toList)) (⟨#[]⟩:ByteArray).data.toList=h.data.toList++(m.data.toList++t.data.toList):=by
 simp[Lib.join_cons,Lib.joinTail]
theorem ZbB (h m t:ByteArray):Az ⟨(Lib.join ([h,m,t].map (·.data.toList)) (⟨#[]⟩:ByteArray).data.toList).toArray⟩=Az h++(Az m++Az t):=by
 rw[join3,Qv];simp[Az]
theorem meet_cat (a b:ByteArray) (h:Vo a b=true):(M.meetL (Az a) (Az b)).1++((M.meetL (Az a) (Az b)).2.1++(M.meetL (Az a) (Az b)).2.2)=Qq a b:=by
 unfold Vo at h
 simp only[Bool.and_eq_true] at h
 obtain⟨cs,h1,h2,h3⟩:=Re a h.1
 obtain⟨ds,g1,g2,g3⟩:=Re b h.2
 rw[M.meet_spec (Az a) (Az b) _ _ h3 g3]
 unfold Qq
 rw[h2,g2];rfl

theorem ZbS (a b:ByteArray) (hsa:a.size<=1099511627776) (hsb:b.size<=1099511627776) (w:World) (hT:Lib.Utf8Tabs 0 1 w):
  Calls Tryz.prog 24 #[.string a, .string b] w fun e w'=> ∃t,e= .returned (.tuple #[.string t, .int .i64 (Za6 a b)])/\Az t=Za5 a b/\Below w.heap.size w w':=by
 have hva:=Gn a w hT
 have hvb: ∀w',Below w.heap.size w w'->Calls Tryz.prog 10 #[.string b] w' fun e w''=>e= .returned (.bool (M.valid false (Az b)))/\Below w'.heap.size w' w'':=fun w' h=>Gn b w' (Ag hT h)
 have hm:=fun w=>meet_any a b hsa hsb w
 have hml:=M.meet_len (Az a) (Az b)
 rw[By,By] at hml
 have hmc:=meet_cat a b
 have hbad:= @cat_bad a b
 have hlong:= @cat_long a b
 have hok:= @cat_ok a b
 unfold Vo vS at hmc hbad hlong hok
 generalize Za6 a b=CE at *
 generalize Za5 a b=CL at *
 generalize Qq a b=CR at *
 generalize M.meetL (Az a) (Az b)=mt at *
 obtain⟨mh,mm,mtl⟩:=mt
 dsimp only at *
 generalize M.valid false (Az a)=va at *
 generalize M.valid false (Az b)=vb at *
 have HVA:=Ab hva;have HVB:=Ab hvb;have HM:=Ab hm;clear hva hvb hm
 have hn0:Az ⟨#[]⟩= []:=rfl
 cases va with
 |false=>
  obtain⟨rfl,rfl⟩:=hbad rfl
  clear hbad hlong hok hmc
  go_enter Tryz.func24,Tryz.ntmps24
  go_wp2_with fail
  refine(Aa HVA).mono ?_
  rintro e w1 ⟨rfl,hb1⟩
  go_wp2
  go_ret2
  exact⟨_,rfl,hn0,hb1⟩
 |true=>
  cases vb with
  |false=>
   obtain⟨rfl,rfl⟩:=hbad rfl
   clear hbad hlong hok hmc
   go_enter Tryz.func24,Tryz.ntmps24
   go_wp2_with fail
   refine(Aa HVA).mono ?_
   rintro e w1 ⟨rfl,hb1⟩
   go_wp2_with fail
   refine(Aa HVB w1 hb1).mono ?_
   rintro e w2 ⟨rfl,hb2⟩
   go_wp2
   go_ret2
   exact⟨_,rfl,hn0,hb1.trans (hb2.mono hb1.size)⟩
  |true=>
   have hcr:=hmc rfl
   clear hbad hmc
   have hcl:=congrArg List.length hcr
   simp only[List.length_append] at hcl
   by_cases hbig:1048576<CR.length
   ·obtain⟨rfl,rfl⟩:=hlong rfl hbig
    clear hlong hok
    go_enter Tryz.func24,Tryz.ntmps24
    go_wp2_with fail
    refine(Aa HVA).mono ?_
    rintro e w1 ⟨rfl,hb1⟩
    go_wp2_with fail
    refine(Aa HVB w1 hb1).mono ?_
    rintro e w2 ⟨rfl,hb2⟩
    go_wp2_with fail
    refine(Aa HM w2).mono ?_
    rintro e w3 ⟨h,m,t,rfl,e1,e2,e3,hb3⟩
    have l1:h.size=mh.length:=by rw[←By,e1]
    have l2:m.size=mm.length:=by rw[←By,e2]
    have l3:t.size=mtl.length:=by rw[←By,e3]
    have hs:(1048576:Int)<(h.size:Int)+(m.size:Int)+(t.size:Int):=by omega
    have hs2:(h.size:Int)+(m.size:Int)+(t.size:Int)<=4398046511104:=by omega
    have L1:=Ab l1;have L2:=Ab l2;have L3:=Ab l3;have E1:=Ab e1;have E2:=Ab e2;have E3:=Ab e3;clear l1 l2 l3 e1 e2 e3 hcr hcl
    go_wp2
    go_ret2
    exact⟨_,rfl,hn0,hb1.trans ((hb2.mono hb1.size).trans (hb3.mono (Nat.le_trans hb1.size hb2.size)))⟩
   ·obtain⟨hcl',rfl⟩:=hok rfl (by omega)
    clear hlong hok
    go_enter Tryz.func24,Tryz.ntmps24
    go_wp2_with fail
    refine(Aa HVA).mono ?_
    rintro e w1 ⟨rfl,hb1⟩
    go_wp2_with fail
    refine(Aa HVB w1 hb1).mono ?_
    rintro e w2 ⟨rfl,hb2⟩
    go_wp2_with fail
    refine(Aa HM w2).mono ?_
    rintro e w3 ⟨h,m,t,rfl,e1,e2,e3,hb3⟩
    have l1:h.size=mh.length:=by rw[←By,e1]
    have l2:m.size=mm.length:=by rw[←By,e2]
    have l3:t.size=mtl.length:=by rw[←By,e3]
    have hs: ¬(1048576:Int)<(h.size:Int)+(m.size:Int)+(t.size:Int):=by omega
    have hs2:(h.size:Int)+(m.size:Int)+(t.size:Int)<=4398046511104:=by omega
    have L1:=Ab l1;have L2:=Ab l2;have L3:=Ab l3;have E1:=Ab e1;have E2:=Ab e2;have E3:=Ab e3;have HCR:=Ab hcr;have HCL:=Ab hcl';clear l1 l2 l3 e1 e2 e3 hcr hcl hcl'
    go_wp2_with fail
    have hj:=Tryz.strings_Join w3.heap.size 0 3 [h,m,t] ⟨#[]⟩ (w3.alloc (.cells #[.string h, .string m, .string t] 9)) (fun j x hx=>by
     have:=Ua w3 #[.string h, .string m, .string t] 9 j (.string x) (by
      rcases j with _|_|_|j
      ·simpa using hx
      ·simpa using hx
      ·simpa using hx
      ·simp at hx)
     rwa [add_plain] at this) (by simp) (by simp) (by simp) (by
     rw[join3]
     have e1:h.data.toList.length=h.size:=rfl
     have e2:m.data.toList.length=m.size:=rfl
     have e3:t.data.toList.length=t.size:=rfl
     rw[List.length_append,List.length_append,e1,e2,e3];omega)
    refine hj.mono ?_
    rintro e w4 ⟨rfl,hb4⟩
    go_wp2
    go_ret2
    refine⟨_,rfl, ?_, ?_⟩
    ·rw[Aa HCL,←Aa HCR]
     refine(ZbB h m t).trans ?_
     rw[Aa E1,Aa E2,Aa E3]
    ·have hB3:=hb1.trans ((hb2.mono hb1.size).trans (hb3.mono (Nat.le_trans hb1.size hb2.size)))
     exact(hB3.alloc hB3.size _).trans (hb4.mono (by have:=hB3.size;simp;omega))
end
section
open Go Go.Proofs Go.RowKit FM
theorem Yd {v a:VV} (h1:v.x<2^64) (h2:a.x<2^64):(orV v a).x<2^64:=by
 unfold orV
 split
 ·exact h1
 ·exact h2
theorem Zcz {d:DD} (h:FD d):FD (Jj d):=by
 unfold Jj
 split
 ·exact⟨h.1,Yd h.2.1 (by decide),Yd h.2.2 (by decide)⟩
 ·exact⟨Yd h.1 (by decide),h.2.1,h.2.2⟩
theorem fd_app (x:Bool) {n d:DD} (hn:FD n) (hd:FD d):FD (Di x n d):=by
 have hz:FD Al:=by unfold FD;decide
 unfold Di
 split
 ·exact hz
 ·split
  ·split
   ·exact Zcz hd
   ·exact hz
  ·split
   ·exact hn
   ·unfold Vv
    split
    ·exact Zcz hd
    ·exact⟨Yd hd.1 hn.1,Yd hd.2.1 hn.2.1,Yd hd.2.2 hn.2.2⟩
end
section
open Go.RowKit Go.WideShapes Go.ChangeShapes
theorem Yg:Tryz.prog.cellsOf 36=5:=by kernel_rfl
theorem Vd:Tryz.prog.cellsOf 3=1:=by kernel_rfl
theorem cellsOf4:Tryz.prog.cellsOf 4=1:=by kernel_rfl
theorem ZdD:Tryz.prog.cellsOf 34=1:=by kernel_rfl
theorem Za4:Tryz.prog.cellsOf 9=1:=by kernel_rfl
section
variable {H : Type} {enc : TypeId × Value → H} {P : Program} {W : World} {base : Nat} {sp : Nat → Bool} {held : Bool} {m : Nat} {c : Value} {x : DataW H × List MemPlace} {t : TypeId}
theorem ZdE (hu:P.underlying t=some .bool) (h:DataW.trod enc P W base sp held m t [c]=some x): ∃b,c= .bool b/\x=(.lit (.bool b), []):=by
 cases m with
 |zero=>simp[DataW.trod] at h
 |succ m=>
  unfold DataW.trod at h
  rw[hu] at h
  split at h<;>simp_all
theorem wf64 {b:Nat} (h:(Lit.float .f64 b).wf=true):b<2^64:=by
 unfold Lit.wf at h
 exact of_decide_eq_true h
theorem ZbX (hu:P.underlying t=some (.float .f64)) (h:DataW.trod enc P W base sp held m t [c]=some x): ∃b,c= .float .f64 b/\b<2^64/\x=(.lit (.float .f64 b), []):=by
 cases m with
 |zero=>simp[DataW.trod] at h
 |succ m=>
  unfold DataW.trod at h
  rw[hu] at h
  split at h<;>simp_all
  rename_i e
  subst e
  exact wf64 h.1.2
theorem Qi (hu:P.underlying t=some .string) (h:DataW.trod enc P W base sp held m t [c]=some x): ∃s,c= .string s/\s.size<=maxLen/\x=(.lit (.string s.data.toList), []):=by
 cases m with
 |zero=>simp[DataW.trod] at h
 |succ m=>
  unfold DataW.trod at h
  rw[hu] at h
  split at h<;>simp_all
theorem Lf (hu:P.underlying t=some (.int .i64)) (h:DataW.trod enc P W base sp held m t [c]=some x): ∃n,c= .int .i64 n/\(Lit.int .i64 n).wf=true/\x=(.lit (.int .i64 n), []):=by
 cases m with
 |zero=>simp[DataW.trod] at h
 |succ m=>
  unfold DataW.trod at h
  rw[hu] at h
  split at h<;>simp_all
theorem Zu {f0 f1 f2 f3 f4:Field} {cs:List Value} (hs:P.underlying t=some (.struct #[f0,f1,f2,f3,f4])) (hC:P.cellsOf t=5)
  (o0:f0.offset=0) (o1:f1.offset=1) (o2:f2.offset=2) (o3:f3.offset=3) (o4:f4.offset=4)
  (u0:P.underlying f0.type=some (.int .i64)) (u1:P.underlying f1.type=some .bool) (u2:P.underlying f2.type=some (.float .f64)) (u3:P.underlying f3.type=some .string) (u4:P.underlying f4.type=some (.int .i64))
  (s0:P.cellsOf f0.type=1) (s1:P.cellsOf f1.type=1) (s2:P.cellsOf f2.type=1) (s3:P.cellsOf f3.type=1) (s4:P.cellsOf f4.type=1)
  (h:DataW.trod enc P W base sp held m t cs=some x):
  ∃u:VV,cs= [.int .i64 u.k, .bool u.b, .float .f64 u.x, .string u.s, .int .i64 u.i]/\u.x<2^64/\u.s.size<=maxLen/\(Lit.int .i64 u.k).wf=true/\(Lit.int .i64 u.i).wf=true:=by
 obtain⟨xs,n,_,rfl,hl,hlen,hf⟩:=DataW.trod_struct hs h
 rw[hC] at hl
 match cs,hl with
 | [c0,c1,c2,c3,c4],_=>
  have h0:=hf 0 _ rfl
  have h1:=hf 1 _ rfl
  have h2:=hf 2 _ rfl
  have h3:=hf 3 _ rfl
  have h4:=hf 4 _ rfl
  simp[s0,s1,s2,s3,s4,o0,o1,o2,o3,o4] at h0 h1 h2 h3 h4 hlen
  have g: ∀j,j<5-> ∃y,xs[j]? =some y:=fun j hj=>⟨_,List.getElem?_eq_getElem (by omega)⟩
  obtain⟨y0,e0⟩:=g 0 (by omega)
  obtain⟨y1,e1⟩:=g 1 (by omega)
  obtain⟨y2,e2⟩:=g 2 (by omega)
  obtain⟨y3,e3⟩:=g 3 (by omega)
  obtain⟨y4,e4⟩:=g 4 (by omega)
  rw[e0] at h0
  rw[e1] at h1
  rw[e2] at h2
  rw[e3] at h3
  rw[e4] at h4
  obtain⟨k,rfl,wk, -⟩:=Lf u0 h0
  obtain⟨b,rfl, -⟩:=ZdE u1 h1
  obtain⟨f,rfl,wf, -⟩:=ZbX u2 h2
  obtain⟨s,rfl,ws, -⟩:=Qi u3 h3
  obtain⟨i,rfl,wi, -⟩:=Lf u4 h4
  exact⟨⟨k,b,f,s,i⟩,rfl,wf,ws,wk,wi⟩
end
theorem Mj {H:Type} {enc:TypeId×Value->H} {W:World} {base:Nat} {sp:Nat->Bool} {held:Bool} {m:Nat} {x:DataW H×List MemPlace} {cs:List Value} (h:DataW.trod enc Tryz.prog W base sp held m 36 cs=some x):
  ∃u:VV,cs= [.int .i64 u.k, .bool u.b, .float .f64 u.x, .string u.s, .int .i64 u.i]/\u.x<2^64/\u.s.size<=maxLen/\(Lit.int .i64 u.k).wf=true/\(Lit.int .i64 u.i).wf=true:=
 Zu Tryz.underlying36 Yg rfl rfl rfl rfl rfl Tryz.underlying3 Tryz.underlying4 Tryz.underlying34 Tryz.underlying9 Tryz.underlying3 Vd cellsOf4 ZdD Za4 Vd h
