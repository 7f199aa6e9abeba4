import Derived.Test.YthjnflilfjcgiaaGreatFmtRb
import Derived.Test.YthjnflilfjcgiaaGreatFmtQz
import Derived.BigFrameIn
set_option linter.all false
namespace Go.Proofs.YthjnflilfjcgiaaGreatFmt
set_option maxRecDepth 100000
set_option maxHeartbeats 0
section
open Go Go.Proofs Go.Maps Go.RowKit Tryz
attribute [local go_sem] Oper.semAt_some
section
variable {F : Fence} {n : Nat} {ops : Array Oper} {rest : List Oper} {Q : Exit → Act → World → Prop} {w X : World} {a : Act} {o : Oper}
theorem inV {V:Value} (hF: ∀f,F.fn f) (hw:Region.wanted o (yielded ops a.tmps)=true) (hnd: ∀c,o.op≠ .defer c) (he:(execOp a.eval o).run prog w= .ok (.value V) X)
  (h:wpListIn F n prog ops Q rest (a.put o.dst V) X):wpListIn F n prog ops Q (o::rest) a w:=by
 refine BigFrame.wpListIn_want hw fun K hK=> ?_
 refine⟨fun f _=>hF f, ?_⟩
 have e:o.semAt F.round a.eval=execOp a.eval o:=by
  cases F.round with
  |none=>rfl
  |some l=>exact Oper.semAt_some l _ _ hnd
 rw[e,he]
 exact hK _ _ h
theorem inS (hF: ∀f,F.fn f) (hw:Region.wanted o (yielded ops a.tmps)=true) (hnd: ∀c,o.op≠ .defer c) (he:(execOp a.eval o).run prog w= .ok .skip X)
  (h:wpListIn F n prog ops Q rest (a.put o.dst undef) X):wpListIn F n prog ops Q (o::rest) a w:=by
 refine BigFrame.wpListIn_want hw fun K hK=> ?_
 refine⟨fun f _=>hF f, ?_⟩
 have e:o.semAt F.round a.eval=execOp a.eval o:=by
  cases F.round with
  |none=>rfl
  |some l=>exact Oper.semAt_some l _ _ hnd
 rw[e,he]
 exact hK _ _ h
theorem ex_store {t:TypeId} {b p:Nat} {cs vs:List Value} {v:Value} {x y:Operand} (ho:o.op= .store t x y) (hx:a.eval x= .pointer (some ⟨b,p,none⟩)) (hy:a.eval y=v) (hv:v.cells.toList=vs) (h1: ∀u∈vs,u.oneCell'=true) (hi:(prog.info? t).map (·.size)=some vs.length) (hH:Holds w b cs) (hp:p+vs.length<=cs.length):
  (execOp a.eval o).run prog w= .ok .skip (w.setCells b p vs):=by
 unfold execOp
 simp only[ho,hx,hy,Instr.storeAt,Instr.sureAddr,Sem.run_bind,Sem.run_pure,Result.andThen_ok,run_storeVar_any w b p t v vs hv (hH.there p vs.length hp) hi h1]
theorem ex_alloc33 (ho:o.op= .alloc 42):(execOp a.eval o).run prog w= .ok (.value (.pointer (some ⟨w.heap.size,0,none⟩))) (w.alloc (Obj.cells zeroK.cs.toArray 42)):=by
 unfold execOp
 simp only[ho]
 simp[go_sem,Tryz.zeroValue42]
 rfl
theorem ex_buildS {t e:TypeId} {size bytes:Nat} {z v:Value} {cs:List Value} {x:Operand} (ho:o.op= .buildSlice t 1 #[(0,x)]) (hx:a.eval x=v)
  (ht:prog.underlying t=some (.slice e)) (hi:(prog.info? e).map (fun i=>(i.zero,i.size,i.bytes))=some (some z,size,bytes)) (hs1:size<=100) (hv:v.cells.toList=cs) (hc:cs.length=size) (h0:0<size):
  (execOp a.eval o).run prog w= .ok (.value (.slice (some ⟨w.heap.size,0,none⟩) 1 1)) (w.alloc (Obj.cells cs.toArray e)):=by
 obtain⟨i0,hi,hz0,hz1,hz2⟩:=info_parts hi
 have ev:v.cells=cs.toArray:=by rw[←hv]
 have es:v.cells.size=size:=by rw[ev];simpa using hc
 have hr:=run_buildSlice w t e 1 #[(0,v)] cs.toArray i0 _ ht hi hz0 (by rw[hz1];omega) (by rw[hz1];omega) (by
  rw[hz1,←ev]
  exact fill_one size _ v (by simp) es)
 unfold execOp
 simp only[ho,List.map_toArray,List.map_cons,List.map_nil,hx]
 simp[hr]
theorem ex_append {t e:TypeId} {size bytes k m c B base:Nat} {z v:Value} {xs news:List Value} {s x:Operand} (ho:o.op= .call {callee:= .builtin .append,args:= #[s,x],argTypes:= #[t,t]}) (hs:a.eval s=v) (hx:a.eval x= .slice (some ⟨B,0,none⟩) m c)
  (ht:prog.underlying t=some (.slice e)) (hi:(prog.info? e).map (fun i=>(i.zero,i.size,i.bytes))=some (some z,size,bytes)) (hz:z.cells.size=size) (hsz:0<size) (hown:w.ownsRow base e size v k xs) (hB:Holds w B news) (hl:news.length=m * size) (h1: ∀u∈news,u.oneCell'=true)
  (hn:k+m<=4000000) (hby:bytes<=10000) (hbase:base<=w.heap.size):
  ∃A c' w',(execOp a.eval o).run prog w= .ok (.value (.slice A (k+m) c')) w'/\w'.ownsRow base e size (.slice A (k+m) c') (k+m) (xs++news)/\w.grownBy w' v.ownBlock:=by
 obtain⟨i0,hi,hz0,hz1,hz2⟩:=info_parts hi
 obtain⟨v',w',hrun,h2,h3,h4⟩:=append_fresh w base t o.type e i0 _ size bytes ht hi hz0 hz1 hz2 hz hsz v k xs hown ⟨B,0,none⟩ m c news hl (fun j u hj=>by
  rw[Addr.add_mid]
  exact hB.2 j u hj) h1 (by unfold maxLen;omega) (Nat.le_trans (Nat.mul_le_mul hn hby) (by decide)) hbase
 obtain⟨A',c',rfl⟩:=own_form h2
 refine⟨A',c',w', ?_,h2,h3⟩
 simp[execOp,ho,resolve,invoke,builtin,hs,hx,hrun,Result.andThen]
end
theorem appI {F:Fence} {n:Nat} {ops:Array Oper} {rest:List Oper} {Q:Exit->Act->World->Prop} {w:World} {a:Act} {o:Oper} {t e:TypeId} {size bytes k m c B base:Nat} {z v:Value} {xs news:List Value} {s x:Operand} (hF: ∀f,F.fn f) (hw:Region.wanted o (yielded ops a.tmps)=true) (ho:o.op= .call {callee:= .builtin .append,args:= #[s,x],argTypes:= #[t,t]}) (hs:a.eval s=v) (hx:a.eval x= .slice (some ⟨B,0,none⟩) m c)
  (ht:prog.underlying t=some (.slice e)) (hi:(prog.info? e).map (fun i=>(i.zero,i.size,i.bytes))=some (some z,size,bytes)) (hz:z.cells.size=size) (hsz:0<size) (hown:w.ownsRow base e size v k xs) (hB:Holds w B news) (hl:news.length=m * size) (h1: ∀u∈news,u.oneCell'=true)
  (hn:k+m<=4000000) (hby:bytes<=10000) (hbase:base<=w.heap.size)
  (h: ∀A c' w',w'.ownsRow base e size (.slice A (k+m) c') (k+m) (xs++news)->w.grownBy w' v.ownBlock->wpListIn F n prog ops Q rest (a.put o.dst (.slice A (k+m) c')) w'):wpListIn F n prog ops Q (o::rest) a w:=by
 obtain⟨A,c',w',he,h2,h3⟩:=ex_append ho hs hx ht hi hz hsz hown hB hl h1 hn hby hbase
 exact inV hF hw (fun c e=>by rw[ho] at e;cases e) he (h A c' w' h2 h3)
theorem boxed_holds {W:World} {B:Nat} {t:TypeId} {v:Value} (h:Boxed W B t v):Holds W B [v]:=by
 refine⟨fun j=>by simp[World.frozen?,show W.heap[B]? =_ from h],fun j u hu=> ?_⟩
 obtain rfl:j=0:=by
  have:=(List.getElem?_eq_some_iff.1 hu).1
  simpa using this
 obtain rfl:v=u:=by simpa using hu
 exact h.cell
theorem boxed_own {β:Type} (B:Nat) (t:TypeId) (v:Value):Own (fun (_:β) W=>Boxed W B t v):=by
 intro s X Y row hv hg hrow
 refine hv.kept hg (fun e'=> ?_)
 obtain⟨o,ho,hc⟩:=hrow B e'.symm
 rw[show X.heap[B]? =_ from hv] at ho;cases ho;cases hc
theorem holds_own {X Y:World} {row:Option Nat} {b:Nat} {cs:List Value} (h:Holds X b cs) (hc:0<cs.length) (hg:X.grownBy Y row) (hrow: ∀r,row=some r-> ∃o:Obj,X.heap[r]? =some o/\o.isCells=false):Holds Y b cs:=by
 refine h.block (hg.block b (h.lt hc) (fun e'=> ?_))
 obtain⟨o,ho,hco⟩:=hrow b e'.symm
 have h0:=h.cell 0 (List.getElem?_eq_getElem hc)
 cases o<;>simp[World.cell?,ho] at h0<;>simp[Obj.isCells] at hco
theorem new_var (W:World) (c0 cs:List Value) (t:TypeId) (hc:cs.length<=c0.length) (he:cput c0 0 cs=cs) (h0:0<c0.length):Below W.heap.size W ((W.alloc (Obj.cells c0.toArray t)).setCells W.heap.size 0 cs)/\Holds ((W.alloc (Obj.cells c0.toArray t)).setCells W.heap.size 0 cs) W.heap.size cs/\((W.alloc (Obj.cells c0.toArray t)).setCells W.heap.size 0 cs).heap.size=W.heap.size+1:=by
 refine⟨below_setCells (Nat.le_refl _) _ _ _ ((Below.refl _ _).alloc (Nat.le_refl _) _), ?_,by rw[size_setCells];simp⟩
 have:=(Holds.new W c0 t).put 0 cs (by omega)
 rw[he] at this
 exact this
theorem kb_t {n₀ Bn:Nat} {A B C:World} (h:Kb n₀ Bn A B) (k:Kb n₀ Bn B C):Kb n₀ Bn A C:=⟨h.1.trans k.1,k.2.trans h.2⟩
theorem kb_b {n₀ Bn:Nat} {w:World} (hn:n₀<=w.heap.size) (hB:Bn<w.heap.size) (W:World) (l:Nat) (o o':Obj) (hl:w.heap.size<=l) (h:W.heap[l]? =some o) (h1:o.isCells=false) (h2:o.isWalk=false):Kb n₀ Bn W (W.putObj l o'):=
 ⟨belowK_b hn W l o o' hl h h1 h2,by
  show (W.heap.setIfInBounds l o')[Bn]? =_
  rw[Array.getElem?_setIfInBounds_ne (by omega)]⟩
theorem own_block {w w':World} {base e size n:Nat} {v:Value} {xs:List Value} (h:w.ownsRow base e size v n xs) (he: ∀g,v.ownBlock=some g->w'.heap[g]? =w.heap[g]?):w'.ownsRow base e size v n xs:=by
 obtain⟨h1,h2⟩:=h
 refine⟨h1, ?_⟩
 rcases h2 with h2|⟨g,cap,cur,rfl,h3,h4,h5⟩
 ·exact .inl h2
 ·exact .inr ⟨g,cap,cur,rfl,h3,(he g rfl).trans h4,h5⟩
theorem each_stops (T:TT) (n:Nat) (hn:1<=n) (Bn n₀:Nat) (w:World) (hT:T.Is w) (hlast:T.last<4000000) (hlt: ∀b∈T.blocks,b<n₀) (hBs:Bn<w.heap.size) (hBn:w.cell? ⟨Bn,0,none⟩=some (.pointer (some ⟨T.t,0,none⟩))) (hn₀:n₀<=w.heap.size):
  SeqStopsK Fence.wide n prog 109 #[.pointer (some ⟨Bn,0,none⟩)] encP (Kb n₀ Bn) (fun ys=>ys=T.live.map RR.pr) (fun pre=>pre<+:T.live.map RR.pr) T.live.length w:=by
 intro l J Jx W hW hJ hJx hY h0
 exact each_in n hn l Bn n₀ T J Jx W hJ (hT.on hW) hlast hlt hY ((hW.cell (p:=⟨Bn,0,none⟩) hBs).trans hBn) h0 (by have:=hW.size;omega)
def ordK (l:List KK):List KK:=outK (mg (ixs l))++strs l++syms l
theorem siz64:(prog.info? 54).map (·.size)=some 1:=by kernel_rfl
theorem keys28 (T:TT) (w:World) (hT:T.Is w) (hlast:T.last<4000000) (hl:T.live.length<=1500000) (hU:Lib.Utf8Tabs 4 5 w) (hP:TabP w):Calls prog 156 #[.pointer (some ⟨T.t,0,none⟩)] w fun e w'=> ∃v,e= .returned v/\OwnK w' w.heap.size v (ordK (T.live.map (·.k)))/\Below w.heap.size w w':=by
 refine(callsIn_wide (n:=4)).1 ?_
 have HL:=hide (len30 T w hT)
 have HE:=hide (fun X=>each41 T X)
 have HT:=hide hT
 clear hT
 refine callsIn_of_wp_marks func156 rfl trivial ?_ rfl
 simp only[ntmps156,List.size_toArray,List.length_cons,List.length_nil,Nat.reduceAdd,Nat.reduceSub,Array.replicate_succ,Array.replicate_zero,List.push_toArray,List.append_toArray,List.nil_append,List.cons_append]
 gi_wp2_with fail
 refine⟨trivial,(callsIn_wide.2 (uh HL)).mono ?_⟩
 rintro e w1 ⟨rfl,rfl⟩
 obtain⟨i0,hi,hz0,hz1,hz2⟩:=info_parts info23w
 obtain⟨wm,hrun,hm1,hm2⟩:=run_makeSlice_owned (P:=prog) w1 w1.heap.size 54 42 i0 _ 2 underlying54 hi hz0 hz1 .i64 .i64 T.live.length (by omega) (by rw[hz2];omega) (by unfold maxLen;omega) (Nat.le_refl _)
 gi_wp2_with fail
 refine⟨trivial,(callsIn_wide.2 ((uh HE) _)).mono ?_⟩
 rintro e w2 ⟨rfl,rfl⟩
 have hms:=hm2.size
 have hbm:Below w1.heap.size w1 wm:=⟨hm2.os,hm2.tape,hm2.output,hm2.size,fun k hk=>hm2.block k hk (by simp)⟩
 have b3:Boxed (wm.alloc (.cells #[.slice (some ⟨w1.heap.size,0,none⟩) 0 T.live.length] 54)) wm.heap.size 54 (.slice (some ⟨w1.heap.size,0,none⟩) 0 T.live.length):=Boxed.new wm 54 _
 have bn:Boxed ((wm.alloc (.cells #[.slice (some ⟨w1.heap.size,0,none⟩) 0 T.live.length] 54)).alloc (.cells #[.pointer (some ⟨T.t,0,none⟩)] 135)) (wm.heap.size+1) 135 (.pointer (some ⟨T.t,0,none⟩)):=by
  have:=Boxed.new (wm.alloc (.cells #[.slice (some ⟨w1.heap.size,0,none⟩) 0 T.live.length] 54)) 135 (.pointer (some ⟨T.t,0,none⟩))
  rwa [World.size_alloc] at this
 have hB0:Below w1.heap.size w1 ((wm.alloc (.cells #[.slice (some ⟨w1.heap.size,0,none⟩) 0 T.live.length] 54)).alloc (.cells #[.pointer (some ⟨T.t,0,none⟩)] 135)):=(hbm.alloc hms _).alloc (by simp;omega) _
 have hT3:=(uh HT).on hB0
 have hlt3:=(uh HT).lt
 have HTT:=HT
 clear HL HE
 gi_wp2
 try simp only[World.size_alloc]
 refine wpIn_rangeFunc_ownH (α:=KK×DD) rfl (by omega) (gf:=109) (lb:= #[.pointer (some ⟨wm.heap.size+1,0,none⟩)]) rfl trivial (enters_of func109 (by kernel_rfl) rfl)
  (each_stops T 3 (by omega) (wm.heap.size+1) w1.heap.size _ hT3 hlast hlt3 (by simp) bn.cell (by simp;omega)) kb_t (kb_b (by simp;omega) (by simp)) (Below.refl _ _) (fun _=>rfl)
  (fun pre W=>(∃v,Boxed W wm.heap.size 54 v/\W.ownsRow w1.heap.size 42 2 v pre.length (flatK (pre.map (·.1)))/\True)/\Boxed W (wm.heap.size+1) 135 (.pointer (some ⟨T.t,0,none⟩))/\Below w1.heap.size w1 W)
  (fun _ _ _=>False)
  (OwnFrom.and (Own.from (holdsRow_own w1.heap.size wm.heap.size 54 42 2 (fun pre:List (KK×DD)=>pre.length) (fun pre=>flatK (pre.map (·.1))) (fun _ _=>True)) _) (OwnFrom.and (Own.from (boxed_own _ _ _) _) (ownFrom_below (Nat.le_refl _) (by simp;omega))))
  (fun _ _ _ _ _ hs _ _=>hs)
  ⟨⟨_,b3.alloc _,(hm1.alloc _).alloc _,trivial⟩,bn,hB0⟩
  (fun x a' W=> ∃Bk,a'={tmps:= #[.pointer (some ⟨T.t,0,none⟩),undef, .slice none 0 0, .pointer (some ⟨wm.heap.size,0,none⟩), .pointer (some ⟨Bk,0,none⟩), .pointer (some ⟨T.t,0,none⟩), .int .i64 T.live.length, .slice (some ⟨w1.heap.size,0,none⟩) 0 T.live.length, .pointer (some ⟨T.t,0,none⟩), .func (.func 109) #[] #[.pointer (some ⟨wm.heap.size+1,0,none⟩)],x.1.agg,x.2.agg,undef,undef,undef,undef,undef,undef,undef,undef,undef,undef],defers:= []}/\Holds W Bk x.1.cs)
  (fun x a' _ X Y row hs hg hr=>by
   obtain⟨Bk,h1,h2⟩:=hs
   exact⟨Bk,h1,holds_own h2 (Nat.succ_pos _) hg (fun r e=>(hr r e).2)⟩)
  ?assign ?body ?done ?stop
 case assign=>
  intro l pre x W K hI hK
  simp only[encP]
  obtain⟨p1,p2,p3⟩:=new_var W zeroK.cs x.1.cs 42 (Nat.le_refl _) rfl (Nat.succ_pos _)
  obtain⟨X1,hX1⟩: ∃X1,X1=(W.alloc (Obj.cells zeroK.cs.toArray 42)).setCells W.heap.size 0 x.1.cs:=⟨_,rfl⟩
  rw[←hX1] at p1 p2 p3
  have HK:=hide (hK)
  have hg2:W.grownBy X1 none:=grown_of_below p1
  have hI2:Hid _:=hide hI
  clear hK hI
  have ht:((#[10,11]:Array Tmp).zip #[x.1.agg,x.2.agg]).foldl (fun t x=>t.setIfInBounds x.1 x.2) (#[.pointer (some ⟨T.t,0,none⟩),undef, .slice none 0 0, .pointer (some ⟨wm.heap.size,0,none⟩),undef, .pointer (some ⟨T.t,0,none⟩), .int .i64 T.live.length, .slice (some ⟨w1.heap.size,0,none⟩) 0 T.live.length, .pointer (some ⟨T.t,0,none⟩), .func (.func 109) #[] #[.pointer (some ⟨wm.heap.size+1,0,none⟩)],undef,undef,undef,undef,undef,undef,undef,undef,undef,undef,undef,undef]:Array Value)= #[.pointer (some ⟨T.t,0,none⟩),undef, .slice none 0 0, .pointer (some ⟨wm.heap.size,0,none⟩),undef, .pointer (some ⟨T.t,0,none⟩), .int .i64 T.live.length, .slice (some ⟨w1.heap.size,0,none⟩) 0 T.live.length, .pointer (some ⟨T.t,0,none⟩), .func (.func 109) #[] #[.pointer (some ⟨wm.heap.size+1,0,none⟩)],x.1.agg,x.2.agg,undef,undef,undef,undef,undef,undef,undef,undef,undef,undef]:=by simp
  rw[ht]
  refine wpIn_region_lit ?_
  refine inV (fun _=>trivial) (by rfl) (by intro c h;cases h) (ex_alloc33 rfl) ?_
  simp only[nn]
  refine inS (fun _=>trivial) (by rfl) (by intro c h;cases h) (ex_store (t:=42) (vs:=x.1.cs) rfl rfl rfl rfl (by simp[KK.cs,Value.oneCell']) siz33 (Holds.new W zeroK.cs 42) (Nat.le_refl _)) ?_
  rw[←hX1]
  simp only[nn]
  refine wpListIn_nil ?_
  obtain⟨⟨v,hv,hrow, -⟩,hbn,hB⟩:=uh hI2
  have hsz:=hB.size
  exact(uh HK) _ X1 (KeepsFrom.of_grownBy hg2 (fun j e=>by cases e)) ⟨p1.mono hsz,p1.block _ hbn.lt⟩ ⟨⟨v,hv.kept hg2 (by simp),own_block hrow (fun g hg=>p1.block g (World.ownsRow.lt hrow g hg).2),trivial⟩,hbn.kept hg2 (by simp),hB.trans (p1.mono hsz)⟩ ⟨W.heap.size,rfl,p2⟩
 case body=>
  rintro l pre x a' W hl2 hloop ⟨⟨v,hv,hrow, -⟩,hbn,hB⟩ ⟨Bk,rfl,hk⟩ hlen
  have Hk:=hide hk
  have Hv:=hide hv
  have Hrow:=hide hrow
  have Hbn:=hide hbn
  have HB:=hide hB
  clear hk hv hrow hbn hB hloop
  refine wpIn_block ?_
  refine wpIn_region_lit ?_
  refine inV (fun _=>trivial) (by rfl) (by intro c h;cases h) (ex_loadC (B:=wm.heap.size) (p:=0) (v:=v) 54 isAgg54 rfl rfl (uh Hv).cell) ?_
  simp only[nn]
  refine inV (fun _=>trivial) (by rfl) (by intro c h;cases h) (ex_loadN (B:=Bk) (p:=0) (cs:=x.1.cs) (vs:=x.1.cs) 42 2 row33x siz33 rfl rfl (uh Hk) rfl rfl) ?_
  simp only[nn]
  refine inV (fun _=>trivial) (by rfl) (by intro c h;cases h) (ex_buildS (t:=54) (e:=42) (v:= .agg x.1.cs.toArray) (cs:=x.1.cs) rfl rfl underlying54 info23w (by decide) rfl rfl (by decide)) ?_
  simp only[nn]
  refine appI (v:=v) (B:=W.heap.size) (m:=1) (c:=1) (fun _=>trivial) (by rfl) rfl rfl rfl underlying54 info23w rfl (by decide) ((uh Hrow).alloc _) (Holds.new W x.1.cs 42) rfl (by simp[KK.cs,Value.oneCell']) (by omega) (by decide) (by have:=(uh HB).size;simp;omega) ?_
  intro A c' w4 ho4 hg4
  have HA:=hide ((uh Hv).appended (by decide) (uh Hrow) (uh HB).size hms ho4 hg4)
  have HG:=hide hg4
  clear ho4 hg4
  simp only[nn]
  refine inS (fun _=>trivial) (by rfl) (by intro c h;cases h) (ex_store (t:=54) (b:=wm.heap.size) (p:=0) (cs:= [v]) (vs:= [.slice A (pre.length+1) c']) rfl rfl rfl rfl (by simp[Value.oneCell']) siz64 (boxed_holds (uh HA).1) (Nat.le_refl _)) ?_
  simp only[nn]
  refine wpListIn_nil ?_
  obtain⟨h1,h2,h3,h4,h5⟩:=uh HA
  have hbn:=uh Hbn
  have hB:=uh HB
  have hne:some (wm.heap.size+1)≠v.ownBlock:=hbn.not_row (by decide) (uh Hrow)
  have eb:(w4.setCell ⟨wm.heap.size,0,none⟩ (Value.slice A (pre.length+1) c')).heap[wm.heap.size+1]? =W.heap[wm.heap.size+1]? :=by
   rw[Below.heap_setCell _ _ _ _ (by show wm.heap.size+1≠wm.heap.size;omega),(uh HG).block _ (by have:=hbn.lt;simp;omega) hne,Below.heap_alloc _ _ _ hbn.lt]
  refine⟨h4.from _,⟨h5,eb⟩,⟨⟨_,h2, ?_,trivial⟩,eb.trans hbn,hB.trans h5⟩⟩
  rw[List.map_append,flatK_append,show flatK (List.map (fun z:KK×DD=>z.1) [x])=x.1.cs from flatK_one x.1,List.length_append]
  exact h3
 case done=>
  rintro D ys W hD rfl ⟨⟨v,hv,hrow, -⟩,hbn,hB⟩ hK
  have hc:=hv.cell
  have hO:OwnK W w1.heap.size v (T.live.map (·.k)):=by
   unfold OwnK
   have e1:(T.live.map RR.pr).map (fun z:KK×DD=>z.1)=T.live.map (·.k):=by rw[List.map_map];rfl
   rw[e1] at hrow
   rw[List.length_map] at hrow ⊢
   exact hrow
  have hall:(T.live.map (·.k)).all goodK=true:=by
   rw[List.all_map,List.all_eq_true]
   intro r hr
   exact(uh HT).good r hr
  have HC:=hide (order8 v (T.live.map (·.k)) W (tabs_belowB hU (tabs_size hU) hB) (hP.on hB) hO.reads (by rw[List.length_map];exact hl))
  clear hO
  gi_wp2_with fail
  refine⟨trivial,(callsIn_wide.2 (uh HC)).mono ?_⟩
  rintro e W5 ⟨v5,n5,rfl,hb5,hcase⟩
  rcases hcase with ⟨-,rfl,hO5⟩|⟨hbad, -, -⟩
  rotate_left
  ·rw[hall] at hbad;cases hbad
  obtain⟨L5,hL5⟩: ∃L5,L5=ordK (T.live.map (·.k)):=⟨_,rfl⟩
  replace hO5:OwnK W5 W.heap.size v5 L5:=hL5▸hO5
  have HL5:=hide hL5
  clear hL5
  obtain⟨A5,c5,rfl⟩:=own_form hO5
  have hv5:Boxed W5 wm.heap.size 54 v:=(hb5.block _ hv.lt).trans hv
  have hc5:=hv5.cell
  have hf5:=hv5.frozen
  have hDl:D<W.heap.size:=(Array.getElem?_eq_some_iff.1 hK).1
  have hD2:wm.heap.size+1+1<=D:=by simpa using hD
  have HO5:=hide hO5
  clear hO5 hall
  gi_wp2
  have hK5:(W5.setCell ⟨wm.heap.size,0,none⟩ (.slice A5 L5.length c5)).heap[D]? =some (.deferred (some [])):=by
   rw[Below.heap_setCell _ _ _ _ (by show D≠wm.heap.size;omega),hb5.block D hDl]
   exact hK
  have hO5:=uh HO5
  have hBs:=hB.size
  refine⟨by simp, .inl ⟨_,_,rfl,run_takeDeferred hK5, ?_⟩⟩
  refine⟨_,results_tmp rfl _ _ _,_,rfl, ?_,((hB.trans (hb5.mono hBs)).setCell (p:=⟨wm.heap.size,0,none⟩) (by exact hms) _).trans (belowK_b (w:=w1) (Nat.le_refl _) _ D _ _ (by omega) hK5 rfl rfl)⟩
  rw[←uh HL5]
  refine(hO5.mono hBs).block (fun g hg=> ?_)
  have hg2:=(hO5.own g hg)
  have e1: ∀(Z:World) (o':Obj),(Z.putObj D o').heap[g]? =Z.heap[g]? :=fun Z o'=>by
   show (Z.heap.setIfInBounds D o')[g]? =_
   rw[Array.getElem?_setIfInBounds_ne (by omega)]
  rw[e1,Below.heap_setCell _ _ _ _ (by have:=hv.lt;show g≠wm.heap.size;omega)]
 case stop=>
  rintro D c pre W _ _ h _
  exact h.elim
