import Derived.Test.YthcmamjpfigdfaaGreatDoorRb
import Derived.Test.YthcmamjpfigdfaaGreatDoorQz
import Derived.BigFrameIn
set_option linter.all false
namespace Go.Proofs.YthcmamjpfigdfaaGreatDoor
set_option maxRecDepth 100000
set_option maxHeartbeats 0
section
open Go Go.Proofs Go.Maps Go.RowKit Tryz
attribute [local go_sem] Oper.semAt_some
section
variable {F:Fence} {n:Nat} {ops:Array Oper} {rest:List Oper} {Q:Exit->Act->World->Prop} {w X:World} {a:Act} {o:Oper}
theorem inV {V:Value} (hF: ∀f,F.fn f) (hw:Region.wanted o (yielded ops a.tmps)=true) (hnd: ∀c,o.op≠ .defer c) (he:(execOp a.eval o).run prog w= .ok (.value V) X)
  (h:wpListIn F n prog ops Q rest (a.put o.dst V) X):wpListIn F n prog ops Q (o::rest) a w:=by
 refine BigFrame.wpListIn_want hw fun K hK=> ?_
 refine⟨fun f _=>hF f, ?_⟩
 have e:o.semAt F.round a.eval=execOp a.eval o:=by
  cases F.round with
  |none=>rfl
  |some l=>exact Oper.semAt_some l _ _ hnd
 rw[e,he]
 exact hK _ _ h
theorem inS (hF: ∀f,F.fn f)  (hnd: ∀c,o.op≠ .defer c) (he:(execOp a.eval o).run prog w= .ok .skip X)
  (h:wpListIn F n prog ops Q rest (a.put o.dst undef) X) (hw:Region.wanted o (yielded ops a.tmps)=true:=by rfl):wpListIn F n prog ops Q (o::rest) a w:=by
 refine BigFrame.wpListIn_want hw fun K hK=> ?_
 refine⟨fun f _=>hF f, ?_⟩
 have e:o.semAt F.round a.eval=execOp a.eval o:=by
  cases F.round with
  |none=>rfl
  |some l=>exact Oper.semAt_some l _ _ hnd
 rw[e,he]
 exact hK _ _ h
theorem Gi {t:TypeId} {b p:Nat} {cs vs:List Value} {v:Value} {x y:Operand} (ho:o.op= .store t x y) (hx:a.eval x= .pointer (some ⟨b,p,none⟩)) (hy:a.eval y=v) (hv:v.cells.toList=vs) (h1: ∀u∈vs,u.oneCell'=true) (hi:(prog.info? t).map (·.size)=some vs.length) (hH:Holds w b cs) (hp:p+vs.length<=cs.length):
  (execOp a.eval o).run prog w= .ok .skip (w.setCells b p vs):=by
 unfold execOp
 simp only[ho,hx,hy,Instr.storeAt,Instr.sureAddr,Sem.run_bind,Sem.run_pure,Result.andThen_ok,Dw w b p t v vs hv (hH.there p vs.length hp) hi h1]
theorem ZaS (ho:o.op= .alloc 37):(execOp a.eval o).run prog w= .ok (.value (.pointer (some ⟨w.heap.size,0,none⟩))) (w.alloc (Obj.cells Jg.cs.toArray 37)):=by
 unfold execOp
 simp only[ho]
 simp[go_sem,Tryz.zeroValue37]
 rfl
theorem Zez (ho:o.op= .alloc 43):(execOp a.eval o).run prog w= .ok (.value (.pointer (some ⟨w.heap.size,0,none⟩))) (w.alloc (Obj.cells zeroD.cs.toArray 43)):=by
 unfold execOp
 simp only[ho]
 simp[go_sem,Tryz.zeroValue43]
 rfl
theorem Mb {t e:TypeId} {size bytes:Nat} {z v:Value} {cs:List Value} {x:Operand} (ho:o.op= .buildSlice t 1 #[(0,x)]) (hx:a.eval x=v)
  (ht:prog.underlying t=some (.slice e)) (hi:(prog.info? e).map (fun i=>(i.zero,i.size,i.bytes))=some (some z,size,bytes)) (hs1:size<=100) (hv:v.cells.toList=cs) (hc:cs.length=size) (h0:0<size):
  (execOp a.eval o).run prog w= .ok (.value (.slice (some ⟨w.heap.size,0,none⟩) 1 1)) (w.alloc (Obj.cells cs.toArray e)):=by
 obtain⟨i0,hi,hz0,hz1,hz2⟩:=info_parts hi
 have ev:v.cells=cs.toArray:=by rw[←hv]
 have es:v.cells.size=size:=by rw[ev];simpa using hc
 have hr:=run_buildSlice w t e 1 #[(0,v)] cs.toArray i0 _ ht hi hz0 (by rw[hz1];omega) (by rw[hz1];omega) (by
  rw[hz1,←ev]
  exact Vk size _ v (by simp) es)
 unfold execOp
 simp only[ho,List.map_toArray,List.map_cons,List.map_nil,hx]
 simp[hr]
theorem Zgq {t e:TypeId} {size bytes k m c B base:Nat} {z v:Value} {xs news:List Value} {s x:Operand} (ho:o.op= .call {callee:= .builtin .append,args:= #[s,x],argTypes:= #[t,t]}) (hs:a.eval s=v) (hx:a.eval x= .slice (some ⟨B,0,none⟩) m c)
  (ht:prog.underlying t=some (.slice e)) (hi:(prog.info? e).map (fun i=>(i.zero,i.size,i.bytes))=some (some z,size,bytes)) (hz:z.cells.size=size) (hsz:0<size) (hown:w.ownsRow base e size v k xs) (hB:Holds w B news) (hl:news.length=m * size) (h1: ∀u∈news,u.oneCell'=true)
  (hn:k+m<=4000000) (hby:bytes<=10000) (hbase:base<=w.heap.size):
  ∃A c' w',(execOp a.eval o).run prog w= .ok (.value (.slice A (k+m) c')) w'/\w'.ownsRow base e size (.slice A (k+m) c') (k+m) (xs++news)/\w.grownBy w' v.ownBlock:=by
 obtain⟨i0,hi,hz0,hz1,hz2⟩:=info_parts hi
 obtain⟨v',w',hrun,h2,h3,h4⟩:=Jr w base t o.type e i0 _ size bytes ht hi hz0 hz1 hz2 hz hsz v k xs hown ⟨B,0,none⟩ m c news hl (fun j u hj=>by
  rw[Addr.add_mid]
  exact hB.2 j u hj) h1 (by unfold maxLen;omega) (Nat.le_trans (Nat.mul_le_mul hn hby) (by decide)) hbase
 obtain⟨A',c',rfl⟩:=Ex h2
 refine⟨A',c',w', ?_,h2,h3⟩
 simp[execOp,ho,resolve,invoke,builtin,hs,hx,hrun,Result.andThen]
end
theorem appI {F:Fence} {n:Nat} {ops:Array Oper} {rest:List Oper} {Q:Exit->Act->World->Prop} {w:World} {a:Act} {o:Oper} {t e:TypeId} {size bytes k m c B base:Nat} {z v:Value} {xs news:List Value} {s x:Operand} (hF: ∀f,F.fn f)  (ho:o.op= .call {callee:= .builtin .append,args:= #[s,x],argTypes:= #[t,t]}) (hs:a.eval s=v) (hx:a.eval x= .slice (some ⟨B,0,none⟩) m c)
  (ht:prog.underlying t=some (.slice e)) (hi:(prog.info? e).map (fun i=>(i.zero,i.size,i.bytes))=some (some z,size,bytes)) (hz:z.cells.size=size)  (hown:w.ownsRow base e size v k xs) (hB:Holds w B news) (hl:news.length=m * size) (h1: ∀u∈news,u.oneCell'=true)
    (hbase:base<=w.heap.size)
  (h: ∀A c' w',w'.ownsRow base e size (.slice A (k+m) c') (k+m) (xs++news)->w.grownBy w' v.ownBlock->wpListIn F n prog ops Q rest (a.put o.dst (.slice A (k+m) c')) w') (hw:Region.wanted o (yielded ops a.tmps)=true:=by rfl) (hsz:0<size:=by decide) (hn:k+m<=4000000:=by omega) (hby:bytes<=10000:=by decide):wpListIn F n prog ops Q (o::rest) a w:=by
 obtain⟨A,c',w',he,h2,h3⟩:=Zgq ho hs hx ht hi hz hsz hown hB hl h1 hn hby hbase
 exact inV hF hw (fun c e=>by rw[ho] at e;cases e) he (h A c' w' h2 h3)
theorem Yt {W:World} {B:Nat} {t:TypeId} {v:Value} (h:Boxed W B t v):Holds W B [v]:=by
 refine⟨fun j=>by simp[World.frozen?,show W.heap[B]? =_ from h],fun j u hu=> ?_⟩
 obtain rfl:j=0:=by
  have:=(List.getElem?_eq_some_iff.1 hu).1
  simpa using this
 obtain rfl:v=u:=by simpa using hu
 exact h.cell
theorem ZbV {β:Type} (B:Nat) (t:TypeId) (v:Value):Own (fun (_:β) W=>Boxed W B t v):=by
 intro s X Y row hv hg hrow
 refine hv.kept hg (fun e'=> ?_)
 obtain⟨o,ho,hc⟩:=hrow B e'.symm
 rw[show X.heap[B]? =_ from hv] at ho;cases ho;cases hc
theorem Xs {X Y:World} {row:Option Nat} {b:Nat} {cs:List Value} (h:Holds X b cs)  (hg:X.grownBy Y row) (hrow: ∀r,row=some r-> ∃o:Obj,X.heap[r]? =some o/\o.isCells=false) (hc:0<cs.length:=by exact Nat.succ_pos _):Holds Y b cs:=by
 refine h.block (hg.block b (h.lt hc) (fun e'=> ?_))
 obtain⟨o,ho,hco⟩:=hrow b e'.symm
 have h0:=h.cell 0 (List.getElem?_eq_getElem hc)
 cases o<;>simp[World.cell?,ho] at h0<;>simp[Obj.isCells] at hco
theorem Zci (W:World) (c0 cs:List Value) (t:TypeId) (hc:cs.length<=c0.length) (he:Bt c0 0 cs=cs)  (h0:0<c0.length:=by exact Nat.succ_pos _):Below W.heap.size W ((W.alloc (Obj.cells c0.toArray t)).setCells W.heap.size 0 cs)/\Holds ((W.alloc (Obj.cells c0.toArray t)).setCells W.heap.size 0 cs) W.heap.size cs/\((W.alloc (Obj.cells c0.toArray t)).setCells W.heap.size 0 cs).heap.size=W.heap.size+1:=by
 refine⟨Mp (Nat.le_refl _) _ _ _ ((Below.refl _ _).alloc (Nat.le_refl _) _), ?_,by rw[Eu];simp⟩
 have:=(Holds.new W c0 t).put 0 cs (by omega)
 rw[he] at this
 exact this
theorem kb_t {n₀ Bn:Nat} {A B C:World} (h:Kb n₀ Bn A B) (k:Kb n₀ Bn B C):Kb n₀ Bn A C:=⟨h.1.trans k.1,k.2.trans h.2⟩
theorem kb_b {n₀ Bn:Nat} {w:World} (hn:n₀<=w.heap.size) (hB:Bn<w.heap.size) (W:World) (l:Nat) (o o':Obj) (hl:w.heap.size<=l) (h:W.heap[l]? =some o) (h1:o.isCells=false) (h2:o.isWalk=false):Kb n₀ Bn W (W.putObj l o'):=
 ⟨belowK_b hn W l o o' hl h h1 h2,by
  show (W.heap.setIfInBounds l o')[Bn]? =_
  rw[Array.getElem?_setIfInBounds_ne (by omega)]⟩
theorem siz61:(prog.info? 49).map (·.size)=some 1:=by kernel_rfl
theorem Qw {w w':World} {base e size n:Nat} {v:Value} {xs:List Value} (h:w.ownsRow base e size v n xs) (he: ∀g,v.ownBlock=some g->w'.heap[g]? =w.heap[g]?):w'.ownsRow base e size v n xs:=by
 obtain⟨h1,h2⟩:=h
 refine⟨h1, ?_⟩
 rcases h2 with h2|⟨g,cap,cur,rfl,h3,h4,h5⟩
 ·exact .inl h2
 ·exact .inr ⟨g,cap,cur,rfl,h3,(he g rfl).trans h4,h5⟩
theorem Zcs:(prog.info? 80).map (fun i=>(i.zero,i.size,i.bytes))=some (some (.agg (Jg.cs++zeroD.cs).toArray),20,192):=by kernel_rfl
def Lv (l:List (KK×DD)):List Value:=l.flatMap (fun x=>x.1.cs++x.2.cs)
theorem Zcx (l m:List (KK×DD)):Lv (l++m)=Lv l++Lv m:=by unfold Lv;rw[List.flatMap_append]
theorem Zgl (x:KK×DD):Lv [x]=x.1.cs++x.2.cs:=by simp[Lv]
theorem ZaU (T:TT) (n:Nat)  (Bn n₀:Nat) (w:World) (hT:T.Is w) (hlast:T.last<4000000) (hlt: ∀b∈T.blocks,b<n₀) (hBs:Bn<w.heap.size) (hBn:w.cell? ⟨Bn,0,none⟩=some (.pointer (some ⟨T.t,0,none⟩))) (hn₀:n₀<=w.heap.size) (hn:1<=n:=by omega):
  SeqStopsK Fence.wide n prog 152 #[.pointer (some ⟨Bn,0,none⟩)] encP (Kb n₀ Bn) (fun ys=>ys=T.live.map RR.pr) (fun pre=>pre<+:T.live.map RR.pr) T.live.length w:=by
 intro l J Jx W hW hJ hJx hY h0
 exact each_in n hn l Bn n₀ T J Jx W hJ (hT.on hW) hlast hlt hY ((hW.cell (p:=⟨Bn,0,none⟩) hBs).trans hBn) h0 (by have:=hW.size;omega)
theorem props27 (T:TT) (w:World) (hT:T.Is w) (hlast:T.last<4000000) (hl:T.live.length<=800000):Calls prog 79 #[.pointer (some ⟨T.t,0,none⟩)] w fun e w'=> ∃v,e= .returned v/\w'.ownsRow w.heap.size 80 20 v T.live.length (Lv (T.live.map RR.pr))/\Below w.heap.size w w':=by
 refine(callsIn_wide (n:=4)).1 ?_
 have HL:=Ab (len30 T w hT)
 have HE:=Ab (fun X=>each41 T X)
 have HT:=Ab hT
 clear hT
 refine callsIn_of_wp_marks func79 rfl trivial ?_ rfl
 simp only[ntmps79,List.size_toArray,List.length_cons,List.length_nil,Nat.reduceAdd,Nat.reduceSub,Array.replicate_succ,Array.replicate_zero,List.push_toArray,List.append_toArray,List.nil_append,List.cons_append]
 gi_wp2_with fail
 refine⟨trivial,(callsIn_wide.2 (Aa HL)).mono ?_⟩
 rintro e w1 ⟨rfl,rfl⟩
 obtain⟨i0,hi,hz0,hz1,hz2⟩:=info_parts Zcs
 obtain⟨wm,hrun,hm1,hm2⟩:=run_makeSlice_owned (P:=prog) w1 w1.heap.size 49 80 i0 _ 20 underlying49 hi hz0 hz1 .i64 .i64 T.live.length (by omega) (by rw[hz2];omega) (by unfold maxLen;omega) (Nat.le_refl _)
 gi_wp2_with fail
 refine⟨trivial,(callsIn_wide.2 ((Aa HE) _)).mono ?_⟩
 rintro e w2 ⟨rfl,rfl⟩
 have hms:=hm2.size
 have hbm:Below w1.heap.size w1 wm:=⟨hm2.os,hm2.tape,hm2.output,hm2.size,fun k hk=>hm2.block k hk (by simp)⟩
 have b3:Boxed (wm.alloc (.cells #[.slice (some ⟨w1.heap.size,0,none⟩) 0 T.live.length] 49)) wm.heap.size 49 (.slice (some ⟨w1.heap.size,0,none⟩) 0 T.live.length):=Boxed.new wm 49 _
 have bn:Boxed ((wm.alloc (.cells #[.slice (some ⟨w1.heap.size,0,none⟩) 0 T.live.length] 49)).alloc (.cells #[.pointer (some ⟨T.t,0,none⟩)] 151)) (wm.heap.size+1) 151 (.pointer (some ⟨T.t,0,none⟩)):=by
  have:=Boxed.new (wm.alloc (.cells #[.slice (some ⟨w1.heap.size,0,none⟩) 0 T.live.length] 49)) 151 (.pointer (some ⟨T.t,0,none⟩))
  rwa [World.size_alloc] at this
 have hB0:Below w1.heap.size w1 ((wm.alloc (.cells #[.slice (some ⟨w1.heap.size,0,none⟩) 0 T.live.length] 49)).alloc (.cells #[.pointer (some ⟨T.t,0,none⟩)] 151)):=(hbm.alloc hms _).alloc (by simp;omega) _
 have hT3:=(Aa HT).on hB0
 have hlt3:=(Aa HT).lt
 have HTT:=HT
 clear HL HE
 gi_wp2
 try simp only[World.size_alloc]
 refine wpIn_rangeFunc_ownH (α:=KK×DD) rfl (by omega) (gf:=152) (lb:= #[.pointer (some ⟨wm.heap.size+1,0,none⟩)]) rfl trivial (enters_of func152 (by kernel_rfl) rfl)
  (ZaU T 3 (wm.heap.size+1) w1.heap.size _ hT3 hlast hlt3 (by simp) bn.cell (by simp;omega)) kb_t (kb_b (by simp;omega) (by simp)) (Below.refl _ _) (fun _=>rfl)
  (fun pre W=>(∃v,Boxed W wm.heap.size 49 v/\W.ownsRow w1.heap.size 80 20 v pre.length (Lv pre)/\True)/\Boxed W (wm.heap.size+1) 151 (.pointer (some ⟨T.t,0,none⟩))/\Below w1.heap.size w1 W)
  (fun _ _ _=>False)
  (OwnFrom.and (Own.from (holdsRow_own w1.heap.size wm.heap.size 49 80 20 (fun pre:List (KK×DD)=>pre.length) (fun pre=>Lv pre) (fun _ _=>True)) _) (OwnFrom.and (Own.from (ZbV _ _ _) _) (ownFrom_below (Nat.le_refl _) (by simp;omega))))
  (fun _ _ _ _ _ hs _ _=>hs)
  ⟨⟨_,b3.alloc _,(hm1.alloc _).alloc _,trivial⟩,bn,hB0⟩
  (fun x a' W=> ∃Bk Bd,a'={tmps:= #[.pointer (some ⟨T.t,0,none⟩),undef, .slice none 0 0, .pointer (some ⟨wm.heap.size,0,none⟩), .pointer (some ⟨Bk,0,none⟩), .pointer (some ⟨Bd,0,none⟩), .pointer (some ⟨T.t,0,none⟩), .int .i64 T.live.length, .slice (some ⟨w1.heap.size,0,none⟩) 0 T.live.length, .pointer (some ⟨T.t,0,none⟩), .func (.func 152) #[] #[.pointer (some ⟨wm.heap.size+1,0,none⟩)],x.1.agg,x.2.agg,undef,undef,undef,undef,undef,undef,undef],defers:= []}/\Holds W Bk x.1.cs/\Holds W Bd x.2.cs)
  (fun x a' _ X Y row hs hg hr=>by
   obtain⟨Bk,Bd,h1,h2,h3⟩:=hs
   exact⟨Bk,Bd,h1,Xs h2 hg (fun r e=>(hr r e).2),Xs h3 hg (fun r e=>(hr r e).2)⟩)
  ?assign ?body ?done ?stop
 case assign=>
  intro l pre x W K hI hK
  simp only[encP]
  obtain⟨p1,p2,p3⟩:=Zci W Jg.cs x.1.cs 37 (Nat.le_refl _) rfl
  obtain⟨X1,hX1⟩: ∃X1,X1=(W.alloc (Obj.cells Jg.cs.toArray 37)).setCells W.heap.size 0 x.1.cs:=⟨_,rfl⟩
  rw[←hX1] at p1 p2 p3
  obtain⟨q1,q2,q3⟩:=Zci X1 zeroD.cs x.2.cs 43 (Nat.le_refl _) rfl
  obtain⟨X2,hX2⟩: ∃X2,X2=(X1.alloc (Obj.cells zeroD.cs.toArray 43)).setCells X1.heap.size 0 x.2.cs:=⟨_,rfl⟩
  rw[←hX2] at q1 q2 q3
  have HK:=Ab (hK)
  have hb2:Below W.heap.size W X2:=p1.trans (q1.mono (by omega))
  have hg2:W.grownBy X2 none:=Eg hb2
  have hI2:Hid _:=Ab hI
  clear hK hI
  have ht:((#[11,12]:Array Tmp).zip #[x.1.agg,x.2.agg]).foldl (fun t x=>t.setIfInBounds x.1 x.2) (#[.pointer (some ⟨T.t,0,none⟩),undef, .slice none 0 0, .pointer (some ⟨wm.heap.size,0,none⟩),undef,undef, .pointer (some ⟨T.t,0,none⟩), .int .i64 T.live.length, .slice (some ⟨w1.heap.size,0,none⟩) 0 T.live.length, .pointer (some ⟨T.t,0,none⟩), .func (.func 152) #[] #[.pointer (some ⟨wm.heap.size+1,0,none⟩)],undef,undef,undef,undef,undef,undef,undef,undef,undef]:Array Value)= #[.pointer (some ⟨T.t,0,none⟩),undef, .slice none 0 0, .pointer (some ⟨wm.heap.size,0,none⟩),undef,undef, .pointer (some ⟨T.t,0,none⟩), .int .i64 T.live.length, .slice (some ⟨w1.heap.size,0,none⟩) 0 T.live.length, .pointer (some ⟨T.t,0,none⟩), .func (.func 152) #[] #[.pointer (some ⟨wm.heap.size+1,0,none⟩)],x.1.agg,x.2.agg,undef,undef,undef,undef,undef,undef,undef]:=by simp
  rw[ht]
  gi_wp2_with (first|go_skip|((refine inV (fun _=>trivial) (by rfl) (by intro c h;cases h) (ZaS rfl) ?_);simp only[nn])|((refine inS (fun _=>trivial) (by intro c h;cases h) (Gi (t:=37) (vs:=x.1.cs) rfl rfl rfl rfl (by simp[KK.cs,Value.oneCell']) Kh (Holds.new W Jg.cs 37) (Nat.le_refl _)) ?_);rw[←hX1];simp only[nn])|((refine inV (fun _=>trivial) (by rfl) (by intro c h;cases h) (Zez rfl) ?_);simp only[nn])|((refine inS (fun _=>trivial) (by intro c h;cases h) (Gi (t:=43) (vs:=x.2.cs) rfl rfl rfl rfl (by simp[DD.cs,VV.cs,Value.oneCell']) Pm (Holds.new X1 zeroD.cs 43) (Nat.le_refl _)) ?_);rw[←hX2];simp only[nn]))
  obtain⟨⟨v,hv,hrow, -⟩,hbn,hB⟩:=Aa hI2
  have hsz:=hB.size
  refine(Aa HK) _ X2 (KeepsFrom.of_grownBy hg2 (fun j e=>by cases e)) ⟨hb2.mono hsz,hb2.block _ hbn.lt⟩ ⟨⟨v,hv.kept hg2 (by simp),Qw hrow (fun g hg=>hb2.block g (World.ownsRow.lt hrow g hg).2),trivial⟩,hbn.kept hg2 (by simp),hB.trans (hb2.mono hsz)⟩ ⟨W.heap.size,X1.heap.size,rfl,p2.block (q1.block _ (by omega)),q2⟩
 case body=>
  rintro l pre x a' W hl2 hloop ⟨⟨v,hv,hrow, -⟩,hbn,hB⟩ ⟨Bk,Bd,rfl,hk,hd⟩ hlen
  have Hk:=Ab hk
  have Hd:=Ab hd
  have Hv:=Ab hv
  have Hrow:=Ab hrow
  have Hbn:=Ab hbn
  have HB:=Ab hB
  clear hk hd hv hrow hbn hB hloop
  refine wpIn_block ?_
  refine wpIn_region_lit ?_
  refine inV (fun _=>trivial) (by rfl) (by intro c h;cases h) (Jn (B:=wm.heap.size) (p:=0) (v:=v) 49 isAgg49 rfl rfl (Aa Hv).cell) ?_
  simp only[nn]
  refine inV (fun _=>trivial) (by rfl) (by intro c h;cases h) (Af (B:=Bk) (p:=0) (cs:=x.1.cs) (vs:=x.1.cs) 37 2 Jh Kh rfl rfl (Aa Hk) rfl rfl) ?_
  simp only[nn]
  refine inV (fun _=>trivial) (by rfl) (by intro c h;cases h) (Af (B:=Bd) (p:=0) (cs:=x.2.cs) (vs:=x.2.cs) 43 18 Zag Pm rfl rfl (Aa Hd) rfl rfl) ?_
  simp only[nn]
  refine inV (fun _=>trivial) (by rfl) (by intro c h;cases h) (ZaR (k:=x.1) (d:=x.2) rfl rfl rfl) ?_
  simp only[nn]
  refine inV (fun _=>trivial) (by rfl) (by intro c h;cases h) (Mb (t:=49) (e:=80) (v:= .agg (x.1.cs++x.2.cs).toArray) (cs:=x.1.cs++x.2.cs) rfl rfl underlying49 Zcs (by decide) rfl rfl (by decide)) ?_
  simp only[nn]
  refine appI (v:=v) (B:=W.heap.size) (m:=1) (c:=1) (fun _=>trivial) rfl rfl rfl underlying49 Zcs rfl ((Aa Hrow).alloc _) (Holds.new W (x.1.cs++x.2.cs) 80) rfl (by simp[KK.cs,DD.cs,VV.cs,Value.oneCell']) (by have:=(Aa HB).size;simp;omega) ?_
  intro A c' w4 ho4 hg4
  have HA:=Ab ((Aa Hv).appended (by decide) (Aa Hrow) (Aa HB).size hms ho4 hg4)
  have HG:=Ab hg4
  clear ho4 hg4
  simp only[nn]
  refine inS (fun _=>trivial) (by intro c h;cases h) (Gi (t:=49) (b:=wm.heap.size) (p:=0) (cs:= [v]) (vs:= [.slice A (pre.length+1) c']) rfl rfl rfl rfl (by simp[Value.oneCell']) siz61 (Yt (Aa HA).1) (Nat.le_refl _)) ?_
  simp only[nn]
  refine wpListIn_nil ?_
  obtain⟨h1,h2,h3,h4,h5⟩:=Aa HA
  have hbn:=Aa Hbn
  have hB:=Aa HB
  have hne:some (wm.heap.size+1)≠v.ownBlock:=hbn.not_row (by decide) (Aa Hrow)
  have eb:(w4.setCell ⟨wm.heap.size,0,none⟩ (Value.slice A (pre.length+1) c')).heap[wm.heap.size+1]? =W.heap[wm.heap.size+1]? :=by
   rw[Below.heap_setCell _ _ _ _ (by show wm.heap.size+1≠wm.heap.size;omega),(Aa HG).block _ (by have:=hbn.lt;simp;omega) hne,Below.heap_alloc _ _ _ hbn.lt]
  refine⟨h4.from _,⟨h5,eb⟩,⟨⟨_,h2, ?_,trivial⟩,eb.trans hbn,hB.trans h5⟩⟩
  rw[Zcx,Zgl,List.length_append]
  exact h3
 case done=>
  rintro D ys W hD rfl ⟨⟨v,hv,hrow, -⟩,hbn,hB⟩ hK
  have hc:=hv.cell
  gi_wp2
  refine⟨by simp, .inl ⟨_,_,rfl,run_takeDeferred hK, ?_⟩⟩
  refine⟨_,results_tmp rfl _ _ _,_,rfl, ?_,hB.trans (belowK_b (w:=w1) (Nat.le_refl _) W D _ _ (by simp at hD;omega) hK rfl rfl)⟩
  have:=ownsRow_putObj hrow (.deferred none) hK rfl
  simpa using this
 case stop=>
  rintro D c pre W _ _ h _
  exact h.elim
end
section
open Go Go.Proofs Go.Maps Go.RowKit
attribute [local go_sem] Oper.semAt_some
theorem siz64:(Tryz.prog.info? 48).map (·.size)=some 1:=by kernel_rfl
end
section
open Go Go.Proofs Go.Maps Go.RowKit Tryz
theorem ZbA {w:World} {base e s n g c:Nat} {xs:List Value} (h:w.ownsRow base e s (.slice (some ⟨g,0,none⟩) n c) n xs):Holds w g xs:=by
 refine⟨fun j=> ?_,fun j u hu=> ?_⟩
 ·rcases h.2 with ⟨h1, -⟩|⟨g',cap,cur,h1,h2,h3, -⟩
  ·cases h1
  ·cases h1
   simp[World.frozen?,h3]
 ·have:=h.cells (g:=g) rfl j u hu
  rwa [Addr.add_mid] at this
theorem TT.find_none {T:TT} {k:KK} (h:T.find k=none): ∀r∈T.live,r.k≠k:=by
 intro r hr
 have:=List.find?_eq_none.1 h r hr
 simpa using this
theorem Zan {α β:Type} {f:α->β} {l:List α} (h:l.Pairwise (fun a b=>f a≠f b)) {a b:α} (ha:a∈l) (hb:b∈l) (he:f a=f b):a=b:=by
 induction l with
 |nil=>cases ha
 |cons x l ih=>
  obtain⟨h1,h2⟩:=List.pairwise_cons.1 h
  rcases List.mem_cons.1 ha with e1|ha'
  ·rcases List.mem_cons.1 hb with e2|hb'
   ·rw[e1,e2]
   ·rw[e1] at he
    exact absurd he (h1 b hb')
  ·rcases List.mem_cons.1 hb with e2|hb'
   ·rw[e2] at he
    exact absurd he.symm (h1 a ha')
   ·exact ih h2 ha' hb'
theorem Zc9 {w:World} {base e s n:Nat} {A:Option Addr} {c:Nat} {xs:List Value} (h:w.ownsRow base e s (.slice A n c) n xs) (hn:0<n): ∃g,A=some ⟨g,0,none⟩/\base<=g/\g<w.heap.size:=by
 rcases h.2 with ⟨h1,h2⟩|⟨g,cap,cur,h1,h2⟩
 ·omega
 ·have hA:A=some ⟨g,0,none⟩:=by injection h1
  subst hA
  have:=World.ownsRow.lt h g rfl
  exact⟨g,rfl,this.1,this.2⟩
theorem stx {ops:Array Oper} {rest:List Oper} {Q:Exit->Act->World->Prop} {w:World} {a:Act} {o:Oper} {t:TypeId} {b p:Nat} {cs vs:List Value} {v:Value} {x y:Operand} (hw:Region.wanted o (yielded ops a.tmps)=true) (ho:o.op= .store t x y) (hx:a.eval x= .pointer (some ⟨b,p,none⟩)) (hy:a.eval y=v) (hv:v.cells.toList=vs) (h1: ∀u∈vs,u.oneCell'=true) (hi:(prog.info? t).map (·.size)=some vs.length) (hH:Holds w b cs) (hp:p+vs.length<=cs.length)
  (h:wpList prog ops Q rest (a.put o.dst undef) (w.setCells b p vs)):wpList prog ops Q (o::rest) a w:=by
 refine BigFrame.wpList_want hw fun K hK=> ?_
 have hP:=hK _ _ h
 unfold Oper.wp
 rw[Gi ho hx hy hv h1 hi hH hp]
 exact hP
theorem good_ok {k:KK} (h:goodK k=true):OkK k:=by
 have h1:=ZaG h
 have h2:=Zft h
 refine⟨by unfold maxLen;omega, ?_⟩
 show (decide (IntKind.i64.min<=k.n) && decide (k.n<=IntKind.i64.max))=true
 have e1:IntKind.i64.min= -9223372036854775808:=by decide
 have e2:IntKind.i64.max=9223372036854775807:=by decide
 rw[e1,e2,Bool.and_eq_true]
 exact⟨decide_eq_true (by omega),decide_eq_true (by omega)⟩
def ZaH (r:RR):RR:=⟨r.b,Jg,zeroD,r.n,true⟩
theorem ZdB {o:Oper} {a:Act} {w:World} {x c:Operand} {n:Nat} (ho:o.op= .build 206 #[(1,x),(2,c)]) (hx:a.eval x= .int .u64 (n:Nat)) (hc:a.eval c= .bool true):(execOp a.eval o).run prog w= .ok (.value (.agg (RR.mk 0 Jg zeroD n true).cs.toArray)) w:=by
 have e:(Instr.build 206 #[(1, .int .u64 (n:Nat)),(2, .bool true)]).run prog w= .ok (.agg (RR.mk 0 Jg zeroD n true).cs.toArray) w:=by kernel_rfl
 unfold execOp
 simp only[ho,List.map_toArray,List.map_cons,List.map_nil,hx,hc]
 simp[e]
theorem siz77 (r:RR):(prog.info? 206).map (·.size)=some r.cs.length:=by rw[Ed];kernel_rfl
theorem one77 (r:RR): ∀u∈r.cs,u.oneCell'=true:=by simp[RR.cs,KK.cs,DD.cs,VV.cs,Value.oneCell']
theorem leave37 (r:RR) (w:World) (h:Holds w r.b r.cs):Calls prog 219 #[.pointer (some ⟨r.b,0,none⟩)] w fun e w'=>e= .returned (.tuple #[])/\Holds w' r.b (ZaH r).cs/\Fr w w' [r.b]:=by
 have HH:=Ab h
 clear h
 go_enter func219,ntmps219
 go_wp2_with (first|go_skip|((with_reducible show wpList ..);first|(refine rd rfl (Ad 114 isAgg114 rfl rfl (Aa HH) rfl) ?_)|(refine rd rfl (ZdB rfl rfl rfl) ?_)|((with_reducible apply stx (t:=206) (b:=r.b) (p:=0) (cs:=r.cs) (vs:=(RR.mk 0 Jg zeroD r.n true).cs) (v:= .agg (RR.mk 0 Jg zeroD r.n true).cs.toArray));(case hw|ho|hx|hy=>rfl);(case hv=>exact rfl);(case h1=>exact one77 _);(case hi=>exact siz77 _);(case hH=>exact Aa HH);(case hp=>exact(by simp[Ed]));simp only[nn])))
 go_end0
 refine⟨rfl, ?_,Fr.setCells _ _ _ _⟩
 have:=(Aa HH).put 0 (RR.mk 0 Jg zeroD r.n true).cs (by simp[Ed])
 exact this
theorem Np {w:World} {base base' e s n:Nat} {v:Value} {xs:List Value} (h:w.ownsRow base e s v n xs) (hb:base'<=base):w.ownsRow base' e s v n xs:=by
 obtain⟨h1,h2⟩:=h
 refine⟨h1, ?_⟩
 rcases h2 with h2|⟨g,cap,cur,rfl,h3,h4⟩
 ·exact .inl h2
 ·exact .inr ⟨g,cap,cur,rfl,Nat.le_trans hb h3,h4⟩
def TT.packed (T:TT) (m:Nat) (rv:Value):TT:=⟨T.t,m,rv,T.live,T.last⟩
theorem TT.packed_live (T:TT) (m:Nat) (rv:Value):(T.packed m rv).live=T.live:=by
 unfold TT.packed TT.live
 simp
theorem TT.packed_find (T:TT) (m:Nat) (rv:Value) (k:KK):(T.packed m rv).find k=T.find k:=by
 unfold TT.find
 rw[TT.packed_live]
theorem TT.live_rows {T:TT} (h:T.rows.length - T.live.length=0):T.live=T.rows:=by
 have h1:=T.live_le
 unfold TT.live at *
 rw[List.filter_eq_self]
 exact List.length_filter_eq_length_iff.1 (by omega)
structure TApart (T:TT):Prop where
 tm:T.t≠T.m
 tv: ∀g,T.rv.ownBlock=some g->g≠T.t/\g≠T.m/\g ∉ T.rows.map (·.b)
 tr:T.t ∉ T.rows.map (·.b)
 mr:T.m ∉ T.rows.map (·.b)
 rr:(T.rows.map (·.b)).Nodup
theorem TT.apart {T:TT} (h:T.blocks.Nodup):TApart T:=by
 unfold TT.blocks at h
 rw[List.nodup_cons,List.nodup_cons,List.nodup_append] at h
 obtain⟨h1,h2,h3,h4,h5⟩:=h
 simp only[List.mem_cons,List.mem_append,not_or] at h1 h2
 refine⟨h1.1,fun g hg=>⟨fun e=>h1.2.1 (by rw[hg,e];simp),fun e=>h2.1 (by rw[hg,e];simp),fun hm=>h5 g (by rw[hg];simp) g hm rfl⟩,h1.2.2,h2.2,h4⟩
theorem TApart.nodup {T:TT} (h:TApart T):T.blocks.Nodup:=by
 unfold TT.blocks
 rw[List.nodup_cons,List.nodup_cons,List.nodup_append]
 refine⟨?_, ?_, ?_,h.rr, ?_⟩
 ·simp only[List.mem_cons,List.mem_append,not_or]
  refine⟨h.tm,fun hm=> ?_,h.tr⟩
  exact(h.tv T.t (by simpa using hm)).1 rfl
 ·simp only[List.mem_append,not_or]
  exact⟨fun hm=>(h.tv T.m (by simpa using hm)).2.1 rfl,h.mr⟩
 ·cases T.rv.ownBlock<;>simp
 ·intro a ha b hb e
  subst e
  exact(h.tv a (by simpa using ha)).2.2 hb
theorem Nq (T:TT): ∀b∈T.live.map (·.b),b∈T.rows.map (·.b):=by
 intro b hb
 obtain⟨r,hr,rfl⟩:=List.mem_map.1 hb
 exact List.mem_map.2 ⟨r,(List.mem_filter.1 hr).1,rfl⟩
theorem TApart.packed {T:TT} (h:TApart T) {m:Nat} {rv:Value} (hm:m=T.m∨m ∉ T.blocks) (hv: ∀g,rv.ownBlock=some g->(T.rv.ownBlock=some g∨g ∉ T.blocks)/\g≠m):TApart (T.packed m rv):=by
 have hmt:T.t≠m:=by
  rcases hm with rfl|hm
  ·exact h.tm
  ·intro e;exact hm (by rw[←e];simp[TT.blocks])
 have hrb: ∀b∈T.rows.map (·.b),b∈T.blocks:=fun b hb=>by
  unfold TT.blocks
  simp only[List.mem_cons,List.mem_append]
  exact .inr (.inr (.inr hb))
 refine⟨hmt,fun g hg=>⟨?_,(hv g hg).2, ?_⟩,fun hx=>h.tr (Nq T _ hx),fun hx=> ?_, ?_⟩
 ·intro e
  rcases (hv g hg).1 with h1|h1
  ·exact(h.tv g h1).1 e
  ·exact h1 (by rw[e];simp[TT.blocks,TT.packed])
 ·intro hx
  rcases (hv g hg).1 with h1|h1
  ·exact(h.tv g h1).2.2 (Nq T _ hx)
  ·exact h1 (hrb _ (Nq T _ hx))
 ·rcases hm with rfl|hm
  ·exact h.mr (Nq T _ hx)
  ·exact hm (hrb _ (Nq T _ hx))
 ·exact List.Sublist.nodup (List.Sublist.map _ List.filter_sublist) h.rr
theorem TT.Is.pack {T:TT} {w X:World} {m:Nat} {rv:Value} (hT:T.Is w) (htab:Holds X T.t [.map (some m),rv, .int .u64 T.last]) (hmap:MapIs X m T.last T.live.length (fun k=>(T.find k).map (·.b))) (hown:OwnP X rv (T.live.map (·.b))) (hrows: ∀r∈T.live,Holds X r.b r.cs)
  (hm:m=T.m∨m ∉ T.blocks) (hv: ∀g,rv.ownBlock=some g->(T.rv.ownBlock=some g∨g ∉ T.blocks)/\g≠m):(T.packed m rv).Is X:=by
 have hf:(fun k=>((T.packed m rv).find k).map (·.b))=(fun k=>(T.find k).map (·.b)):=by
  funext k
  rw[TT.packed_find]
 refine⟨htab, ?_,hown,hrows,((TT.apart hT.nd).packed hm hv).nodup,hT.rise.sublist List.filter_sublist,fun r hr=>hT.num r (List.mem_filter.1 hr).1, ?_, ?_⟩
 ·rw[hf,TT.packed_live]
  exact hmap
 ·rw[TT.packed_live]
  exact hT.keys
 ·rw[TT.packed_live]
  exact hT.good
theorem mk_any {ops:Array Oper} {rest:List Oper} {Q:Exit->Act->World->Prop} {w:World} {a:Act} {o:Oper} {t e:TypeId} {size bytes:Nat} {z:Value} {c x:Operand} (n:Nat) (hw:Region.wanted o (yielded ops a.tmps)=true) (ho:o.op= .makeSlice t c x) (hc:a.eval c= .int .i64 0) (hx:a.eval x= .int .i64 (n:Nat))
  (ht:prog.underlying t=some (.slice e)) (hi:(prog.info? e).map (fun i=>(i.zero,i.size,i.bytes))=some (some z,size,bytes)) (hn:n<=100000) (hs:size<=100) (hby:bytes<=10000)
  (h: ∀wm,wm.ownsRow w.heap.size e size (.slice (some ⟨w.heap.size,0,none⟩) 0 n) 0 []->Below w.heap.size w wm->wpList prog ops Q rest (a.put o.dst (.slice (some ⟨w.heap.size,0,none⟩) 0 n)) wm):wpList prog ops Q (o::rest) a w:=by
 obtain⟨i0,hi,hz0,hz1,hz2⟩:=info_parts hi
 obtain⟨wm,hrun,hm1,hm2⟩:=run_makeSlice_owned (P:=prog) w w.heap.size t e i0 _ size ht hi hz0 hz1 .i64 .i64 n (Nat.le_trans (Nat.mul_le_mul hn hs) (by decide)) (by rw[hz2];exact Nat.le_trans (Nat.mul_le_mul hby hn) (by decide)) (by unfold maxLen;omega) (Nat.le_refl _)
 refine BigFrame.wpList_want hw fun K hK=> ?_
 have hP:=hK _ _ (h wm hm1 ⟨hm2.os,hm2.tape,hm2.output,hm2.size,fun k hk=>hm2.block k hk (by simp)⟩)
 unfold Oper.wp execOp
 simp only[ho,hc,hx]
 simp[hrun]
 exact hP
theorem Zc7 (l:List RR) (j:Nat) (hj:j<l.length):(Pq (l.map (·.b)))[0+j]? =some (.pointer (some ⟨l[j].b,0,none⟩)):=by
 simp[Pq,hj]
theorem ptrs_one (l:List RR) (r:RR):Pq ((l++ [r]).map (·.b))=Pq (l.map (·.b))++ [.pointer (some ⟨r.b,0,none⟩)]:=by
 simp[Pq]
def Gg (l:List RR):List RR:=l.filter (fun r=> !r.gone)
theorem Zbd {l:List RR} {j:Nat} (hj:j<l.length):Gg (l.take (j+1))=if l[j].gone then Gg (l.take j) else Gg (l.take j)++ [l[j]]:=by
 unfold Gg
 rw[List.take_succ_eq_append_getElem hj,List.filter_append]
 cases h:l[j].gone<;>simp[h]
def CG (w1 wr:World) (v:Value) (l:List RR):Prop:=wr.ownsRow w1.heap.size 203 1 v l.length (Pq (l.map (·.b)))/\Below w1.heap.size w1 wr
theorem Zb4 (l:List RR):(Gg l).length<=l.length:=List.length_filter_le _ _
theorem ZdE (T:TT) (w:World) (hT:T.Is w) (hl:T.last<100000):Calls prog 223 #[.pointer (some ⟨T.t,0,none⟩)] w fun e w'=>e= .returned (.tuple #[])/\ ∃rv,(T.packed T.m rv).Is w'/\Fr w w' [T.t]/\(∀g,rv.ownBlock=some g->T.rv.ownBlock=some g∨w.heap.size<=g):=by
 have hlen:=hT.len
 have C38:=Ab (gaps38 T w hT (by omega))
 by_cases h0:T.rows.length - T.live.length=0
 ·rw[h0] at C38
  have HT:=Ab hT
  have he:T.packed T.m T.rv=T:=by
   unfold TT.packed
   rw[TT.live_rows h0]
  clear hT hlen hl h0
  go_enter func223,ntmps223
  go_wp2_with fail
  refine(Aa C38).mono ?_
  rintro _ w1 ⟨rfl,hb⟩
  have HB:=Ab hb
  clear hb
  go_wp2
  refine bodyPost_ret (results_none rfl _ _ _) rfl ?_
  exact⟨rfl,T.rv,by rw[he];exact(Aa HT).on (Aa HB),Fr.of_below (Aa HB) _,fun g hg=> .inl hg⟩
 ·have hpos:0<T.rows.length:=by omega
  obtain⟨A,c,hrv⟩:=Ex hT.own
  have hown: ∀X,T.Is X->X.ownsRow 0 203 1 (.slice A (T.rows.map (·.b)).length c) (T.rows.map (·.b)).length (Pq (T.rows.map (·.b))):=fun X hX=>hrv▸hX.own
  obtain⟨g,rfl, -, -⟩:=Zc9 (hown w hT) (by simpa using hpos)
  obtain⟨n,hn⟩: ∃n,n=T.rows.length:=⟨_,rfl⟩
  obtain⟨gp,hgp⟩: ∃gp,gp=T.rows.length - T.live.length:=⟨_,rfl⟩
  rw[←hgp] at C38
  have hgz: ¬((gp:Nat):Int)=0:=by omega
  have HV:Hid (∀X,T.Is X->Holds X T.t [.map (some T.m), .slice (some ⟨g,0,none⟩) n c, .int .u64 T.last]):=Ab (fun X hX=>by
   have:=hX.tab
   unfold TT.cs at this
   rw[hrv,List.length_map,←hn] at this
   exact this)
  have HG:Hid (∀X,T.Is X->Holds X g (Pq (T.rows.map (·.b)))):=Ab (fun X hX=>ZbA (hown X hX))
  have hlv:T.live.length<=100000:=by have:=T.live_le;omega
  have HRV:=Ab hrv
  have HT:=Ab hT
  have HLT:=Ab hT.lt
  have HAP:=Ab (TT.apart hT.nd)
  have hn1:n<=100000:=by omega
  have Hn:=Ab hn
  obtain⟨lv,hlv'⟩: ∃lv,lv=T.live.length:=⟨_,rfl⟩
  have HML:Hid (∀X,T.Is X->MapIs X T.m T.last lv (fun k=>(T.find k).map (·.b))):=Ab (fun X hX=>hlv'▸hX.map)
  have hlv2:lv<=100000:=by omega
  clear hT hlen hl h0 hpos hrv hown hn hgp hlv hlv'
  go_enter func223,ntmps223
  go_wp2_with fail
  refine(Aa C38).mono ?_
  rintro _ w1 ⟨rfl,hb⟩
  have HB:=Ab hb
  have HT1:=Ab ((Aa HT).on hb)
  clear hb
  obtain⟨w2,hw2⟩: ∃w2,w2=w1:=⟨_,rfl⟩
  replace HT:=HT1
  go_wp2_with (first|go_skip|((with_reducible show wpList ..);first|(refine rd rfl (Ad 190 isAgg190 rfl rfl ((Aa HV) _ (Aa HT)) rfl) ?_)|(refine rd rfl (Zew rfl rfl ((Aa HML) _ (Aa HT))) ?_)|(refine rd rfl (Ad 191 isAgg191 rfl rfl ((Aa HV) _ (Aa HT)) rfl) ?_)|((refine mk_any (t:=191) (e:=203) (size:=1) (bytes:=8) (z:= .pointer none) lv (by rfl) rfl rfl rfl underlying191 ZaD hlv2 (by decide) (by decide) ?_);intro wm hO hb;replace HT:=Ab ((Aa HT).on hb);have HC:Hid (CG w1 wm (.slice (some ⟨w1.heap.size,0,none⟩) 0 lv) []):=Ab ⟨hO,hb⟩;clear hO hb;simp only[nn])))
  clear hgz C38
  go_loopg [2,4,19] n (fun gm s2 s4 s19 wr=> ∃j:Nat,s19= .int .i64 j/\j<=n/\n - j<=gm/\Hid (CG w1 wr s2 (Gg (T.rows.take j))))
  case atStart=>exact⟨0,rfl,by omega,by omega,HC⟩
  case round=>
   obtain⟨j,rfl,hj,hg,HR⟩:=hrel
   have HTr:=Ab ((Aa HT1).on (Aa HR).2)
   by_cases hjl:j<n
   ·have hjz:(j:Int)<n:=by omega
    have hjr:j<T.rows.length:=by have:=Aa Hn;omega
    obtain⟨r,hr⟩: ∃r,r=T.rows[j]:=⟨_,rfl⟩
    have HP:Hid ((Pq (T.rows.map (·.b)))[0+j]? =some (.pointer (some ⟨r.b,0,none⟩))):=Ab (by rw[hr];exact Zc7 T.rows j hjr)
    have HRr:=Ab ((Aa HTr).rows r (hr▸List.getElem_mem hjr))
    have HST:=Ab (Zbd hjr)
    rw[←hr] at HST
    cases hgn:r.gone with
    |true=>
     have HR2:Hid (Holds wr r.b (r.k.cs++(r.d.cs++ [.int .u64 r.n, .bool true]))):=Ab (hgn▸Aa HRr)
     replace HR:Hid (CG w1 wr u2 (Gg (T.rows.take (j+1)))):=Ab (by rw[Aa HST,hgn];exact Aa HR)
     clear hr hgn HRr HST
     go_wp2_with (first|go_skip|((with_reducible show wpList ..);first|(refine rd rfl (Uc (off:=0) j rfl rfl rfl hjl) ?_)|(refine rd rfl (Ad 203 isAgg203 rfl rfl ((Aa HG) _ (Aa HTr)) (Aa HP)) ?_)|(refine rd rfl (Ad 4 isAgg4 rfl rfl (Aa HR2) rfl) ?_)))
     go_roundg (n - (j+1))
     case measure=>omega
     case rel=>exact⟨j+1,by go_num,by omega,Nat.le_refl _,HR⟩
    |false=>
     have HR2:Hid (Holds wr r.b (r.k.cs++(r.d.cs++ [.int .u64 r.n, .bool false]))):=Ab (hgn▸Aa HRr)
     have HST2:Hid (Gg (T.rows.take (j+1))=Gg (T.rows.take j)++ [r]):=Ab (by rw[Aa HST,hgn];rfl)
     have hsl:Hid ((Gg (T.rows.take j)).length+1<=4000000):=Ab (by have h1:=Zb4 (T.rows.take j);rw[List.length_take] at h1;omega)
     clear hr hgn HRr HST
     go_wp2_with (first|go_skip|((with_reducible show wpList ..);first|(refine rd rfl (Uc (off:=0) j rfl rfl rfl hjl) ?_)|(refine rd rfl (Ad 203 isAgg203 rfl rfl ((Aa HG) _ (Aa HTr)) (Aa HP)) ?_)|(refine rd rfl (Ad 4 isAgg4 rfl rfl (Aa HR2) rfl) ?_)|((refine ZbU (t:=191) (e:=203) (size:=1) (bytes:=8) (z:= .pointer none) (cs:= [.pointer (some ⟨r.b,0,none⟩)]) rfl rfl underlying191 ZaD rfl rfl (Hq.nil wr []) ?_);intro w5 B5 hB5 L5 hb5;have LL:=Ab L5;have HR5:Hid (CG w1 w5 u2 (Gg (T.rows.take j))):=Ab ⟨Qw (Aa HR).1 (fun b hb=>hb5.block b (World.ownsRow.lt (Aa HR).1 b hb).2),(Aa HR).2.trans (hb5.mono (Aa HR).2.size)⟩;clear L5 hb5 hB5;simp only[nn])|((refine Uq (v:=u2) rfl rfl rfl rfl underlying191 ZaD rfl (by decide) (Aa HR5).1 ((Aa LL).get 0 rfl) rfl (by simp[Value.oneCell']) (Aa hsl) (by decide) (Aa HR5).2.size ?_);intro A6 c6 w6 ho6 hg6 hf6;have HR6:Hid (CG w1 w6 (.slice A6 ((Gg (T.rows.take j)).length+1) c6) (Gg (T.rows.take (j+1)))):=Ab ⟨by rw[Aa HST2,ptrs_one,List.length_append];exact ho6,(((Fr.of_below (Aa HR5).2 []).trans (Fr.grown hg6) (fun b hb=>Or.inr (World.ownsRow.lt (Aa HR5).1 b (by simpa using hb)).1)).below)⟩;clear ho6 hg6 hf6;simp only[nn])))
     go_roundg (n - (j+1))
     case measure=>omega
     case rel=>exact⟨j+1,by go_num,by omega,Nat.le_refl _,HR6⟩
   ·have hjz: ¬(j:Int)<n:=by omega
    have hst:Gg (T.rows.take j)=T.live:=by
     have:j=T.rows.length:=by have:=Aa Hn;omega
     rw[this,List.take_length]
     rfl
    rw[hst] at HR
    obtain⟨A6,c6,rfl⟩:=Ex (Aa HR).1
    have HBr:=Ab ((Aa HB).trans ((Aa HR).2.mono (Aa HB).size))
    have hts:T.t<w.heap.size:=(Aa HLT) T.t (by simp[TT.blocks])
    have hws:=(Aa HB).size
    clear hst
    go_wp2_with (first|go_skip|((with_reducible show wpList ..);((with_reducible apply stx (t:=191) (b:=T.t) (p:=1) (cs:= [.map (some T.m), .slice (some ⟨g,0,none⟩) n c, .int .u64 T.last]) (vs:= [.slice A6 T.live.length c6]) (v:= .slice A6 T.live.length c6));(case hw|ho|hx|hy=>rfl);(case hv=>exact rfl);(case h1=>exact(by simp[Value.oneCell']));(case hi=>exact siz70);(case hH=>exact(Aa HV) _ (Aa HTr));(case hp=>exact(by simp));simp only[nn])))
    go_end0
    refine⟨rfl, .slice A6 T.live.length c6, ?_,(Fr.of_below (Aa HBr) [T.t]).trans (Fr.setCells _ _ _ _) (fun b hb=> .inl hb),fun b hb=> .inr ?_⟩
    ·have hap:=Aa HAP
     have hne: ∀b,b≠T.t->(wr.setCells T.t 1 [.slice A6 T.live.length c6]).heap[b]? =wr.heap[b]? :=fun b hb=>Gj _ _ _ _ _ hb
     refine TT.Is.pack (Aa HT1) ((((Aa HV) _ (Aa HTr)).put 1 [.slice A6 T.live.length c6] (by simp))) ((Aa HTr).map.block (hne _ hap.tm.symm)) ?_ (fun r hr=>((Aa HTr).rows r (List.mem_filter.1 hr).1).block (hne _ (fun e=>hap.tr (e▸List.mem_map.2 ⟨r,(List.mem_filter.1 hr).1,rfl⟩)))) (.inl rfl) (fun b hb=> ?_)
     ·have h1:=Qw (w':=wr.setCells T.t 1 [.slice A6 T.live.length c6]) (Aa HR).1 (fun b hb=>hne b (by have:=(World.ownsRow.lt (Aa HR).1 b hb).1;omega))
      unfold OwnP
      rw[List.length_map]
      exact Np h1 (Nat.zero_le _)
     ·have h2:=(World.ownsRow.lt (Aa HR).1 b hb).1
      refine⟨.inr (fun hm=> ?_),fun e=> ?_⟩
      ·have:=(Aa HLT) b hm
       omega
      ·have:=(Aa HLT) T.m (by simp[TT.blocks])
       omega
    ·have h2:=(World.ownsRow.lt (Aa HR).1 b hb).1
     omega
