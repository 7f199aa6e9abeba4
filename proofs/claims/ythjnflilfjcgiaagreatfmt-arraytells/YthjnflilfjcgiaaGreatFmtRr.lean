import Derived.Test.YthjnflilfjcgiaaGreatFmtRq
import Derived.RangeFuncWrites
import Derived.OrdersHeld
import Derived.OrdersIn
import Derived.Sort.LoopGhostIn
import Derived.Test.YthjnflilfjcgiaaGreatFmtCards
import Derived.Test.YthjnflilfjcgiaaGreatFmtTie
import Derived.Stop.JoinedTold
import Derived.SevenTiedAt
set_option linter.all false
namespace Go.Proofs.YthjnflilfjcgiaaGreatFmt
set_option maxRecDepth 100000
set_option maxHeartbeats 0
section
open Go Go.Proofs Go.Maps Go.RowKit FM Tryz
section
variable {σ α : Type} {F : Fence} {n : Nat} {P : Program}
def AbN {β:Type} (J:β->World->Prop):Prop:= ∀s X Y,J s X->X.grownBy Y none->J s Y
def SeqBy (F:Fence) (n:Nat) (P:Program) (g:Nat) (lb:Array Value) (encs:α->Array Value) (Tab:σ->World->Prop) (V:σ->α->Prop) (nx:σ->α->σ->Prop) (Fin:σ->Prop) (s0:σ) (w:World):Prop:=
 ∀(l:Nat) (J:σ->World->Prop) (Jx:Unit->World->Prop) (W:World),Below w.heap.size w W->AbN J->AbN Jx->(∀s X,J s X->Tab s X)->
  (∀s x X,J s X->V s x->YieldAt F (n - 1) P l (encs x) X fun e Y=>(e= .returned (.bool true)/\ ∃s',nx s x s'/\J s' Y)∨(e= .returned (.bool false)/\Jx () Y))->J s0 W->
  CallsIn F n P g (#[.func (.yield l) #[] #[]]++lb) W fun e Y=>(∃v,e= .returned v)/\((∃s,Fin s/\J s Y)∨Jx () Y)
def LD (o:Obj):Prop:=(∃q,o= .loop q)∨ ∃d,o= .deferred d
def KL (X Y:World):Prop:= ∀(k:Nat) (o:Obj),X.heap[k]? =some o->LD o->Y.heap[k]? =some o
theorem KL.refl (X:World):KL X X:=fun _ _ h _=>h
def byPost (B:Nat) (I:σ->World->Prop) (Ix:Code->World->Prop) (nx:σ->α->σ->Prop) (s:σ) (x:α) (W:World):Exit->Act->World->Prop
 | .normal,_,Y=>KL W Y/\ ∃s',nx s x s'/\I s' Y
 | .ret,_,Y=>KL W Y/\Ix .ret Y
 | .exit id,_,Y=>KL W Y/\Ix (.exit id) Y
 | .goto t,_,Y=>KL W Y/\Ix (.goto t) Y
 | .panic _,_,_=>False
 | .outgrown,_,_=>False
def recAt (fn:FuncId) (a:Act) (ps:Array Tmp) (assign body:Code) (D:Nat) (st:LoopState) (pe:Option Code):Loop:={state:=st,pending:=pe,fn,tmps:=a.tmps,params:=ps,assign,body,defers:=D}
def Kept (L D:Nat) (r:Loop) (W:World):Prop:=W.heap[L]? =some (.loop r)/\W.heap[D]? =some (.deferred (some []))
theorem Kept.grown {L D:Nat} {r:Loop} {A B:World} {row:Option Nat} (h:Kept L D r A) (hg:A.grownBy B row) (hr: ∀q,row=some q-> ∃o:Obj,A.heap[q]? =some o/\o.isWalk=true):Kept L D r B:=
 ⟨(grownBy_keeps hg hr h.1 rfl).trans h.1,(grownBy_keeps hg hr h.2 rfl).trans h.2⟩
theorem Kept.from {L D:Nat} {r:Loop} {X Y:World} (h:Kept L D r X) (hk:KL X Y):Kept L D r Y:=⟨hk _ _ h.1 (.inl ⟨_,rfl⟩),hk _ _ h.2 (.inr ⟨_,rfl⟩)⟩
theorem Kept.put {L D:Nat} {r r':Loop} {X:World} (h:Kept L D r X) (hne:L≠D):Kept L D r' (X.putObj L (.loop r')):=
 ⟨World.putObj_heap_same (Array.getElem?_eq_some_iff.1 h.1).1,(World.putObj_heap_other hne.symm).trans h.2⟩
def OwnL {β:Type} (B:Nat) (I:β->World->Prop):Prop:= ∀s X Y row,I s X->X.grownBy Y row->(∀r,row=some r->B<=r/\ ∃o:Obj,X.heap[r]? =some o/\ ∃q,o= .loop q)->I s Y
theorem OwnL.alloc {β:Type} {B:Nat} {I:β->World->Prop} (h:OwnL B I) {s:β} {W:World} (o:Obj) (hs:I s W):I s (W.alloc o):=by
 have hb:Below W.heap.size W (W.alloc o):=(Below.refl _ _).alloc (Nat.le_refl _) _
 exact h s W _ none hs ⟨hb.os,hb.tape,hb.output,hb.size,fun k hk _=>hb.block k hk⟩ (fun r e=>by cases e)
theorem OwnL.putLoop {β:Type} {B:Nat} {I:β->World->Prop} (h:OwnL B I) {s:β} {W:World} {l:Nat} {q:Loop} (o:Obj) (hs:I s W) (hl:B<=l) (hq:W.heap[l]? =some (.loop q)):I s (W.putObj l o):=
 h s W _ (some l) hs (grownBy_putObj' W l o) (fun r e=>by cases e;exact⟨hl,_,hq,q,rfl⟩)
theorem range_by {g:Operand} {ps:Array Tmp} {assign body:Code} {Q:Exit->Act->World->Prop} {a:Act} {w:World}
  (hro:F.round=none) (h1:1<=n) {gf:Nat} {lb:Array Value} (hg:a.eval g= .func (.func gf) #[] lb) (hFg:F.fn gf) (eg: ∀args w,(callFunc gf args).run P w= .ok (.enter gf args) w)
  {encs:α->Array Value} {Tab:σ->World->Prop} {V:σ->α->Prop} {nx:σ->α->σ->Prop} {Fin:σ->Prop} {s0:σ} {w0:World} (hseq:SeqBy F (n - 1) P gf lb encs Tab V nx Fin s0 w0) (hb0:Below w0.heap.size w0 w) (hps: ∀x,(encs x).size=ps.size)
  (I:σ->World->Prop) (Ix:Code->World->Prop) (hIT: ∀s X,I s X->Tab s X) (hI:OwnL w.heap.size I) (hIx: ∀c,OwnL w.heap.size (fun (_:Unit) W=>Ix c W)) (h0:I s0 w) (Ax:α->Act->World->Prop) (hAx: ∀x a',OwnFrom w.heap.size (fun (_:Unit) W=>Ax x a' W))
  (hassign: ∀(l:Nat) (s:σ) (x:α) (W:World) (K:Act->World->Prop),I s W->V s x->(∀a' Y,KL W Y->I s Y->Ax x a' Y->K a' Y)->
   assign.wpIn (F.inRound l) (n - 1 - 1) P (Exit.then K (fun _ _ _=>False)) {tmps:=(ps.zip (encs x)).foldl (fun t (p,v)=>t.setIfInBounds p v) a.tmps,defers:= []} W)
  (hbody: ∀(l:Nat) (s:σ) (x:α) (a':Act) (W:World),w.heap.size<=l->I s W->V s x->Ax x a' W->body.wpIn (F.inRound l) (n - 1 - 1) P (byPost w.heap.size I Ix nx s x W) a' W)
  (hdone: ∀(D:Nat) (s:σ) (W:World),w.heap.size<=D->Fin s->I s W->W.heap[D]? =some (.deferred (some []))->Q .normal {a with defers:={target:= .collected D,args:= #[]}::a.defers} W)
  (hstop: ∀(D:Nat) (c:Code) (W:World),w.heap.size<=D->Ix c W->W.heap[D]? =some (.deferred (some []))->c.wpIn F n P Q {a with defers:={target:= .collected D,args:= #[]}::a.defers} W):
  (Code.rangeFunc g ps assign body).wpIn F n P Q a w:=by
 refine wpIn_rangeFunc fun fn hfn=> ?_
 have hnd:w.heap.size+1≠w.heap.size:=by omega
 have hk1:Kept (w.heap.size+1) w.heap.size (recAt fn a ps assign body w.heap.size .ready none) ((w.alloc (.deferred (some []))).alloc (.loop (recAt fn a ps assign body w.heap.size .ready none))):=by
  refine⟨?_,(Below.heap_alloc _ _ _ (by simp)).trans (World.alloc_heap_new w _)⟩
  have:=World.alloc_heap_new (w.alloc (.deferred (some []))) (.loop (recAt fn a ps assign body w.heap.size .ready none))
  rwa [World.size_alloc] at this
 have hz1:w.heap.size<=((w.alloc (.deferred (some []))).alloc (.loop (recAt fn a ps assign body w.heap.size .ready none))).heap.size:=by simp;omega
 have hen:(Instr.enterLoop fn a.tmps ps assign body F.round).run P w= .ok (w.heap.size+1, [{target:= .collected w.heap.size,args:= #[]}]) ((w.alloc (.deferred (some []))).alloc (.loop (recAt fn a ps assign body w.heap.size .ready none))):=by
  rw[hro]
  exact run_enterLoop_outer _ _ _ _ _
 have hI1:I s0 ((w.alloc (.deferred (some []))).alloc (.loop (recAt fn a ps assign body w.heap.size .ready none))):=hI.alloc _ (hI.alloc _ h0)
 have hb1:Below w0.heap.size w0 ((w.alloc (.deferred (some []))).alloc (.loop (recAt fn a ps assign body w.heap.size .ready none))):=hb0.trans ((((Below.refl _ w).alloc (Nat.le_refl _) _).alloc (by simp) _).mono hb0.size)
 generalize (w.alloc (.deferred (some []))).alloc (.loop (recAt fn a ps assign body w.heap.size .ready none))=X at hk1 hz1 hen hI1 hb1
 refine⟨_,_,X,{target:= .fn (.func gf) lb,args:= #[.func (.yield (w.heap.size+1)) #[] #[]]},X,gf, #[.func (.yield (w.heap.size+1)) #[] #[]]++lb,X,hen, ?_, ?_, ?_,fun _=>h1, ?_⟩
 ·simp only[resolve,hg]
  simp[go_sem]
 ·intro f hf
  simp[Target.leads] at hf
  exact hf▸hFg
 ·simp[invoke,go_sem,eg]
 refine(hseq (w.heap.size+1) (fun s W=>I s W/\Kept (w.heap.size+1) w.heap.size (recAt fn a ps assign body w.heap.size .ready none) W)
  (fun _ W=> ∃c,Ix c W/\Kept (w.heap.size+1) w.heap.size (recAt fn a ps assign body w.heap.size .done (some c)) W) X hb1
  (fun s A B hs hgr=>⟨hI s A B none hs.1 hgr (fun r e=>by cases e),hs.2.grown hgr (fun q e=>by cases e)⟩)
  (fun _ A B hs hgr=>by
   obtain⟨c,h2,h3⟩:=hs
   exact⟨c,hIx c () A B none h2 hgr (fun r e=>by cases e),h3.grown hgr (fun q e=>by cases e)⟩)
  (fun s W h=>hIT s W h.1) ?_ ⟨hI1,hk1⟩).mono ?_
 ·rintro s x W ⟨hi,hk⟩ hV
  have hy:=run_yield (P:=P) (args:=encs x) hk.1 (hps x)
  refine⟨fn,_,assign,body,hy,roundIn_of_wpIn hfn (hassign _ s x W _ hi hV fun a' Y hkf hiY hax=> ?_)⟩
  have hkY:=hk.from hkf
  have hkB:=hkY.put (r':=recAt fn a ps assign body w.heap.size .busy none) hnd
  refine⟨_,run_beginRound hkY.1 rfl, ?_⟩
  refine wpIn_mono (hbody _ s x a' _ (by omega) (hI.putLoop _ hiY (by omega) hkY.1) hV ((hAx x a').putObj (s:=()) _ hax (by omega) hkY.1 rfl)) ?_
  have fin: ∀(jump:Option Code) (Z:World),KL (Y.putObj (w.heap.size+1) (.loop (recAt fn a ps assign body w.heap.size .busy none))) Z->
    (Instr.endRound (w.heap.size+1) jump).run P Z= .ok (.bool jump.isNone) (Z.putObj (w.heap.size+1) (.loop (recAt fn a ps assign body w.heap.size (if jump.isNone then .ready else .done) jump)))/\Z.heap[w.heap.size+1]? =some (.loop (recAt fn a ps assign body w.heap.size .busy none))/\
    Kept (w.heap.size+1) w.heap.size (recAt fn a ps assign body w.heap.size (if jump.isNone then .ready else .done) jump) (Z.putObj (w.heap.size+1) (.loop (recAt fn a ps assign body w.heap.size (if jump.isNone then .ready else .done) jump))):=fun jump Z hkz=>by
   have hZ:=hkB.from hkz
   exact⟨run_endRound (P:=P) jump hZ.1,hZ.1,hZ.put hnd⟩
  intro e a3 Z hp
  match e,hp with
  | .normal,⟨hkz,s',hn,hi'⟩=>
   obtain⟨hr,hl,hk'⟩:=fin none Z hkz
   exact⟨_,_,hr, .inl ⟨rfl,s',hn,hI.putLoop _ hi' (by omega) hl,hk'⟩⟩
  | .ret,⟨hkz,hi'⟩=>
   obtain⟨hr,hl,hk'⟩:=fin (some .ret) Z hkz
   exact⟨_,_,hr, .inr ⟨rfl, .ret,(hIx _).putLoop (s:=()) _ hi' (by omega) hl,hk'⟩⟩
  | .exit id,⟨hkz,hi'⟩=>
   obtain⟨hr,hl,hk'⟩:=fin (some (.exit id)) Z hkz
   exact⟨_,_,hr, .inr ⟨rfl, .exit id,(hIx _).putLoop (s:=()) _ hi' (by omega) hl,hk'⟩⟩
  | .goto t,⟨hkz,hi'⟩=>
   obtain⟨hr,hl,hk'⟩:=fin (some (.goto t)) Z hkz
   exact⟨_,_,hr, .inr ⟨rfl, .goto t,(hIx _).putLoop (s:=()) _ hi' (by omega) hl,hk'⟩⟩
 ·rintro e Y ⟨⟨v,rfl⟩,⟨s,hF,hi,hk⟩|⟨c,hi,hk⟩⟩
  ·exact⟨none,_,run_endLoop (P:=P) hk.1 (by simp[recAt]),hdone _ s _ (Nat.le_refl _) hF (hI.putLoop _ hi (by omega) hk.1) ((World.putObj_heap_other hnd.symm).trans hk.2)⟩
  ·exact⟨some c,_,run_endLoop (P:=P) hk.1 (by simp[recAt]),hstop _ c _ (Nat.le_refl _) ((hIx c).putLoop (s:=()) _ hi (by omega) hk.1) ((World.putObj_heap_other hnd.symm).trans hk.2)⟩
end
section
variable {n l : Nat} {P : Program} {ops : Array Oper} {Q : Exit → Act → World → Prop} {md : Region.Mode}
def noDefer (ops:Array Oper):Bool:=ops.all fun o=>match o.op with
 | .defer _=>false
 |_=>true
theorem noDefer_get (h:noDefer ops=true) {o:Oper} (ho:o∈ops) (c:Call):o.op≠ .defer c:=by
 intro e
 have h1:=Array.all_eq_true_iff_forall_mem.1 h o ho
 rw[e] at h1
 cases h1
theorem rows_round {row:String} {args:Array Value} {w:World} {R:Value->World->Prop} (h:Rows P row args w R):RowsIn (Fence.wide.inRound l) n P row args w R:=by
 intro c cs hr
 obtain⟨v,w',r,s⟩:=h c cs
 exact⟨v,w',r,stepsIn_wide.2 s⟩
theorem op_round {o:Oper} {a:Act} {w:World} {K K':Act->World->Prop} (hnd: ∀c,o.op≠ .defer c) (hQ: ¬LetsOut Q) (hK: ∀a w,K a w->K' a w) (h:o.wp P a w K Q):o.wpIn (Fence.wide.inRound l) n P a w K' Q:=by
 refine⟨fun f _=>trivial, ?_⟩
 rw[show o.semAt (Fence.wide.inRound l).round a.eval=execOp a.eval o from Oper.semAt_some l _ _ hnd]
 unfold Oper.wp at h
 generalize (execOp a.eval o).run P w=r at *
 cases r with
 |ok x X=>
  cases x<;>simp only[Oper.upon] at h<;>simp only[Oper.uponIn]
  case value=>exact hK _ _ h
  case skip=>exact hK _ _ h
  case defer=>exact hK _ _ h
  case enter f args=>
   refine⟨(fun h2=>by cases h2), ?_⟩
   exact CallsIn.mono (callsIn_wide.2 h:CallsIn Fence.wide (n - 1) P f args X _) (fun e Y he=>by cases e<;>first|exact hK _ _ he|exact he)
  case row row args=>
   exact⟨(fun h2=>by cases h2),RowsIn.mono (rows_round h) (fun v Y he=>hK _ _ he)⟩
 |halt x X=>cases x<;>simp only[Oper.upon] at h<;>simp only[Oper.uponIn]<;>exact h
theorem list_round (hQ: ¬LetsOut Q): ∀(rest:List Oper) (a:Act) (w:World),(∀o∈rest,∀c,o.op≠ .defer c)->wpList P ops Q rest a w->wpListIn (Fence.wide.inRound l) n P ops Q rest a w
 | [],_,_,_,h=>h
 |o::rest,a,w,hnd,h=>by
  unfold wpList at h
  unfold wpListIn
  split
  ·rename_i hw
   rw[if_pos hw] at h
   rcases h with h|⟨-,h⟩
   ·exact op_round (hnd o (List.mem_cons_self ..)) hQ (fun a w h3=>list_round hQ rest a w (fun q hq=>hnd q (List.mem_cons_of_mem _ hq)) h3) h
   ·exact absurd h hQ
  ·rename_i hw
   rw[if_neg hw] at h
   exact⟨fun f _=>trivial,list_round hQ rest _ w (fun q hq=>hnd q (List.mem_cons_of_mem _ hq)) h⟩
theorem plain_round {id:Nat} {rest:List Oper} {a:Act} {w:World} (hnd:noDefer rest.toArray=true) (hQ: ¬LetsOut Q) (h:wpList P rest.toArray Q rest a w):(Code.region id rest.toArray false).wpIn (Fence.wide.inRound l) n P Q a w:=
 wpIn_region_lit (list_round hQ rest a w (fun o ho=>noDefer_get hnd (by simpa using ho)) h)
end
def marks (ds:List Nat):List Deferred:=ds.map fun D=>{target:= .collected D,args:= #[]}
theorem range_one {σ α:Type} {F:Fence} {n:Nat} {g:Operand} {ps:Array Tmp} {assign body:Code} {Q:Exit->Act->World->Prop} {a:Act} {w:World}
  (hro:F.round=none) (h1:1<=n) {gf:Nat} {lb:Array Value} (hg:a.eval g= .func (.func gf) #[] lb) (hFg:F.fn gf) (eg: ∀args w,(callFunc gf args).run prog w= .ok (.enter gf args) w)
  {encs:α->Array Value} {Tab:σ->World->Prop} {V:σ->α->Prop} {nx:σ->α->σ->Prop} {Fin:σ->Prop} {s0:σ} {w0:World} (hseq:SeqBy F (n - 1) prog gf lb encs Tab V nx Fin s0 w0) (hb0:Below w0.heap.size w0 w) (hps: ∀x,(encs x).size=ps.size)
  (I:σ->World->Prop) (Ix:Code->World->Prop) (hIT: ∀s X,I s X->Tab s X) (hI:OwnL w.heap.size I) (hIx: ∀c,OwnL w.heap.size (fun (_:Unit) W=>Ix c W)) (h0:I s0 w) (d:Tmp) (f:α->List Value) (hfl: ∀x,0<(f x).length)
  (hassign: ∀(l:Nat) (s:σ) (x:α) (W:World) (K:Act->World->Prop),I s W->V s x->(∀B Y,KL W Y->I s Y->Holds Y B (f x)->K {tmps:=((ps.zip (encs x)).foldl (fun t (p,v)=>t.setIfInBounds p v) a.tmps).setIfInBounds d (.pointer (some ⟨B,0,none⟩)),defers:= []} Y)->
   assign.wpIn (F.inRound l) (n - 1 - 1) prog (Exit.then K (fun _ _ _=>False)) {tmps:=(ps.zip (encs x)).foldl (fun t (p,v)=>t.setIfInBounds p v) a.tmps,defers:= []} W)
  (hbody: ∀(l:Nat) (s:σ) (x:α) (B:Nat) (W:World),w.heap.size<=l->I s W->V s x->Holds W B (f x)->body.wpIn (F.inRound l) (n - 1 - 1) prog (byPost w.heap.size I Ix nx s x W) {tmps:=((ps.zip (encs x)).foldl (fun t (p,v)=>t.setIfInBounds p v) a.tmps).setIfInBounds d (.pointer (some ⟨B,0,none⟩)),defers:= []} W)
  (hdone: ∀(D:Nat) (s:σ) (W:World),w.heap.size<=D->Fin s->I s W->W.heap[D]? =some (.deferred (some []))->Q .normal {a with defers:={target:= .collected D,args:= #[]}::a.defers} W)
  (hstop: ∀(D:Nat) (c:Code) (W:World),w.heap.size<=D->Ix c W->W.heap[D]? =some (.deferred (some []))->c.wpIn F n prog Q {a with defers:={target:= .collected D,args:= #[]}::a.defers} W):
  (Code.rangeFunc g ps assign body).wpIn F n prog Q a w:=by
 refine range_by hro h1 hg hFg eg hseq hb0 hps I Ix hIT hI hIx h0 (fun x a' W=> ∃B,a'={tmps:=((ps.zip (encs x)).foldl (fun t (p,v)=>t.setIfInBounds p v) a.tmps).setIfInBounds d (.pointer (some ⟨B,0,none⟩)),defers:= []}/\Holds W B (f x)) ?_ ?_ ?_ hdone hstop
 ·intro x a' _ A B row hs hgr hr
  obtain⟨C,h2,h3⟩:=hs
  exact⟨C,h2,holds_own h3 (hfl x) hgr (fun r e=>(hr r e).2)⟩
 ·intro l s x W K hi hv hk
  exact hassign l s x W K hi hv (fun B Y h2 h3 h4=>hk _ Y h2 h3 ⟨B,rfl,h4⟩)
 ·rintro l s x a' W hl hi hv ⟨B,rfl,hH⟩
  exact hbody l s x B W hl hi hv hH
theorem lets_then {K:Act->World->Prop} {Q:Exit->Act->World->Prop} (h: ¬LetsOut Q): ¬LetsOut (Exit.then K Q):=fun ⟨a,w,hq⟩=>h ⟨a,w,hq⟩
theorem leaves_marks {fn:Func} {tmps:Array Value} {R:Ending->World->Prop} {n:Nat}: ∀(ds:List Nat) (W:World),ds.Nodup->(∀D∈ds,W.heap[D]? =some (.deferred (some [])))->
  (∀Y,Fr W Y ds->LeavesInM Fence.wide n prog fn tmps R [] .returning Y)->LeavesInM Fence.wide n prog fn tmps R (marks ds) .returning W
 | [],W,_,_,h=>h W (Fr.refl _ _)
 |D::ds,W,hnd,hD,h=>by
  have hK:=hD D (List.mem_cons_self ..)
  obtain⟨h1,h2⟩:=List.nodup_cons.1 hnd
  refine⟨by simp, .inl ⟨_,_,rfl,run_takeDeferred hK, ?_⟩⟩
  refine leaves_marks ds _ h2 (fun E hE=> ?_) (fun Y hY=>h Y ?_)
  ·have hne:E≠D:=fun e=>h1 (e▸hE)
   exact(World.putObj_heap_other hne).trans (hD E (List.mem_cons_of_mem _ hE))
  ·have hg:=Fr.grown (grownBy_putObj' W D (.deferred none))
   exact(hg.mono (E':=D::ds) (fun b hb=> .inl (by have:b=D:=(by simpa using hb);simp[this]))).trans hY (fun b hb=> .inl (List.mem_cons_of_mem _ hb))
theorem cell_ld {X:World} {a:Addr} {v:Value} {o:Obj} (h:X.cell? a=some v) (ho:X.heap[a.block]? =some o): ¬LD o:=by
 rintro(⟨q,rfl⟩|⟨q,rfl⟩)<;>simp[World.cell?,ho] at h
theorem hold_ld {X:World} {b:Nat} {cs:List Value} {o:Obj} (h:Holds X b cs) (hc:0<cs.length) (ho:X.heap[b]? =some o): ¬LD o:=cell_ld (h.cell 0 (List.getElem?_eq_getElem hc)) ho
theorem own_ld {X:World} {base e s n:Nat} {v:Value} {ys:List Value} (h:X.ownsRow base e s v n ys) {g:Nat} {o:Obj} (hg:v.ownBlock=some g) (ho:X.heap[g]? =some o): ¬LD o:=by
 rcases h.2 with ⟨h1,h2⟩|⟨g',cap,cur,h1,h3,h4,h5⟩
 ·rw[h1] at hg
  cases hg
 ·rw[h1] at hg
  obtain rfl:g'=g:=Option.some.inj hg
  rw[h4] at ho
  cases ho
  rintro(⟨q,h6⟩|⟨q,h6⟩)<;>cases h6
theorem tab_ld {X:World} {T:TT} (h:T.Is X) {b:Nat} {o:Obj} (hb:b∈T.blocks) (ho:X.heap[b]? =some o): ¬LD o:=by
 simp only[TT.blocks,List.mem_cons,List.mem_append,List.mem_map] at hb
 rcases hb with rfl|rfl|hb|⟨r,hr,rfl⟩
 ·exact hold_ld h.tab (by simp[TT.cs]) ho
 ·obtain⟨D,⟨es,clock,hm,_⟩,_⟩:=h.map
  rw[hm] at ho
  cases ho
  rintro(⟨q,h6⟩|⟨q,h6⟩)<;>cases h6
 ·exact own_ld h.own (by simpa using hb) ho
 ·exact hold_ld (h.rows r hr) (by simp[rcs_length]) ho
theorem kl_fr {X Y:World} {E:List Nat} (hf:Fr X Y E) (hE: ∀b∈E,∀o,X.heap[b]? =some o-> ¬LD o):KL X Y:=fun k o h1 h2=>
 (hf.block k (Array.getElem?_eq_some_iff.1 h1).1 (fun hm=>hE k hm o h1 h2)).trans h1
def RetM (fn:Func) (n:Nat) (R:Ending->World->Prop):Exit->Act->World->Prop
 | .normal,a,w| .ret,a,w=>LeavesInM Fence.wide n prog fn a.tmps R a.defers .returning w
 |_,_,_=>False
theorem retM_post {fn:Func} {n:Nat} {R:Ending->World->Prop}: ∀(e:Exit) (a:Act) (w:World),RetM fn n R e a w->bodyPostM Fence.wide n prog fn R e a w
 | .normal,_,_,h=>h
 | .ret,_,_,h=>h
 | .panic _,_,_,h=>h.elim
 | .outgrown,_,_,h=>h.elim
 | .exit _,_,_,h=>h.elim
 | .goto _,_,_,h=>h.elim
theorem zip2 (p1 p2:Tmp) (v1 v2:Value) (t:Array Value):((#[p1,p2]:Array Tmp).zip #[v1,v2]).foldl (fun t (x:Tmp×Value)=>t.setIfInBounds x.1 x.2) t=(t.setIfInBounds p1 v1).setIfInBounds p2 v2:=by simp
structure BT (Bs g c:Nat) (ks:List KK) (j:Nat) (X:World):Prop where
 box:Holds X Bs [.slice (some ⟨g,0,none⟩) ks.length c]
 row:RowsK X g 0 ks
def encB (x:Nat×KK):Array Value:= #[.int .i64 (x.1:Nat),x.2.agg]
def VB (ks:List KK) (j:Nat) (x:Nat×KK):Prop:=x.1+1=j/\ks[x.1]? =some x.2
def NB (j:Nat) (_:Nat×KK) (j':Nat):Prop:=j'+1=j
def FB (j:Nat):Prop:=j=0
theorem inR {F:Fence} {n:Nat} {ops:Array Oper} {rest:List Oper} {Q:Exit->Act->World->Prop} {a:Act} {w:World} {o:Oper} {l:Nat} {f:FuncId} {tmps:Array Value} {asg bd:Code} {R:Ending->World->Prop} (hF: ∀f,F.fn f) (hr0:F.round=none) (h1:1<=n) (hw:Region.wanted o (yielded ops a.tmps)=true) (he:(execOp a.eval o).run prog w= .ok (.round l f tmps asg bd) w)
  (hC:RoundIn F (n - 1) prog l f tmps asg bd w R) (h: ∀e X,R e X-> ∃V,e= .returned V/\wpListIn F n prog ops Q rest (a.put o.dst V) X):wpListIn F n prog ops Q (o::rest) a w:=by
 refine BigFrame.wpListIn_want hw fun K hK=> ?_
 refine⟨fun f _=>hF f, ?_⟩
 rw[hr0]
 show o.uponIn F n prog a K Q ((execOp a.eval o).run prog w)
 rw[he,Oper.uponIn_round]
 refine⟨(fun _=>h1),hC.mono ?_⟩
 intro e X hR
 obtain⟨V,rfl,hV⟩:=h e X hR
 exact hK _ _ hV
theorem ex_ixK {o:Oper} {a:Act} {w:World} {x ix:Operand} {b n cap:Nat} (j:Nat) (ho:o.op= .indexAddr 54 x ix) (hx:a.eval x= .slice (some ⟨b,0,none⟩) n cap) (hix:a.eval ix= .int .i64 (j:Nat)) (hj:j<n):(execOp a.eval o).run prog w= .ok (.value (.pointer (some ⟨b,0+j * 2,none⟩))) w:=by
 unfold execOp
 simp only[ho,hx,hix]
 simp[index24 b 0 n cap j hj w]
theorem RowsK.atK {X:World} {g m:Nat} {ks:List KK} {k:KK} (h:RowsK X g 0 ks) (hk:ks[m]? =some k):X.rangeAt g (0+m * 2) k.cs:=by
 obtain⟨hm,rfl⟩:=List.getElem?_eq_some_iff.1 hk
 exact h m hm
theorem back_by (n:Nat) (hn:1<=n) (Bs g c:Nat) (ks:List KK) (hk:ks.length<=1000000) (w:World):SeqBy Fence.wide n prog 197 #[.pointer (some ⟨Bs,0,none⟩)] encB (BT Bs g c ks) (VB ks) NB FB ks.length w:=by
 intro l J Jx W hW hJ hJx hJT hY h0
 have HB:=hide (hJT _ W h0).box
 have HJT:=hide hJT
 have HAb:=hide hJ
 have HY:=hide hY
 have HJ0:=hide h0
 clear hJT hJ hY h0
 refine callsIn_of_wp func197 rfl trivial ?_ rfl
 simp only[ntmps197,List.size_toArray,List.length_cons,List.length_nil,Nat.reduceAdd,Nat.reduceSub,Array.replicate_succ,Array.replicate_zero,List.push_toArray,List.append_toArray,List.nil_append,List.cons_append]
 have hw0:IntKind.i64.wrap ((ks.length:Int) - 1)=(ks.length:Int) - 1:=by rw[IntKind.wrap_i64];omega
 gi_wp2_with (first|((with_reducible show wpListIn _ _ _ _ _ _ _ _);first|(refine inV (fun _=>trivial) (by rfl) (by intro c h;cases h) (ex_load1 54 isAgg54 rfl rfl (uh HB) rfl) ?_;simp only[nn])))
 gi_loopg [3] (ks.length+1) (fun gm s3 wr=> ∃j:Nat,s3= .int .i64 ((j:Int) - 1)/\j<=ks.length/\j+1<=gm/\Hid (J j wr))
 case atStart=>exact⟨ks.length,rfl,Nat.le_refl _,Nat.le_refl _,HJ0⟩
 case round=>
  obtain⟨j,rfl,hjl,hgm,HJ⟩:=hrel
  clear HB HJ0 hW hJx hw0
  rcases j with _|m
  ·have d0:decide ((0:Int)<=((0:Nat):Int) - 1)=false:=by decide
   gi_wp2_with fail
   go_end0
   exact⟨⟨_,rfl⟩, .inl ⟨0,rfl,uh HJ⟩⟩
  ·rw[show (((m+1:Nat):Int) - 1)=(m:Int) by omega]
   have d0:decide ((0:Int)<=(m:Int))=true:=decide_eq_true (by omega)
   have hw1:IntKind.i64.wrap ((m:Int) - 1)=(m:Int) - 1:=by rw[IntKind.wrap_i64];omega
   have hT:=(uh HJT) _ _ (uh HJ)
   have HB:=hide hT.box
   obtain⟨k,hkm⟩: ∃k,ks[m]? =some k:=⟨_,List.getElem?_eq_getElem (by omega)⟩
   have hR:=hT.row.atK hkm
   obtain⟨fn,tmps,asg,bd,hy,hRd⟩:=(uh HY) (m+1) (m,k) wr (uh HJ) ⟨rfl,hkm⟩
   have HRd:=hide hRd
   have Hy:Hid ((Instr.yield l #[.int .i64 (m:Nat),k.agg]).run prog wr= .ok (.round l fn tmps asg bd) wr):=hide hy
   have HR:=hide hR
   clear hRd hy hT hR
   gi_wp2_with (first|((with_reducible show wpListIn _ _ _ _ _ _ _ _);first|(refine inV (fun _=>trivial) (by rfl) (by intro c h;cases h) (ex_load1 54 isAgg54 rfl rfl (uh HB) rfl) ?_;simp only[nn])|(refine inV (fun _=>trivial) (by rfl) (by intro c h;cases h) (ex_ixK m rfl rfl rfl (by omega)) ?_;simp only[nn])|(refine inV (fun _=>trivial) (by rfl) (by intro c h;cases h) (ex_loadR (vs:=k.cs) 42 2 rwK szK rfl rfl (uh HR) rfl) ?_;simp only[nn])|((with_reducible show wpListIn _ _ _ _ _ (Oper.mk _ (Op.call _) _ _ _ _::_) _ _);refine inR (fun _=>trivial) rfl hn (by rfl) (Eq.trans (b:=(Instr.yield l #[.int .i64 (m:Nat),k.agg]).run prog wr) (by kernel_rfl) (uh Hy)) (uh HRd) ?_)))
   rintro e W3 (⟨rfl,s2,hn2,hJ3⟩|⟨rfl,hJx3⟩)
   ·obtain rfl:s2=m:=Nat.succ.inj hn2
    refine⟨_,rfl, ?_⟩
    try simp only[nn]
    have HJ4:=hide hJ3
    clear hJ3 HRd Hy HR HB HJ
    gi_wp2_with fail
    gi_roundg (s2+1)
    ·exact⟨s2,rfl,by omega,by omega,HJ4⟩
    ·omega
   ·refine⟨_,rfl, ?_⟩
    try simp only[nn]
    clear HRd Hy HR HB HJ
    gi_wp2_with fail
    refine bodyPost_ret (results_none rfl _ _ _) rfl ?_
    exact⟨⟨_,rfl⟩, .inr hJx3⟩
end
section
open Go Go.Proofs Go.Maps Go.RowKit FM
def Ob.Nl (o:Ob):Prop:= ∀X,o.P X-> ∀b∈o.bs,∀q,X.heap[b]? =some q-> ¬LD q
theorem boxO_nl (B:Nat) (cs:List Value) (hc:0<cs.length):(boxO B cs).Nl:=fun X h b hb q hq=>by
 obtain rfl:=List.mem_singleton.1 hb
 exact hold_ld h.1 hc hq
theorem rowO_nl (base e s:Nat) (v:Value) (n:Nat) (ys:List Value):(rowO base e s v n ys).Nl:=fun X h b hb q hq=>own_ld h (by simpa [rowO] using hb) hq
theorem empO_nl (B:Nat):(empO B).Nl:=fun X h b hb q hq=>by
 obtain rfl:=List.mem_singleton.1 hb
 have h1:X.heap[b]? =some (Obj.cells #[] 83):=h
 rw[h1] at hq
 cases hq
 rintro(⟨q,h6⟩|⟨q,h6⟩)<;>cases h6
theorem hpO_nl (h:HP):(hpO h).Nl:=fun X H b hb q hq=>by
 have H':h.Is X:=H
 obtain⟨o,ho,hb2⟩:=List.mem_flatMap.1 (show b∈h.things.flatMap (·.bs) from hb)
 have hP:=H'.ho o ho
 simp only[HP.things,List.mem_cons,List.mem_map] at ho
 rcases ho with rfl|rfl|⟨p,hp,rfl⟩
 ·exact boxO_nl _ _ (by simp[hcs]) X hP b hb2 q hq
 ·exact rowO_nl _ _ _ _ _ _ X hP b hb2 q hq
 ·rcases List.mem_cons.1 (show b∈p.b::p.T.blocks from hb2) with rfl|hb3
  ·exact hold_ld hP.1 (by rw[ocs_len];omega) hq
  ·exact tab_ld hP.2.1 hb3 hq
theorem Sy.grow {w X Y:World} {E:List Nat} {L:List Ob} {row:Option Nat} (h:Sy w X E L) (hn: ∀o∈L,o.Nl) (hg:X.grownBy Y row) (hr: ∀r,row=some r->w.heap.size<=r/\ ∃o:Obj,X.heap[r]? =some o/\LD o):Sy w Y E L:=by
 have hf:Fr X Y row.toList:=Fr.grown hg
 have key: ∀o∈L,∀b∈o.bs,Y.heap[b]? =X.heap[b]? :=fun o ho b hb=>by
  have hlt:=(h.ok o ho).lt (h.ho o ho) b hb
  refine hf.block b hlt (fun hm=> ?_)
  obtain⟨-,q,hq,hl⟩:=hr b (by simpa using hm)
  exact hn o ho X (h.ho o ho) b hb q hq hl
 exact⟨h.fr.trans hf (fun b hb=> .inr (hr b (by simpa using hb)).1),h.ok,fun o ho=>(h.ok o ho).on (key o ho) (h.ho o ho),h.lo,h.dis⟩
end
section
open Go Go.Proofs Go.Maps Go.RowKit FM Tryz
attribute [local go_sem] mm_DefineOwnProperty mm_GetOwnProperty mm_HasProperty mm_Get mm_Delete mm_OwnPropertyKeys ta_caller
theorem dorHasProperty (h:HP) (o:Int) (k:KK) (w:World) (H:h.Is w) (hl:h.l.length<=65536) (hT:Tabs w) (P:HP->Bool->Value->Prop) (hC: ∀(j:Nat) (q:OB) (X:World),o=(j:Int)+1->h.l[j]? =some q->orE [thE o h.l.length,kErr k]=0->h.To h w X->Calls prog 55 #[.pointer (some ⟨h.b,0,none⟩), .int .i64 ((j:Int)+1),k.agg] X fun e w'=> ∃(h1:HP) (y:Bool) (er:Value),e= .returned (.tuple #[.bool y,er])/\P h1 y er/\h.To h1 X w'):Calls prog 26 #[.pointer (some ⟨h.b,0,none⟩), .int .i64 o,k.agg] w fun e w'=> ∃(h1:HP) (y:Bool) (er:Value),e= .returned (.tuple #[.bool y,er])/\((orE [thE o h.l.length,kErr k]≠0/\er=ePair (orE [thE o h.l.length,kErr k])/\h1=h/\y=false)∨(orE [thE o h.l.length,kErr k]=0/\P h1 y er))/\h.To h1 w w':=by
 have SS:=hide H.start
 rw[kagg]
 go_enter func26,ntmps26
 go_wp2_with (first|go_skip|((with_reducible show wpList ..);first|(refine zB 42 (k.cs) (by rfl) rfl rfl rfl SS ?_;clear SS;intro Xp0 Bp0 SS;simp only[nn])))
 have kt:=fun {X:World} (s:h.Is X)=>there_h h o X s
 have kk:=fun {X:World} (s:Fr w X h.blocks)=>kcheck k X (hT.fr s H.low).1
 have ko:=fun {X:World} {B:Nat} (g:Holds X B (ints [thE o h.l.length,kErr k]))=>or_any B 2 [thE o h.l.length,kErr k] X g (by simp)
 have hS1:Sy w _ h.blocks [hpO h,boxO Bp0 k.cs]:=(uh SS).drew
 clear SS
 refine region_post (fun a a' X=> ∃(v14:Value),a'=((((((((a.put (some 9) (.pointer (some ⟨h.b,0,none⟩))).put (some 10) (.int .i64 o)).put (some 11) (.int .i64 (thE o h.l.length))).put (some 12) (.agg k.cs.toArray)).put (some 13) (.int .i64 (kErr k))).put (some 14) v14).put (some 15) (.int .i64 (orE [thE o h.l.length,kErr k]))).put (some 8) (.int .i64 (orE [thE o h.l.length,kErr k])))/\Sy w X h.blocks [hpO h,boxO Bp0 k.cs]) ?_ ?_
 ·refine wp_region_held_drew (P:=prog) (S:=fun X=>Sy w X h.blocks _) (by kernel_rfl) (hS1) (fun hS0=> ?_)
  refine gp 0 (some 9) (.pointer (some ⟨h.b,0,none⟩)) rfl rfl (hS1) ?_
  simp only[nn]
  refine gp 1 (some 10) (.int .i64 o) rfl rfl (hS1) ?_
  simp only[nn]
  refine gq 3 (some 12) (.agg k.cs.toArray) rfl rfl (fun X hX=>ex_loadN (vs:=k.cs) 42 2 rwK szK rfl rfl (hX.hold 1 rfl) rfl rfl) (hS1) ?_
  simp only[nn]
  refine gr (rs:= [2]) (gcW 2 (some 11) rfl rfl (hS1) (kt (hS1.hp 0 rfl)) ?_ gn)
  simp only[nn]
  refine gr (rs:= [4]) (gcB 4 (some 13) rfl rfl hS1 (kk hS1.fr) id ?_ gn)
  intro Yt2 hqt2
  simp only[nn]
  refine gr (rs:= [5]) (gbsS 5 (some 14) rfl rfl (by kernel_rfl) (ex_bsE2 rfl rfl rfl) (Nat.succ_pos _) hqt2 (fun _ hZ=>Sy.left (L:= [_,_]) (M:= [_]) hZ) ?_ gn)
  intro Yt3 Bt3 hEt3 hqt3
  clear hEt3
  simp only[nn]
  refine gr (rs:= [6]) (gcW 6 (some 15) rfl rfl (Sy.left (L:= [_,_]) (M:= [_]) hqt3) (ko (hqt3.hold 2 rfl)) ?_ gn)
  refine gp 7 (some 8) (.int .i64 (orE [thE o h.l.length,kErr k])) rfl rfl (Sy.left (L:= [_,_]) (M:= [_]) hqt3) ?_
  simp only[nn]
  refine wpAnyH_done (by kernel_rfl) ?_ _
  try simp only[nn]
  exact pN ⟨_,rfl,Sy.left (L:= [_,_]) (M:= [_]) hqt3⟩
 ·rintro a' X ⟨v14,rfl,hS9⟩
  simp only[nn]
  have SS:=hide hS9
  clear hS9
  by_cases hc:orE [thE o h.l.length,kErr k]=0
  ·obtain⟨j,q,ho_,hj⟩:=th_zero (h:=h) (o:=o) (orE_zero hc (thE o h.l.length) (by simp))
   have HO_:=hide ho_
   clear ho_
   go_wp2_with (first|go_skip|((with_reducible show wpList ..);first|(refine rd rfl (ex_neE0 rfl rfl rfl hc) ?_;simp only[nn])|(refine zL (k.cs) 42 2 1 rwK szK (by rfl) rfl rfl SS rfl rfl rfl ?_;simp only[nn])))
   have HC:=hC j q _ (uh HO_) hj hc (HP.To.end H (uh SS) rfl)
   rw[kagg] at HC
   rw[←uh HO_] at HC
   refine HC.mono ?_
   rintro _ Y9 ⟨h1,y,er,rfl,hP,T9⟩
   replace SS:=hide ((uh SS).heap 0 rfl T9)
   have hb9:h1.b=h.b:=T9.hb
   clear T9 HC
   go_wp2
   go_ret2
   exact⟨h1,y,er,rfl, .inr ⟨hc,hP⟩,HP.To.end H (uh SS) hb9⟩
  ·go_wp2_with (first|go_skip|((with_reducible show wpList ..);first|(refine rd rfl (ex_neE1 rfl rfl rfl hc) ?_;simp only[nn])))
   go_ret2
   exact⟨h,false,_,rfl, .inl ⟨hc,rfl,rfl,rfl⟩,HP.To.end H (uh SS) rfl⟩
theorem dorGet (h:HP) (o:Int) (k:KK) (r:VV) (w:World) (H:h.Is w) (hl:h.l.length<=65536) (hT:Tabs w) (P:HP->VV->Value->Prop) (hC: ∀(j:Nat) (q:OB) (X:World),o=(j:Int)+1->h.l[j]? =some q->orE [thE o h.l.length,kErr k,soundE [r],knownE h.l.length [r]]=0->h.To h w X->Calls prog 39 #[.pointer (some ⟨h.b,0,none⟩), .int .i64 ((j:Int)+1),k.agg,r.agg] X fun e w'=> ∃(h1:HP) (V:VV) (er:Value),e= .returned (.tuple #[V.agg,er])/\P h1 V er/\h.To h1 X w'):Calls prog 12 #[.pointer (some ⟨h.b,0,none⟩), .int .i64 o,k.agg,r.agg] w fun e w'=> ∃(h1:HP) (V:VV) (er:Value),e= .returned (.tuple #[V.agg,er])/\((orE [thE o h.l.length,kErr k,soundE [r],knownE h.l.length [r]]≠0/\er=ePair (orE [thE o h.l.length,kErr k,soundE [r],knownE h.l.length [r]])/\h1=h)∨(orE [thE o h.l.length,kErr k,soundE [r],knownE h.l.length [r]]=0/\P h1 V er))/\h.To h1 w w':=by
 have SS:=hide H.start
 rw[kagg,vagg]
 go_enter func12,ntmps12
 go_wp2_with (first|go_skip|((with_reducible show wpList ..);first|(refine zB 42 (k.cs) (by rfl) rfl rfl rfl SS ?_;clear SS;intro Xp0 Bp0 SS;simp only[nn])|(refine zB 35 (r.cs) (by rfl) rfl rfl rfl SS ?_;clear SS;intro Xp1 Bp1 SS;simp only[nn])|(refine zA 35 (zeroV.cs) (by rfl) rfl SS ?_;clear SS;intro Xc Bc SS;simp only[nn])))
 have kt:=fun {X:World} (s:h.Is X)=>there_h h o X s
 have kk:=fun {X:World} (s:Fr w X h.blocks)=>kcheck k X (hT.fr s H.low).1
 have ks:=fun {X:World} {B:Nat} (s:Fr w X h.blocks) (g:Holds X B ([r].flatMap VV.cs))=>sound_h (some ⟨B,0,none⟩) 1 [r] X (hT.fr s H.low).1 (reads_holds g) (by simp)
 have kn:=fun {X:World} {B:Nat} (s:h.Is X) (g:Holds X B ([r].flatMap VV.cs))=>known_h h (some ⟨B,0,none⟩) 1 [r] X s (reads_holds g) (by simp)
 have ko:=fun {X:World} {B:Nat} (g:Holds X B (ints [thE o h.l.length,kErr k,soundE [r],knownE h.l.length [r]]))=>or_any B 4 [thE o h.l.length,kErr k,soundE [r],knownE h.l.length [r]] X g (by simp)
 have hS1:Sy w _ h.blocks [hpO h,boxO Bp0 k.cs,boxO Bp1 r.cs,boxO Bc zeroV.cs]:=(uh SS).drew
 clear SS
 refine region_post (fun a a' X=> ∃(v17 v21 v23:Value),a'=(((((((((((((((a.put (some 11) (.pointer (some ⟨h.b,0,none⟩))).put (some 12) (.int .i64 o)).put (some 13) (.int .i64 (thE o h.l.length))).put (some 14) (.agg k.cs.toArray)).put (some 15) (.int .i64 (kErr k))).put (some 16) (.agg (r.cs).toArray)).put (some 17) v17).put (some 18) (.int .i64 (soundE [r]))).put (some 19) (.pointer (some ⟨h.b,0,none⟩))).put (some 20) (.agg (r.cs).toArray)).put (some 21) v21).put (some 22) (.int .i64 (knownE h.l.length [r]))).put (some 23) v23).put (some 24) (.int .i64 (orE [thE o h.l.length,kErr k,soundE [r],knownE h.l.length [r]]))).put (some 10) (.int .i64 (orE [thE o h.l.length,kErr k,soundE [r],knownE h.l.length [r]])))/\Sy w X h.blocks [hpO h,boxO Bp0 k.cs,boxO Bp1 r.cs,boxO Bc zeroV.cs]) ?_ ?_
 ·have cu: ∀{X:World} {M:List Ob},Sy w X h.blocks ([hpO h,boxO Bp0 k.cs,boxO Bp1 r.cs,boxO Bc zeroV.cs]++M)->Sy w X h.blocks [hpO h,boxO Bp0 k.cs,boxO Bp1 r.cs,boxO Bc zeroV.cs]:=fun h=>Sy.left h
  refine wp_region_held_drew (P:=prog) (S:=fun X=>Sy w X h.blocks _) (by kernel_rfl) (hS1) (fun hS0=> ?_)
  refine gp 0 (some 11) (.pointer (some ⟨h.b,0,none⟩)) rfl rfl (hS1) ?_
  simp only[nn]
  refine gp 1 (some 12) (.int .i64 o) rfl rfl (hS1) ?_
  simp only[nn]
  refine gq 3 (some 14) (.agg k.cs.toArray) rfl rfl (fun X hX=>ex_loadN (vs:=k.cs) 42 2 rwK szK rfl rfl (hX.hold 1 rfl) rfl rfl) (hS1) ?_
  simp only[nn]
  refine gq 5 (some 16) (.agg (r.cs).toArray) rfl rfl (fun X hX=>ex_loadN (vs:=r.cs) 35 5 rwV szV rfl rfl (hX.hold 2 rfl) rfl rfl) (hS1) ?_
  simp only[nn]
  refine gp 8 (some 19) (.pointer (some ⟨h.b,0,none⟩)) rfl rfl (hS1) ?_
  simp only[nn]
  refine gq 9 (some 20) (.agg (r.cs).toArray) rfl rfl (fun X hX=>ex_loadN (vs:=r.cs) 35 5 rwV szV rfl rfl (hX.hold 2 rfl) rfl rfl) (hS1) ?_
  simp only[nn]
  refine gr (rs:= [2,6,10]) (gcW 2 (some 13) rfl rfl (hS1) (kt (hS1.hp 0 rfl)) ?_ (gbsS 6 (some 17) rfl rfl (by kernel_rfl) (ex_bsV1 rfl rfl) (Nat.succ_pos _) hS1 (fun _ hZ=>cu hZ) ?_ (gbsS 10 (some 21) rfl rfl (by kernel_rfl) (ex_bsV1 rfl rfl) (Nat.succ_pos _) hS1 (fun _ hZ=>cu hZ) ?_ gn)))
  ·simp only[nn]
   refine gr (rs:= [4,6,10]) (gcB 4 (some 15) rfl rfl hS1 (kk hS1.fr) id ?_ (gbsS 6 (some 17) rfl rfl (by kernel_rfl) (ex_bsV1 rfl rfl) (Nat.succ_pos _) hS1 (fun _ hZ=>cu hZ) ?_ (gbsS 10 (some 21) rfl rfl (by kernel_rfl) (ex_bsV1 rfl rfl) (Nat.succ_pos _) hS1 (fun _ hZ=>cu hZ) ?_ gn)))
   ·intro Yt2 hqt2
    simp only[nn]
    refine gr (rs:= [6,10]) (gbsS 6 (some 17) rfl rfl (by kernel_rfl) (ex_bsV1 rfl rfl) (Nat.succ_pos _) hqt2 (fun _ hZ=>cu hZ) ?_ (gbsS 10 (some 21) rfl rfl (by kernel_rfl) (ex_bsV1 rfl rfl) (Nat.succ_pos _) hqt2 (fun _ hZ=>cu hZ) ?_ gn))
    ·intro Yt3 Bt3 hEt3 hqt3
     clear hEt3
     simp only[nn]
     refine gr (rs:= [7,10]) (gcB 7 (some 18) rfl rfl hqt3 (ks hqt3.fr (hqt3.hold 4 rfl)) (fun x=>cu x) ?_ (gbsS 10 (some 21) rfl rfl (by kernel_rfl) (ex_bsV1 rfl rfl) (Nat.succ_pos _) hqt3 (fun _ hZ=>cu hZ) ?_ gn))
     ·intro Yt4 hqt4
      simp only[nn]
      refine gr (rs:= [10]) (gbsS 10 (some 21) rfl rfl (by kernel_rfl) (ex_bsV1 rfl rfl) (Nat.succ_pos _) hqt4 (fun _ hZ=>cu hZ) ?_ gn)
      intro Yt5 Bt5 hEt5 hqt5
      clear hEt5
      simp only[nn]
      refine gr (rs:= [11]) (gcB 11 (some 22) rfl rfl hqt5 (kn (hqt5.hp 0 rfl) (hqt5.hold 5 rfl)) (fun x=>cu x) ?_ gn)
      intro Yt6 hqt6
      simp only[nn]
      refine gr (rs:= [12]) (gbsS 12 (some 23) rfl rfl (by kernel_rfl) (ex_bsE4 rfl rfl rfl rfl rfl) (Nat.succ_pos _) hqt6 (fun _ hZ=>cu hZ) ?_ gn)
      intro Yt7 Bt7 hEt7 hqt7
      clear hEt7
      simp only[nn]
      refine gr (rs:= [13]) (gcW 13 (some 24) rfl rfl (cu hqt7) (ko (hqt7.hold 6 rfl)) ?_ gn)
      refine gp 14 (some 10) (.int .i64 (orE [thE o h.l.length,kErr k,soundE [r],knownE h.l.length [r]])) rfl rfl (cu hqt7) ?_
      simp only[nn]
      refine wpAnyH_done (by kernel_rfl) ?_ _
      try simp only[nn]
      exact pN ⟨_,_,_,rfl,cu hqt7⟩
     ·intro Yt9 Bt9 hEt9 hqt9
      clear hEt9
      simp only[nn]
      refine gr (rs:= [7]) (gcB 7 (some 18) rfl rfl hqt9 (ks hqt9.fr (hqt9.hold 4 rfl)) (fun x=>cu x) ?_ gn)
      intro Yt10 hqt10
      simp only[nn]
      refine gr (rs:= [11]) (gcB 11 (some 22) rfl rfl hqt10 (kn (hqt10.hp 0 rfl) (hqt10.hold 5 rfl)) (fun x=>cu x) ?_ gn)
      intro Yt11 hqt11
      simp only[nn]
      refine gr (rs:= [12]) (gbsS 12 (some 23) rfl rfl (by kernel_rfl) (ex_bsE4 rfl rfl rfl rfl rfl) (Nat.succ_pos _) hqt11 (fun _ hZ=>cu hZ) ?_ gn)
      intro Yt12 Bt12 hEt12 hqt12
      clear hEt12
      simp only[nn]
      refine gr (rs:= [13]) (gcW 13 (some 24) rfl rfl (cu hqt12) (ko (hqt12.hold 6 rfl)) ?_ gn)
      refine gp 14 (some 10) (.int .i64 (orE [thE o h.l.length,kErr k,soundE [r],knownE h.l.length [r]])) rfl rfl (cu hqt12) ?_
      simp only[nn]
      refine wpAnyH_done (by kernel_rfl) ?_ _
      try simp only[nn]
      exact pN ⟨_,_,_,rfl,cu hqt12⟩
    ·intro Yt14 Bt14 hEt14 hqt14
     clear hEt14
     simp only[nn]
     refine gr (rs:= [6]) (gbsS 6 (some 17) rfl rfl (by kernel_rfl) (ex_bsV1 rfl rfl) (Nat.succ_pos _) hqt14 (fun _ hZ=>cu hZ) ?_ gn)
     intro Yt15 Bt15 hEt15 hqt15
     clear hEt15
     simp only[nn]
     refine gr (rs:= [7]) (gcB 7 (some 18) rfl rfl hqt15 (ks hqt15.fr (hqt15.hold 5 rfl)) (fun x=>cu x) ?_ gn)
     intro Yt16 hqt16
     simp only[nn]
     refine gr (rs:= [11]) (gcB 11 (some 22) rfl rfl hqt16 (kn (hqt16.hp 0 rfl) (hqt16.hold 4 rfl)) (fun x=>cu x) ?_ gn)
     intro Yt17 hqt17
     simp only[nn]
     refine gr (rs:= [12]) (gbsS 12 (some 23) rfl rfl (by kernel_rfl) (ex_bsE4 rfl rfl rfl rfl rfl) (Nat.succ_pos _) hqt17 (fun _ hZ=>cu hZ) ?_ gn)
     intro Yt18 Bt18 hEt18 hqt18
     clear hEt18
     simp only[nn]
     refine gr (rs:= [13]) (gcW 13 (some 24) rfl rfl (cu hqt18) (ko (hqt18.hold 6 rfl)) ?_ gn)
     refine gp 14 (some 10) (.int .i64 (orE [thE o h.l.length,kErr k,soundE [r],knownE h.l.length [r]])) rfl rfl (cu hqt18) ?_
     simp only[nn]
     refine wpAnyH_done (by kernel_rfl) ?_ _
     try simp only[nn]
     exact pN ⟨_,_,_,rfl,cu hqt18⟩
   ·intro Yt20 Bt20 hEt20 hqt20
    clear hEt20
    simp only[nn]
    refine gr (rs:= [4,10]) (gcB 4 (some 15) rfl rfl hqt20 (kk hqt20.fr) (fun x=>cu x) ?_ (gbsS 10 (some 21) rfl rfl (by kernel_rfl) (ex_bsV1 rfl rfl) (Nat.succ_pos _) hqt20 (fun _ hZ=>cu hZ) ?_ gn))
    ·intro Yt21 hqt21
     simp only[nn]
     refine gr (rs:= [7,10]) (gcB 7 (some 18) rfl rfl hqt21 (ks hqt21.fr (hqt21.hold 4 rfl)) (fun x=>cu x) ?_ (gbsS 10 (some 21) rfl rfl (by kernel_rfl) (ex_bsV1 rfl rfl) (Nat.succ_pos _) hqt21 (fun _ hZ=>cu hZ) ?_ gn))
     ·intro Yt22 hqt22
      simp only[nn]
      refine gr (rs:= [10]) (gbsS 10 (some 21) rfl rfl (by kernel_rfl) (ex_bsV1 rfl rfl) (Nat.succ_pos _) hqt22 (fun _ hZ=>cu hZ) ?_ gn)
      intro Yt23 Bt23 hEt23 hqt23
      clear hEt23
      simp only[nn]
      refine gr (rs:= [11]) (gcB 11 (some 22) rfl rfl hqt23 (kn (hqt23.hp 0 rfl) (hqt23.hold 5 rfl)) (fun x=>cu x) ?_ gn)
      intro Yt24 hqt24
      simp only[nn]
      refine gr (rs:= [12]) (gbsS 12 (some 23) rfl rfl (by kernel_rfl) (ex_bsE4 rfl rfl rfl rfl rfl) (Nat.succ_pos _) hqt24 (fun _ hZ=>cu hZ) ?_ gn)
      intro Yt25 Bt25 hEt25 hqt25
      clear hEt25
      simp only[nn]
      refine gr (rs:= [13]) (gcW 13 (some 24) rfl rfl (cu hqt25) (ko (hqt25.hold 6 rfl)) ?_ gn)
      refine gp 14 (some 10) (.int .i64 (orE [thE o h.l.length,kErr k,soundE [r],knownE h.l.length [r]])) rfl rfl (cu hqt25) ?_
      simp only[nn]
      refine wpAnyH_done (by kernel_rfl) ?_ _
      try simp only[nn]
      exact pN ⟨_,_,_,rfl,cu hqt25⟩
     ·intro Yt27 Bt27 hEt27 hqt27
      clear hEt27
      simp only[nn]
      refine gr (rs:= [7]) (gcB 7 (some 18) rfl rfl hqt27 (ks hqt27.fr (hqt27.hold 4 rfl)) (fun x=>cu x) ?_ gn)
      intro Yt28 hqt28
      simp only[nn]
      refine gr (rs:= [11]) (gcB 11 (some 22) rfl rfl hqt28 (kn (hqt28.hp 0 rfl) (hqt28.hold 5 rfl)) (fun x=>cu x) ?_ gn)
      intro Yt29 hqt29
      simp only[nn]
      refine gr (rs:= [12]) (gbsS 12 (some 23) rfl rfl (by kernel_rfl) (ex_bsE4 rfl rfl rfl rfl rfl) (Nat.succ_pos _) hqt29 (fun _ hZ=>cu hZ) ?_ gn)
      intro Yt30 Bt30 hEt30 hqt30
      clear hEt30
      simp only[nn]
      refine gr (rs:= [13]) (gcW 13 (some 24) rfl rfl (cu hqt30) (ko (hqt30.hold 6 rfl)) ?_ gn)
      refine gp 14 (some 10) (.int .i64 (orE [thE o h.l.length,kErr k,soundE [r],knownE h.l.length [r]])) rfl rfl (cu hqt30) ?_
      simp only[nn]
      refine wpAnyH_done (by kernel_rfl) ?_ _
      try simp only[nn]
      exact pN ⟨_,_,_,rfl,cu hqt30⟩
    ·intro Yt32 Bt32 hEt32 hqt32
     clear hEt32
     simp only[nn]
     refine gr (rs:= [4]) (gcB 4 (some 15) rfl rfl hqt32 (kk hqt32.fr) (fun x=>cu x) ?_ gn)
     intro Yt33 hqt33
     simp only[nn]
     refine gr (rs:= [7]) (gcB 7 (some 18) rfl rfl hqt33 (ks hqt33.fr (hqt33.hold 4 rfl)) (fun x=>cu x) ?_ gn)
     intro Yt34 hqt34
     simp only[nn]
     refine gr (rs:= [11]) (gcB 11 (some 22) rfl rfl hqt34 (kn (hqt34.hp 0 rfl) (hqt34.hold 5 rfl)) (fun x=>cu x) ?_ gn)
     intro Yt35 hqt35
     simp only[nn]
     refine gr (rs:= [12]) (gbsS 12 (some 23) rfl rfl (by kernel_rfl) (ex_bsE4 rfl rfl rfl rfl rfl) (Nat.succ_pos _) hqt35 (fun _ hZ=>cu hZ) ?_ gn)
     intro Yt36 Bt36 hEt36 hqt36
     clear hEt36
     simp only[nn]
     refine gr (rs:= [13]) (gcW 13 (some 24) rfl rfl (cu hqt36) (ko (hqt36.hold 6 rfl)) ?_ gn)
     refine gp 14 (some 10) (.int .i64 (orE [thE o h.l.length,kErr k,soundE [r],knownE h.l.length [r]])) rfl rfl (cu hqt36) ?_
     simp only[nn]
     refine wpAnyH_done (by kernel_rfl) ?_ _
     try simp only[nn]
     exact pN ⟨_,_,_,rfl,cu hqt36⟩
   ·intro Yt38 Bt38 hEt38 hqt38
    clear hEt38
    simp only[nn]
    refine gr (rs:= [4,6]) (gcB 4 (some 15) rfl rfl hqt38 (kk hqt38.fr) (fun x=>cu x) ?_ (gbsS 6 (some 17) rfl rfl (by kernel_rfl) (ex_bsV1 rfl rfl) (Nat.succ_pos _) hqt38 (fun _ hZ=>cu hZ) ?_ gn))
    ·intro Yt39 hqt39
     simp only[nn]
     refine gr (rs:= [6]) (gbsS 6 (some 17) rfl rfl (by kernel_rfl) (ex_bsV1 rfl rfl) (Nat.succ_pos _) hqt39 (fun _ hZ=>cu hZ) ?_ gn)
     intro Yt40 Bt40 hEt40 hqt40
     clear hEt40
     simp only[nn]
     refine gr (rs:= [7]) (gcB 7 (some 18) rfl rfl hqt40 (ks hqt40.fr (hqt40.hold 5 rfl)) (fun x=>cu x) ?_ gn)
     intro Yt41 hqt41
     simp only[nn]
     refine gr (rs:= [11]) (gcB 11 (some 22) rfl rfl hqt41 (kn (hqt41.hp 0 rfl) (hqt41.hold 4 rfl)) (fun x=>cu x) ?_ gn)
     intro Yt42 hqt42
     simp only[nn]
     refine gr (rs:= [12]) (gbsS 12 (some 23) rfl rfl (by kernel_rfl) (ex_bsE4 rfl rfl rfl rfl rfl) (Nat.succ_pos _) hqt42 (fun _ hZ=>cu hZ) ?_ gn)
     intro Yt43 Bt43 hEt43 hqt43
     clear hEt43
     simp only[nn]
     refine gr (rs:= [13]) (gcW 13 (some 24) rfl rfl (cu hqt43) (ko (hqt43.hold 6 rfl)) ?_ gn)
     refine gp 14 (some 10) (.int .i64 (orE [thE o h.l.length,kErr k,soundE [r],knownE h.l.length [r]])) rfl rfl (cu hqt43) ?_
     simp only[nn]
     refine wpAnyH_done (by kernel_rfl) ?_ _
     try simp only[nn]
     exact pN ⟨_,_,_,rfl,cu hqt43⟩
    ·intro Yt45 Bt45 hEt45 hqt45
     clear hEt45
     simp only[nn]
     refine gr (rs:= [4]) (gcB 4 (some 15) rfl rfl hqt45 (kk hqt45.fr) (fun x=>cu x) ?_ gn)
     intro Yt46 hqt46
     simp only[nn]
     refine gr (rs:= [7]) (gcB 7 (some 18) rfl rfl hqt46 (ks hqt46.fr (hqt46.hold 5 rfl)) (fun x=>cu x) ?_ gn)
     intro Yt47 hqt47
     simp only[nn]
     refine gr (rs:= [11]) (gcB 11 (some 22) rfl rfl hqt47 (kn (hqt47.hp 0 rfl) (hqt47.hold 4 rfl)) (fun x=>cu x) ?_ gn)
     intro Yt48 hqt48
     simp only[nn]
     refine gr (rs:= [12]) (gbsS 12 (some 23) rfl rfl (by kernel_rfl) (ex_bsE4 rfl rfl rfl rfl rfl) (Nat.succ_pos _) hqt48 (fun _ hZ=>cu hZ) ?_ gn)
     intro Yt49 Bt49 hEt49 hqt49
     clear hEt49
     simp only[nn]
     refine gr (rs:= [13]) (gcW 13 (some 24) rfl rfl (cu hqt49) (ko (hqt49.hold 6 rfl)) ?_ gn)
     refine gp 14 (some 10) (.int .i64 (orE [thE o h.l.length,kErr k,soundE [r],knownE h.l.length [r]])) rfl rfl (cu hqt49) ?_
     simp only[nn]
     refine wpAnyH_done (by kernel_rfl) ?_ _
     try simp only[nn]
     exact pN ⟨_,_,_,rfl,cu hqt49⟩
  ·intro Yt51 Bt51 hEt51 hqt51
   clear hEt51
   simp only[nn]
   refine gr (rs:= [2,10]) (gcW 2 (some 13) rfl rfl (cu hqt51) (kt (hqt51.hp 0 rfl)) ?_ (gbsS 10 (some 21) rfl rfl (by kernel_rfl) (ex_bsV1 rfl rfl) (Nat.succ_pos _) hqt51 (fun _ hZ=>cu hZ) ?_ gn))
   ·simp only[nn]
    refine gr (rs:= [4,10]) (gcB 4 (some 15) rfl rfl hqt51 (kk hqt51.fr) (fun x=>cu x) ?_ (gbsS 10 (some 21) rfl rfl (by kernel_rfl) (ex_bsV1 rfl rfl) (Nat.succ_pos _) hqt51 (fun _ hZ=>cu hZ) ?_ gn))
    ·intro Yt53 hqt53
     simp only[nn]
     refine gr (rs:= [7,10]) (gcB 7 (some 18) rfl rfl hqt53 (ks hqt53.fr (hqt53.hold 4 rfl)) (fun x=>cu x) ?_ (gbsS 10 (some 21) rfl rfl (by kernel_rfl) (ex_bsV1 rfl rfl) (Nat.succ_pos _) hqt53 (fun _ hZ=>cu hZ) ?_ gn))
     ·intro Yt54 hqt54
      simp only[nn]
      refine gr (rs:= [10]) (gbsS 10 (some 21) rfl rfl (by kernel_rfl) (ex_bsV1 rfl rfl) (Nat.succ_pos _) hqt54 (fun _ hZ=>cu hZ) ?_ gn)
      intro Yt55 Bt55 hEt55 hqt55
      clear hEt55
      simp only[nn]
      refine gr (rs:= [11]) (gcB 11 (some 22) rfl rfl hqt55 (kn (hqt55.hp 0 rfl) (hqt55.hold 5 rfl)) (fun x=>cu x) ?_ gn)
      intro Yt56 hqt56
      simp only[nn]
      refine gr (rs:= [12]) (gbsS 12 (some 23) rfl rfl (by kernel_rfl) (ex_bsE4 rfl rfl rfl rfl rfl) (Nat.succ_pos _) hqt56 (fun _ hZ=>cu hZ) ?_ gn)
      intro Yt57 Bt57 hEt57 hqt57
      clear hEt57
      simp only[nn]
      refine gr (rs:= [13]) (gcW 13 (some 24) rfl rfl (cu hqt57) (ko (hqt57.hold 6 rfl)) ?_ gn)
      refine gp 14 (some 10) (.int .i64 (orE [thE o h.l.length,kErr k,soundE [r],knownE h.l.length [r]])) rfl rfl (cu hqt57) ?_
      simp only[nn]
      refine wpAnyH_done (by kernel_rfl) ?_ _
      try simp only[nn]
      exact pN ⟨_,_,_,rfl,cu hqt57⟩
     ·intro Yt59 Bt59 hEt59 hqt59
      clear hEt59
      simp only[nn]
      refine gr (rs:= [7]) (gcB 7 (some 18) rfl rfl hqt59 (ks hqt59.fr (hqt59.hold 4 rfl)) (fun x=>cu x) ?_ gn)
      intro Yt60 hqt60
      simp only[nn]
      refine gr (rs:= [11]) (gcB 11 (some 22) rfl rfl hqt60 (kn (hqt60.hp 0 rfl) (hqt60.hold 5 rfl)) (fun x=>cu x) ?_ gn)
      intro Yt61 hqt61
      simp only[nn]
      refine gr (rs:= [12]) (gbsS 12 (some 23) rfl rfl (by kernel_rfl) (ex_bsE4 rfl rfl rfl rfl rfl) (Nat.succ_pos _) hqt61 (fun _ hZ=>cu hZ) ?_ gn)
      intro Yt62 Bt62 hEt62 hqt62
      clear hEt62
      simp only[nn]
      refine gr (rs:= [13]) (gcW 13 (some 24) rfl rfl (cu hqt62) (ko (hqt62.hold 6 rfl)) ?_ gn)
      refine gp 14 (some 10) (.int .i64 (orE [thE o h.l.length,kErr k,soundE [r],knownE h.l.length [r]])) rfl rfl (cu hqt62) ?_
      simp only[nn]
      refine wpAnyH_done (by kernel_rfl) ?_ _
      try simp only[nn]
      exact pN ⟨_,_,_,rfl,cu hqt62⟩
    ·intro Yt64 Bt64 hEt64 hqt64
     clear hEt64
     simp only[nn]
     refine gr (rs:= [4]) (gcB 4 (some 15) rfl rfl hqt64 (kk hqt64.fr) (fun x=>cu x) ?_ gn)
     intro Yt65 hqt65
     simp only[nn]
     refine gr (rs:= [7]) (gcB 7 (some 18) rfl rfl hqt65 (ks hqt65.fr (hqt65.hold 4 rfl)) (fun x=>cu x) ?_ gn)
     intro Yt66 hqt66
     simp only[nn]
     refine gr (rs:= [11]) (gcB 11 (some 22) rfl rfl hqt66 (kn (hqt66.hp 0 rfl) (hqt66.hold 5 rfl)) (fun x=>cu x) ?_ gn)
     intro Yt67 hqt67
     simp only[nn]
     refine gr (rs:= [12]) (gbsS 12 (some 23) rfl rfl (by kernel_rfl) (ex_bsE4 rfl rfl rfl rfl rfl) (Nat.succ_pos _) hqt67 (fun _ hZ=>cu hZ) ?_ gn)
     intro Yt68 Bt68 hEt68 hqt68
     clear hEt68
     simp only[nn]
     refine gr (rs:= [13]) (gcW 13 (some 24) rfl rfl (cu hqt68) (ko (hqt68.hold 6 rfl)) ?_ gn)
     refine gp 14 (some 10) (.int .i64 (orE [thE o h.l.length,kErr k,soundE [r],knownE h.l.length [r]])) rfl rfl (cu hqt68) ?_
     simp only[nn]
     refine wpAnyH_done (by kernel_rfl) ?_ _
     try simp only[nn]
     exact pN ⟨_,_,_,rfl,cu hqt68⟩
   ·intro Yt70 Bt70 hEt70 hqt70
    clear hEt70
    simp only[nn]
    refine gr (rs:= [2]) (gcW 2 (some 13) rfl rfl (cu hqt70) (kt (hqt70.hp 0 rfl)) ?_ gn)
    simp only[nn]
    refine gr (rs:= [4]) (gcB 4 (some 15) rfl rfl hqt70 (kk hqt70.fr) (fun x=>cu x) ?_ gn)
    intro Yt72 hqt72
    simp only[nn]
    refine gr (rs:= [7]) (gcB 7 (some 18) rfl rfl hqt72 (ks hqt72.fr (hqt72.hold 4 rfl)) (fun x=>cu x) ?_ gn)
    intro Yt73 hqt73
    simp only[nn]
    refine gr (rs:= [11]) (gcB 11 (some 22) rfl rfl hqt73 (kn (hqt73.hp 0 rfl) (hqt73.hold 5 rfl)) (fun x=>cu x) ?_ gn)
    intro Yt74 hqt74
    simp only[nn]
    refine gr (rs:= [12]) (gbsS 12 (some 23) rfl rfl (by kernel_rfl) (ex_bsE4 rfl rfl rfl rfl rfl) (Nat.succ_pos _) hqt74 (fun _ hZ=>cu hZ) ?_ gn)
    intro Yt75 Bt75 hEt75 hqt75
    clear hEt75
    simp only[nn]
    refine gr (rs:= [13]) (gcW 13 (some 24) rfl rfl (cu hqt75) (ko (hqt75.hold 6 rfl)) ?_ gn)
    refine gp 14 (some 10) (.int .i64 (orE [thE o h.l.length,kErr k,soundE [r],knownE h.l.length [r]])) rfl rfl (cu hqt75) ?_
    simp only[nn]
    refine wpAnyH_done (by kernel_rfl) ?_ _
    try simp only[nn]
    exact pN ⟨_,_,_,rfl,cu hqt75⟩
  ·intro Yt77 Bt77 hEt77 hqt77
   clear hEt77
   simp only[nn]
   refine gr (rs:= [2,6]) (gcW 2 (some 13) rfl rfl (cu hqt77) (kt (hqt77.hp 0 rfl)) ?_ (gbsS 6 (some 17) rfl rfl (by kernel_rfl) (ex_bsV1 rfl rfl) (Nat.succ_pos _) hqt77 (fun _ hZ=>cu hZ) ?_ gn))
   ·simp only[nn]
    refine gr (rs:= [4,6]) (gcB 4 (some 15) rfl rfl hqt77 (kk hqt77.fr) (fun x=>cu x) ?_ (gbsS 6 (some 17) rfl rfl (by kernel_rfl) (ex_bsV1 rfl rfl) (Nat.succ_pos _) hqt77 (fun _ hZ=>cu hZ) ?_ gn))
    ·intro Yt79 hqt79
     simp only[nn]
     refine gr (rs:= [6]) (gbsS 6 (some 17) rfl rfl (by kernel_rfl) (ex_bsV1 rfl rfl) (Nat.succ_pos _) hqt79 (fun _ hZ=>cu hZ) ?_ gn)
     intro Yt80 Bt80 hEt80 hqt80
     clear hEt80
     simp only[nn]
     refine gr (rs:= [7]) (gcB 7 (some 18) rfl rfl hqt80 (ks hqt80.fr (hqt80.hold 5 rfl)) (fun x=>cu x) ?_ gn)
     intro Yt81 hqt81
     simp only[nn]
     refine gr (rs:= [11]) (gcB 11 (some 22) rfl rfl hqt81 (kn (hqt81.hp 0 rfl) (hqt81.hold 4 rfl)) (fun x=>cu x) ?_ gn)
     intro Yt82 hqt82
     simp only[nn]
     refine gr (rs:= [12]) (gbsS 12 (some 23) rfl rfl (by kernel_rfl) (ex_bsE4 rfl rfl rfl rfl rfl) (Nat.succ_pos _) hqt82 (fun _ hZ=>cu hZ) ?_ gn)
     intro Yt83 Bt83 hEt83 hqt83
     clear hEt83
     simp only[nn]
     refine gr (rs:= [13]) (gcW 13 (some 24) rfl rfl (cu hqt83) (ko (hqt83.hold 6 rfl)) ?_ gn)
     refine gp 14 (some 10) (.int .i64 (orE [thE o h.l.length,kErr k,soundE [r],knownE h.l.length [r]])) rfl rfl (cu hqt83) ?_
     simp only[nn]
     refine wpAnyH_done (by kernel_rfl) ?_ _
     try simp only[nn]
     exact pN ⟨_,_,_,rfl,cu hqt83⟩
    ·intro Yt85 Bt85 hEt85 hqt85
     clear hEt85
     simp only[nn]
     refine gr (rs:= [4]) (gcB 4 (some 15) rfl rfl hqt85 (kk hqt85.fr) (fun x=>cu x) ?_ gn)
     intro Yt86 hqt86
     simp only[nn]
     refine gr (rs:= [7]) (gcB 7 (some 18) rfl rfl hqt86 (ks hqt86.fr (hqt86.hold 5 rfl)) (fun x=>cu x) ?_ gn)
     intro Yt87 hqt87
     simp only[nn]
     refine gr (rs:= [11]) (gcB 11 (some 22) rfl rfl hqt87 (kn (hqt87.hp 0 rfl) (hqt87.hold 4 rfl)) (fun x=>cu x) ?_ gn)
     intro Yt88 hqt88
     simp only[nn]
     refine gr (rs:= [12]) (gbsS 12 (some 23) rfl rfl (by kernel_rfl) (ex_bsE4 rfl rfl rfl rfl rfl) (Nat.succ_pos _) hqt88 (fun _ hZ=>cu hZ) ?_ gn)
     intro Yt89 Bt89 hEt89 hqt89
     clear hEt89
     simp only[nn]
     refine gr (rs:= [13]) (gcW 13 (some 24) rfl rfl (cu hqt89) (ko (hqt89.hold 6 rfl)) ?_ gn)
     refine gp 14 (some 10) (.int .i64 (orE [thE o h.l.length,kErr k,soundE [r],knownE h.l.length [r]])) rfl rfl (cu hqt89) ?_
     simp only[nn]
     refine wpAnyH_done (by kernel_rfl) ?_ _
     try simp only[nn]
     exact pN ⟨_,_,_,rfl,cu hqt89⟩
   ·intro Yt91 Bt91 hEt91 hqt91
    clear hEt91
    simp only[nn]
    refine gr (rs:= [2]) (gcW 2 (some 13) rfl rfl (cu hqt91) (kt (hqt91.hp 0 rfl)) ?_ gn)
    simp only[nn]
    refine gr (rs:= [4]) (gcB 4 (some 15) rfl rfl hqt91 (kk hqt91.fr) (fun x=>cu x) ?_ gn)
    intro Yt93 hqt93
    simp only[nn]
    refine gr (rs:= [7]) (gcB 7 (some 18) rfl rfl hqt93 (ks hqt93.fr (hqt93.hold 5 rfl)) (fun x=>cu x) ?_ gn)
    intro Yt94 hqt94
    simp only[nn]
    refine gr (rs:= [11]) (gcB 11 (some 22) rfl rfl hqt94 (kn (hqt94.hp 0 rfl) (hqt94.hold 4 rfl)) (fun x=>cu x) ?_ gn)
    intro Yt95 hqt95
    simp only[nn]
    refine gr (rs:= [12]) (gbsS 12 (some 23) rfl rfl (by kernel_rfl) (ex_bsE4 rfl rfl rfl rfl rfl) (Nat.succ_pos _) hqt95 (fun _ hZ=>cu hZ) ?_ gn)
    intro Yt96 Bt96 hEt96 hqt96
    clear hEt96
    simp only[nn]
    refine gr (rs:= [13]) (gcW 13 (some 24) rfl rfl (cu hqt96) (ko (hqt96.hold 6 rfl)) ?_ gn)
    refine gp 14 (some 10) (.int .i64 (orE [thE o h.l.length,kErr k,soundE [r],knownE h.l.length [r]])) rfl rfl (cu hqt96) ?_
    simp only[nn]
    refine wpAnyH_done (by kernel_rfl) ?_ _
    try simp only[nn]
    exact pN ⟨_,_,_,rfl,cu hqt96⟩
 ·rintro a' X ⟨v17,v21,v23,rfl,hS9⟩
  simp only[nn]
  have SS:=hide hS9
  clear hS9
  by_cases hc:orE [thE o h.l.length,kErr k,soundE [r],knownE h.l.length [r]]=0
  ·obtain⟨j,q,ho_,hj⟩:=th_zero (h:=h) (o:=o) (orE_zero hc (thE o h.l.length) (by simp))
   have HO_:=hide ho_
   clear ho_
   go_wp2_with (first|go_skip|((with_reducible show wpList ..);first|(refine rd rfl (ex_neE0 rfl rfl rfl hc) ?_;simp only[nn])|(refine zL (k.cs) 42 2 1 rwK szK (by rfl) rfl rfl SS rfl rfl rfl ?_;simp only[nn])|(refine zL (r.cs) 35 5 2 rwV szV (by rfl) rfl rfl SS rfl rfl rfl ?_;simp only[nn])))
   have HC:=hC j q _ (uh HO_) hj hc (HP.To.end H (uh SS) rfl)
   rw[kagg,vagg] at HC
   rw[←uh HO_] at HC
   refine HC.mono ?_
   rintro _ Y9 ⟨h1,V,er,rfl,hP,T9⟩
   replace SS:=hide ((uh SS).heap 0 rfl T9)
   have hb9:h1.b=h.b:=T9.hb
   clear T9 HC
   rw[vagg]
   go_wp2_with (first|go_skip|((with_reducible show wpList ..);first|(refine zS (V.cs) 3 35 (by rfl) rfl rfl rfl rfl (oneV _) szV SS rfl ?_;clear SS;intro Xy SS;simp only[nn])))
   refine bodyPost_ret (res_ct rwV szV rfl rfl rfl ((uh SS).hold 3 rfl) rfl) rfl ?_
   exact⟨h1,V,er,rfl, .inr ⟨hc,hP⟩,HP.To.end H (uh SS) hb9⟩
  ·go_wp2_with (first|go_skip|((with_reducible show wpList ..);first|(refine rd rfl (ex_neE1 rfl rfl rfl hc) ?_;simp only[nn])|(refine rd rfl (ex_zeroV rfl) ?_;simp only[nn])|(refine zS (zeroV.cs) 3 35 (by rfl) rfl rfl rfl rfl (oneV _) szV SS rfl ?_;clear SS;intro Xz SS;simp only[nn])))
   refine bodyPost_ret (res_ct rwV szV rfl rfl rfl ((uh SS).hold 3 rfl) rfl) rfl ?_
   exact⟨h,zeroV,_,rfl, .inl ⟨hc,rfl,rfl⟩,HP.To.end H (uh SS) rfl⟩
end
end Go.Proofs.YthjnflilfjcgiaaGreatFmt
namespace Go.Proofs.YthjnflilfjcgiaaGreatFmt.arrayTells
theorem stops : Tryz.pinned.checked.prog.stops = ["fmt.Sprintf"] := by kernel_rfl
theorem stopKnobs:Tryz.pinned.checked.prog.stopKnobs= []:=by kernel_rfl
theorem quiet (os:Os):Stop.quiet Tryz.pinned.checked.prog os:=by
 intro k hk
 rw[stopKnobs] at hk
 cases hk
theorem k_wf:Rows.arrayTellsRow.wfByText (OpenSpec.ofChange Rows.arrayTellsSpec)=true:=by kernel_rfl
theorem k_maps:mapsRowed Tryz.pinned.checked.prog=true:=by kernel_rfl
theorem k_tie:namedTie Tryz.pinned.checked.prog Rows.arrayTellsRow.namedList (OpenSpec.ofChange Rows.arrayTellsSpec).vars=true:=by kernel_rfl
theorem k_fn:Tryz.pinned.checked.prog.funcNamed Rows.arrayTellsRow.func=some 3:=by kernel_rfl
theorem k_read:(Tryz.f3.params.toList.all fun t=>Tryz.pinned.checked.prog.readableRec t)=true:=by kernel_rfl
theorem k_word:Tryz.pinned.checked.prog.envWorded=true:=by kernel_rfl
theorem k_in:Rows.arrayTellsRow.inPlace=Tryz.pinned.checked.prog.inPlace 3:=by kernel_rfl
theorem k_un:Rows.arrayTellsRow.unfollowed=Tryz.pinned.checked.prog.unfollowed 3:=by kernel_rfl
theorem k_rec:Rows.arrayTellsRow.recurses=Tryz.pinned.checked.prog.recurses 3:=by kernel_rfl
theorem k_named:Rows.arrayTellsRow.named=Tryz.pinned.checked.prog.varsNamed 3:=by kernel_rfl
end Go.Proofs.YthjnflilfjcgiaaGreatFmt.arrayTells
namespace Go.Proofs.YthjnflilfjcgiaaGreatFmt.arrayTells
theorem k_mp:Rows.arrayTellsRow.maps=(Tryz.f3.params.toList++(OpenSpec.ofChange Rows.arrayTellsSpec).bare.plain.varTypes Tryz.pinned.checked.prog).any (Tryz.pinned.checked.prog.mapsRec ·):=by kernel_rfl
theorem k_if:Rows.arrayTellsRow.ifaces=(Tryz.f3.params.toList++(OpenSpec.ofChange Rows.arrayTellsSpec).bare.plain.varTypes Tryz.pinned.checked.prog).any (Tryz.pinned.checked.prog.ifacesRec ·):=by kernel_rfl
theorem k_mo:Rows.arrayTellsRow.mapsOut=Tryz.pinned.checked.prog.mapsAmong Tryz.f3.resultTypes.toList:=by kernel_rfl
theorem k_lo:Rows.arrayTellsRow.loops=(Tryz.f3.params.toList++(OpenSpec.ofChange Rows.arrayTellsSpec).bare.plain.varTypes Tryz.pinned.checked.prog).any (Tryz.pinned.checked.prog.loopsFrom ·):=by kernel_rfl
theorem k_wk:Rows.arrayTellsRow.wideKeys=(Tryz.f3.params.toList++(OpenSpec.ofChange Rows.arrayTellsSpec).bare.plain.varTypes Tryz.pinned.checked.prog++Tryz.f3.resultTypes.toList).any (Tryz.pinned.checked.prog.wideKeysFrom ·):=by kernel_rfl
theorem k_vars:((OpenSpec.ofChange Rows.arrayTellsSpec).vars.all fun n=>Tryz.pinned.checked.prog.varReadable n)=true:=by kernel_rfl
end Go.Proofs.YthjnflilfjcgiaaGreatFmt.arrayTells
namespace Go.Proofs.YthjnflilfjcgiaaGreatFmt.arrayTells
theorem k_main : Tryz.pinned.checked.prog.mainIs = some (true, "71905c41c0bfb6b1f69febc2690571ab80886dcab5aa2341eefd0ec2dfb8b413".toList) := by kernel_rfl
theorem k_looks:true=Tryz.pinned.checked.prog.looks []:=by kernel_rfl
theorem k_fun:(Tryz.f3.params.toList.all fun t=> !Tryz.pinned.checked.prog.wantsStandIn t)=true:=by kernel_rfl
theorem k_goes:false=Rows.arrayTellsRow.goesBy Tryz.pinned.checked.prog:=by kernel_rfl
theorem k_enter:Tryz.pinned.checked.prog.mayEnter=true:=by kernel_rfl
theorem k_res:(Tryz.f3.resultTypes.toList.all fun t=>Tryz.pinned.checked.prog.readableRec t && decide (t<Tryz.pinned.checked.prog.types.size))=true:=by kernel_rfl
theorem k_heard:Tryz.pinned.checked.prog.stopsHeard=true:=by kernel_rfl
theorem k_io:Rows.arrayTellsRow.ifacesOut=Tryz.f3.resultTypes.toList.any (Tryz.pinned.checked.prog.ifacesRec ·):=by kernel_rfl
theorem k_loo:Rows.arrayTellsRow.loopsOut=Tryz.f3.resultTypes.toList.any (Tryz.pinned.checked.prog.loopsFrom ·):=by kernel_rfl
theorem k_kinds:Rows.arrayTellsRow.kinds=(if Rows.arrayTellsRow.domain.isEmpty then [] else Tryz.f3.params.toList.map fun t=>match Tryz.pinned.checked.prog.underlying t with|some (.int k)=>some k|_=>none):=by kernel_rfl
theorem k_pin:Rows.arrayTellsRow.pinned=Rows.arrayTellsRow.pinnedBy:=by kernel_rfl
theorem k_keys:Rows.arrayTellsRow.plainKeys=Tryz.pinned.checked.prog.plainKeys:=by kernel_rfl
theorem k_lift:Rows.arrayTellsRow.lifted=Tryz.pinned.checked.prog.liftsFinal:=by kernel_rfl
theorem k_make:Tryz.pinned.checked.prog.make=some Rows.arrayTellsRow.make:=by kernel_rfl
theorem k_v1:Rows.arrayTellsRow.veiled=(Tryz.f3.params.toList++(OpenSpec.ofChange Rows.arrayTellsSpec).bare.plain.varTypes Tryz.pinned.checked.prog++Tryz.f3.resultTypes.toList).any (Tryz.pinned.checked.prog.veiledRec ·):=by kernel_rfl
theorem k_v2:Rows.arrayTellsRow.veiledFits Tryz.pinned.checked.prog Tryz.f3.params.toList (Tryz.f3.params.toList++(OpenSpec.ofChange Rows.arrayTellsSpec).bare.plain.varTypes Tryz.pinned.checked.prog++Tryz.f3.resultTypes.toList)=true:=by kernel_rfl
theorem k_inst:Tryz.f3.isInstance Tryz.pinned.checked.prog Rows.arrayTellsRow.origin Rows.arrayTellsRow.targs:=of_decide_eq_true (by kernel_rfl)
theorem k_wrap:Tryz.f3.isWrapper Tryz.pinned.checked.prog Rows.arrayTellsRow.wrapper Rows.arrayTellsRow.mainSum:=by
 unfold Func.isWrapper
 rw[if_neg (of_decide_eq_false (by kernel_rfl))]
 exact⟨rfl,rfl⟩
end Go.Proofs.YthjnflilfjcgiaaGreatFmt.arrayTells
