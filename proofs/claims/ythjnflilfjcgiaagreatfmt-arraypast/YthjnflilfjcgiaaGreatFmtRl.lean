import Derived.Test.YthjnflilfjcgiaaGreatFmtRh
import Derived.RangeFuncWrites
import Derived.OrdersHeld
import Derived.OrdersIn
import Derived.Sort.LoopGhostIn
set_option linter.all false
namespace Go.Proofs.YthjnflilfjcgiaaGreatFmt
set_option maxRecDepth 100000
set_option maxHeartbeats 0
section
open Go Go.Proofs Go.Maps Go.RowKit FM Tryz
section
variable {σ α : Type} {F : Fence} {n : Nat} {P : Program}
def AbN {β:Type} (J:β->World->Prop):Prop:= ∀s X Y,J s X->X.grownBy Y none->J s Y
def SeqBy (F:Fence) (n:Nat) (P:Program) (g:Nat) (lb:Array Value) (Qa:α->Array Value) (Tab:σ->World->Prop) (V:σ->α->Prop) (nx:σ->α->σ->Prop) (Fin:σ->Prop) (s0:σ) (w:World):Prop:=
 ∀(l:Nat) (J:σ->World->Prop) (Jx:Unit->World->Prop) (W:World),Below w.heap.size w W->AbN J->AbN Jx->(∀s X,J s X->Tab s X)->
  (∀s x X,J s X->V s x->YieldAt F (n - 1) P l (Qa x) X fun e Y=>(e= .returned (.bool true)/\ ∃s',nx s x s'/\J s' Y)∨(e= .returned (.bool false)/\Jx () Y))->J s0 W->
  CallsIn F n P g (#[.func (.yield l) #[] #[]]++lb) W fun e Y=>(∃v,e= .returned v)/\((∃s,Fin s/\J s Y)∨Jx () Y)
def LD (o:Obj):Prop:=(∃q,o= .loop q)∨ ∃d,o= .deferred d
def KL (X Y:World):Prop:= ∀(k:Nat) (o:Obj),X.heap[k]? =some o->LD o->Y.heap[k]? =some o
theorem KL.refl (X:World):KL X X:=fun _ _ h _=>h
def ZbX (B:Nat) (I:σ->World->Prop) (Ix:Code->World->Prop) (nx:σ->α->σ->Prop) (s:σ) (x:α) (W:World):Exit->Act->World->Prop
 | .normal,_,Y=>KL W Y/\ ∃s',nx s x s'/\I s' Y
 | .ret,_,Y=>KL W Y/\Ix .ret Y
 | .exit id,_,Y=>KL W Y/\Ix (.exit id) Y
 | .goto t,_,Y=>KL W Y/\Ix (.goto t) Y
 | .panic _,_,_=>False
 | .outgrown,_,_=>False
def Jv (fn:FuncId) (a:Act) (ps:Array Tmp) (assign body:Code) (D:Nat) (st:LoopState) (pe:Option Code):Loop:={state:=st,pending:=pe,fn,tmps:=a.tmps,params:=ps,assign,body,defers:=D}
def Kept (L D:Nat) (r:Loop) (W:World):Prop:=W.heap[L]? =some (.loop r)/\W.heap[D]? =some (.deferred (some []))
theorem Kept.grown {L D:Nat} {r:Loop} {A B:World} {row:Option Nat} (h:Kept L D r A) (hg:A.grownBy B row) (hr: ∀q,row=some q-> ∃o:Obj,A.heap[q]? =some o/\o.isWalk=true):Kept L D r B:=
 ⟨(grownBy_keeps hg hr h.1 rfl).trans h.1,(grownBy_keeps hg hr h.2 rfl).trans h.2⟩
theorem Kept.from {L D:Nat} {r:Loop} {X Y:World} (h:Kept L D r X) (hk:KL X Y):Kept L D r Y:=⟨hk _ _ h.1 (.inl ⟨_,rfl⟩),hk _ _ h.2 (.inr ⟨_,rfl⟩)⟩
theorem Kept.put {L D:Nat} {r r':Loop} {X:World} (h:Kept L D r X) (hne:L≠D):Kept L D r' (X.putObj L (.loop r')):=
 ⟨World.putObj_heap_same (Array.getElem?_eq_some_iff.1 h.1).1,(World.putObj_heap_other hne.symm).trans h.2⟩
def OwnL {β:Type} (B:Nat) (I:β->World->Prop):Prop:= ∀s X Y row,I s X->X.grownBy Y row->(∀r,row=some r->B<=r/\ ∃o:Obj,X.heap[r]? =some o/\ ∃q,o= .loop q)->I s Y
theorem OwnL.alloc {β:Type} {B:Nat} {I:β->World->Prop} (h:OwnL B I) {s:β} {W:World} (o:Obj) (hs:I s W):I s (W.alloc o):=by
 have hb:Below W.heap.size W (W.alloc o):=(Below.refl _ _).alloc (Nat.le_refl _) _
 exact h s W _ none hs ⟨hb.os,hb.tape,hb.output,hb.size,fun k hk _=>hb.block k hk⟩ (fun r e=>by cases e)
theorem OwnL.putLoop {β:Type} {B:Nat} {I:β->World->Prop} (h:OwnL B I) {s:β} {W:World} {l:Nat} {q:Loop} (o:Obj) (hs:I s W) (hl:B<=l) (hq:W.heap[l]? =some (.loop q)):I s (W.putObj l o):=
 h s W _ (some l) hs (grownBy_putObj' W l o) (fun r e=>by cases e;exact⟨hl,_,hq,q,rfl⟩)
theorem ZaG {g:Operand} {ps:Array Tmp} {assign body:Code} {Q:Exit->Act->World->Prop} {a:Act} {w:World}
  (hro:F.round=none) (h1:1<=n) {gf:Nat} {lb:Array Value} (hg:a.eval g= .func (.func gf) #[] lb) (hFg:F.fn gf) (eg: ∀args w,(callFunc gf args).run P w= .ok (.enter gf args) w)
  {Qa:α->Array Value} {Tab:σ->World->Prop} {V:σ->α->Prop} {nx:σ->α->σ->Prop} {Fin:σ->Prop} {s0:σ} {w0:World} (hseq:SeqBy F (n - 1) P gf lb Qa Tab V nx Fin s0 w0) (hb0:Below w0.heap.size w0 w) (hps: ∀x,(Qa x).size=ps.size)
  (I:σ->World->Prop) (Ix:Code->World->Prop) (hIT: ∀s X,I s X->Tab s X) (hI:OwnL w.heap.size I) (hIx: ∀c,OwnL w.heap.size (fun (_:Unit) W=>Ix c W)) (h0:I s0 w) (Ax:α->Act->World->Prop) (hAx: ∀x a',OwnFrom w.heap.size (fun (_:Unit) W=>Ax x a' W))
  (hassign: ∀(l:Nat) (s:σ) (x:α) (W:World) (K:Act->World->Prop),I s W->V s x->(∀a' Y,KL W Y->I s Y->Ax x a' Y->K a' Y)->
   assign.wpIn (F.inRound l) (n - 1 - 1) P (Exit.then K (fun _ _ _=>False)) {tmps:=(ps.zip (Qa x)).foldl (fun t (p,v)=>t.setIfInBounds p v) a.tmps,defers:= []} W)
  (hbody: ∀(l:Nat) (s:σ) (x:α) (a':Act) (W:World),w.heap.size<=l->I s W->V s x->Ax x a' W->body.wpIn (F.inRound l) (n - 1 - 1) P (ZbX w.heap.size I Ix nx s x W) a' W)
  (hdone: ∀(D:Nat) (s:σ) (W:World),w.heap.size<=D->Fin s->I s W->W.heap[D]? =some (.deferred (some []))->Q .normal {a with defers:={target:= .collected D,args:= #[]}::a.defers} W)
  (hstop: ∀(D:Nat) (c:Code) (W:World),w.heap.size<=D->Ix c W->W.heap[D]? =some (.deferred (some []))->c.wpIn F n P Q {a with defers:={target:= .collected D,args:= #[]}::a.defers} W):
  (Code.rangeFunc g ps assign body).wpIn F n P Q a w:=by
 refine wpIn_rangeFunc fun fn hfn=> ?_
 have hnd:w.heap.size+1≠w.heap.size:=by omega
 have hk1:Kept (w.heap.size+1) w.heap.size (Jv fn a ps assign body w.heap.size .ready none) ((w.alloc (.deferred (some []))).alloc (.loop (Jv fn a ps assign body w.heap.size .ready none))):=by
  refine⟨?_,(Below.heap_alloc _ _ _ (by simp)).trans (World.alloc_heap_new w _)⟩
  have:=World.alloc_heap_new (w.alloc (.deferred (some []))) (.loop (Jv fn a ps assign body w.heap.size .ready none))
  rwa [World.size_alloc] at this
 have hz1:w.heap.size<=((w.alloc (.deferred (some []))).alloc (.loop (Jv fn a ps assign body w.heap.size .ready none))).heap.size:=by simp;omega
 have hen:(Instr.enterLoop fn a.tmps ps assign body F.round).run P w= .ok (w.heap.size+1, [{target:= .collected w.heap.size,args:= #[]}]) ((w.alloc (.deferred (some []))).alloc (.loop (Jv fn a ps assign body w.heap.size .ready none))):=by
  rw[hro]
  exact run_enterLoop_outer _ _ _ _ _
 have hI1:I s0 ((w.alloc (.deferred (some []))).alloc (.loop (Jv fn a ps assign body w.heap.size .ready none))):=hI.alloc _ (hI.alloc _ h0)
 have hb1:Below w0.heap.size w0 ((w.alloc (.deferred (some []))).alloc (.loop (Jv fn a ps assign body w.heap.size .ready none))):=hb0.trans ((((Below.refl _ w).alloc (Nat.le_refl _) _).alloc (by simp) _).mono hb0.size)
 generalize (w.alloc (.deferred (some []))).alloc (.loop (Jv fn a ps assign body w.heap.size .ready none))=X at hk1 hz1 hen hI1 hb1
 refine⟨_,_,X,{target:= .fn (.func gf) lb,args:= #[.func (.yield (w.heap.size+1)) #[] #[]]},X,gf, #[.func (.yield (w.heap.size+1)) #[] #[]]++lb,X,hen, ?_, ?_, ?_,fun _=>h1, ?_⟩
 ·simp only[resolve,hg]
  simp[go_sem]
 ·intro f hf
  simp[Target.leads] at hf
  exact hf▸hFg
 ·simp[invoke,go_sem,eg]
 refine(hseq (w.heap.size+1) (fun s W=>I s W/\Kept (w.heap.size+1) w.heap.size (Jv fn a ps assign body w.heap.size .ready none) W)
  (fun _ W=> ∃c,Ix c W/\Kept (w.heap.size+1) w.heap.size (Jv fn a ps assign body w.heap.size .done (some c)) W) X hb1
  (fun s A B hs hgr=>⟨hI s A B none hs.1 hgr (fun r e=>by cases e),hs.2.grown hgr (fun q e=>by cases e)⟩)
  (fun _ A B hs hgr=>by
   obtain⟨c,h2,h3⟩:=hs
   exact⟨c,hIx c () A B none h2 hgr (fun r e=>by cases e),h3.grown hgr (fun q e=>by cases e)⟩)
  (fun s W h=>hIT s W h.1) ?_ ⟨hI1,hk1⟩).mono ?_
 ·rintro s x W ⟨hi,hk⟩ hV
  have hy:=run_yield (P:=P) (args:=Qa x) hk.1 (hps x)
  refine⟨fn,_,assign,body,hy,roundIn_of_wpIn hfn (hassign _ s x W _ hi hV fun a' Y hkf hiY hax=> ?_)⟩
  have hkY:=hk.from hkf
  have hkB:=hkY.put (r':=Jv fn a ps assign body w.heap.size .busy none) hnd
  refine⟨_,run_beginRound hkY.1 rfl, ?_⟩
  refine wpIn_mono (hbody _ s x a' _ (by omega) (hI.putLoop _ hiY (by omega) hkY.1) hV ((hAx x a').putObj (s:=()) _ hax (by omega) hkY.1 rfl)) ?_
  have fin: ∀(jump:Option Code) (Z:World),KL (Y.putObj (w.heap.size+1) (.loop (Jv fn a ps assign body w.heap.size .busy none))) Z->
    (Instr.endRound (w.heap.size+1) jump).run P Z= .ok (.bool jump.isNone) (Z.putObj (w.heap.size+1) (.loop (Jv fn a ps assign body w.heap.size (if jump.isNone then .ready else .done) jump)))/\Z.heap[w.heap.size+1]? =some (.loop (Jv fn a ps assign body w.heap.size .busy none))/\
    Kept (w.heap.size+1) w.heap.size (Jv fn a ps assign body w.heap.size (if jump.isNone then .ready else .done) jump) (Z.putObj (w.heap.size+1) (.loop (Jv fn a ps assign body w.heap.size (if jump.isNone then .ready else .done) jump))):=fun jump Z hkz=>by
   have hZ:=hkB.from hkz
   exact⟨run_endRound (P:=P) jump hZ.1,hZ.1,hZ.put hnd⟩
  intro e a3 Z hp
  match e,hp with
  | .normal,⟨hkz,s',hn,hi'⟩=>
   obtain⟨hr,hl,hk'⟩:=fin none Z hkz
   exact⟨_,_,hr, .inl ⟨rfl,s',hn,hI.putLoop _ hi' (by omega) hl,hk'⟩⟩
  | .ret,⟨hkz,hi'⟩=>
   obtain⟨hr,hl,hk'⟩:=fin (some .ret) Z hkz
   exact⟨_,_,hr, .inr ⟨rfl, .ret,(hIx _).putLoop (s:=()) _ hi' (by omega) hl,hk'⟩⟩
  | .exit id,⟨hkz,hi'⟩=>
   obtain⟨hr,hl,hk'⟩:=fin (some (.exit id)) Z hkz
   exact⟨_,_,hr, .inr ⟨rfl, .exit id,(hIx _).putLoop (s:=()) _ hi' (by omega) hl,hk'⟩⟩
  | .goto t,⟨hkz,hi'⟩=>
   obtain⟨hr,hl,hk'⟩:=fin (some (.goto t)) Z hkz
   exact⟨_,_,hr, .inr ⟨rfl, .goto t,(hIx _).putLoop (s:=()) _ hi' (by omega) hl,hk'⟩⟩
 ·rintro e Y ⟨⟨v,rfl⟩,⟨s,hF,hi,hk⟩|⟨c,hi,hk⟩⟩
  ·exact⟨none,_,run_endLoop (P:=P) hk.1 (by simp[Jv]),hdone _ s _ (Nat.le_refl _) hF (hI.putLoop _ hi (by omega) hk.1) ((World.putObj_heap_other hnd.symm).trans hk.2)⟩
  ·exact⟨some c,_,run_endLoop (P:=P) hk.1 (by simp[Jv]),hstop _ c _ (Nat.le_refl _) ((hIx c).putLoop (s:=()) _ hi (by omega) hk.1) ((World.putObj_heap_other hnd.symm).trans hk.2)⟩
end
section
variable {n l : Nat} {P : Program} {ops : Array Oper} {Q : Exit → Act → World → Prop} {md : Region.Mode}
def Zce (ops:Array Oper):Bool:=ops.all fun o=>match o.op with
 | .defer _=>false
 |_=>true
theorem ZaO (h:Zce ops=true) {o:Oper} (ho:o∈ops) (c:Call):o.op≠ .defer c:=by
 intro e
 have h1:=Array.all_eq_true_iff_forall_mem.1 h o ho
 rw[e] at h1
 cases h1
theorem ZbB {row:String} {args:Array Value} {w:World} {R:Value->World->Prop} (h:Rows P row args w R):RowsIn (Fence.wide.inRound l) n P row args w R:=by
 intro c cs hr
 obtain⟨v,w',r,s⟩:=h c cs
 exact⟨v,w',r,stepsIn_wide.2 s⟩
theorem op_round {o:Oper} {a:Act} {w:World} {K K':Act->World->Prop} (hnd: ∀c,o.op≠ .defer c) (hQ: ¬LetsOut Q) (hK: ∀a w,K a w->K' a w) (h:o.wp P a w K Q):o.wpIn (Fence.wide.inRound l) n P a w K' Q:=by
 refine⟨fun f _=>trivial, ?_⟩
 rw[show o.semAt (Fence.wide.inRound l).round a.eval=execOp a.eval o from Oper.semAt_some l _ _ hnd]
 unfold Oper.wp at h
 generalize (execOp a.eval o).run P w=r at *
 cases r with
 |ok x X=>
  cases x<;>simp only[Oper.upon] at h<;>simp only[Oper.uponIn]
  case value=>exact hK _ _ h
  case skip=>exact hK _ _ h
  case defer=>exact hK _ _ h
  case enter f args=>
   refine⟨(fun h2=>by cases h2), ?_⟩
   exact CallsIn.mono (callsIn_wide.2 h:CallsIn Fence.wide (n - 1) P f args X _) (fun e Y he=>by cases e<;>first|exact hK _ _ he|exact he)
  case row row args=>
   exact⟨(fun h2=>by cases h2),RowsIn.mono (ZbB h) (fun v Y he=>hK _ _ he)⟩
 |halt x X=>cases x<;>simp only[Oper.upon] at h<;>simp only[Oper.uponIn]<;>exact h
theorem Oq (hQ: ¬LetsOut Q): ∀(rest:List Oper) (a:Act) (w:World),(∀o∈rest,∀c,o.op≠ .defer c)->wpList P ops Q rest a w->wpListIn (Fence.wide.inRound l) n P ops Q rest a w
 | [],_,_,_,h=>h
 |o::rest,a,w,hnd,h=>by
  unfold wpList at h
  unfold wpListIn
  split
  ·rename_i hw
   rw[if_pos hw] at h
   rcases h with h|⟨-,h⟩
   ·exact op_round (hnd o (List.mem_cons_self ..)) hQ (fun a w h3=>Oq hQ rest a w (fun q hq=>hnd q (List.mem_cons_of_mem _ hq)) h3) h
   ·exact absurd h hQ
  ·rename_i hw
   rw[if_neg hw] at h
   exact⟨fun f _=>trivial,Oq hQ rest _ w (fun q hq=>hnd q (List.mem_cons_of_mem _ hq)) h⟩
theorem Jm {id:Nat} {rest:List Oper} {a:Act} {w:World} (hnd:Zce rest.toArray=true) (hQ: ¬LetsOut Q) (h:wpList P rest.toArray Q rest a w):(Code.region id rest.toArray false).wpIn (Fence.wide.inRound l) n P Q a w:=
 wpIn_region_lit (Oq hQ rest a w (fun o ho=>ZaO hnd (by simpa using ho)) h)
end
def Zci (ds:List Nat):List Deferred:=ds.map fun D=>{target:= .collected D,args:= #[]}
theorem ZcT {σ α:Type} {F:Fence} {n:Nat} {g:Operand} {ps:Array Tmp} {assign body:Code} {Q:Exit->Act->World->Prop} {a:Act} {w:World}
  (hro:F.round=none) (h1:1<=n) {gf:Nat} {lb:Array Value} (hg:a.eval g= .func (.func gf) #[] lb) (hFg:F.fn gf) (eg: ∀args w,(callFunc gf args).run prog w= .ok (.enter gf args) w)
  {Qa:α->Array Value} {Tab:σ->World->Prop} {V:σ->α->Prop} {nx:σ->α->σ->Prop} {Fin:σ->Prop} {s0:σ} {w0:World} (hseq:SeqBy F (n - 1) prog gf lb Qa Tab V nx Fin s0 w0) (hb0:Below w0.heap.size w0 w) (hps: ∀x,(Qa x).size=ps.size)
  (I:σ->World->Prop) (Ix:Code->World->Prop) (hIT: ∀s X,I s X->Tab s X) (hI:OwnL w.heap.size I) (hIx: ∀c,OwnL w.heap.size (fun (_:Unit) W=>Ix c W)) (h0:I s0 w) (d:Tmp) (f:α->List Value) (hfl: ∀x,0<(f x).length)
  (hassign: ∀(l:Nat) (s:σ) (x:α) (W:World) (K:Act->World->Prop),I s W->V s x->(∀B Y,KL W Y->I s Y->Holds Y B (f x)->K {tmps:=((ps.zip (Qa x)).foldl (fun t (p,v)=>t.setIfInBounds p v) a.tmps).setIfInBounds d (.pointer (some ⟨B,0,none⟩)),defers:= []} Y)->
   assign.wpIn (F.inRound l) (n - 1 - 1) prog (Exit.then K (fun _ _ _=>False)) {tmps:=(ps.zip (Qa x)).foldl (fun t (p,v)=>t.setIfInBounds p v) a.tmps,defers:= []} W)
  (hbody: ∀(l:Nat) (s:σ) (x:α) (B:Nat) (W:World),w.heap.size<=l->I s W->V s x->Holds W B (f x)->body.wpIn (F.inRound l) (n - 1 - 1) prog (ZbX w.heap.size I Ix nx s x W) {tmps:=((ps.zip (Qa x)).foldl (fun t (p,v)=>t.setIfInBounds p v) a.tmps).setIfInBounds d (.pointer (some ⟨B,0,none⟩)),defers:= []} W)
  (hdone: ∀(D:Nat) (s:σ) (W:World),w.heap.size<=D->Fin s->I s W->W.heap[D]? =some (.deferred (some []))->Q .normal {a with defers:={target:= .collected D,args:= #[]}::a.defers} W)
  (hstop: ∀(D:Nat) (c:Code) (W:World),w.heap.size<=D->Ix c W->W.heap[D]? =some (.deferred (some []))->c.wpIn F n prog Q {a with defers:={target:= .collected D,args:= #[]}::a.defers} W):
  (Code.rangeFunc g ps assign body).wpIn F n prog Q a w:=by
 refine ZaG hro h1 hg hFg eg hseq hb0 hps I Ix hIT hI hIx h0 (fun x a' W=> ∃B,a'={tmps:=((ps.zip (Qa x)).foldl (fun t (p,v)=>t.setIfInBounds p v) a.tmps).setIfInBounds d (.pointer (some ⟨B,0,none⟩)),defers:= []}/\Holds W B (f x)) ?_ ?_ ?_ hdone hstop
 ·intro x a' _ A B row hs hgr hr
  obtain⟨C,h2,h3⟩:=hs
  exact⟨C,h2,Nw h3 (hfl x) hgr (fun r e=>(hr r e).2)⟩
 ·intro l s x W K hi hv hk
  exact hassign l s x W K hi hv (fun B Y h2 h3 h4=>hk _ Y h2 h3 ⟨B,rfl,h4⟩)
 ·rintro l s x a' W hl hi hv ⟨B,rfl,hH⟩
  exact hbody l s x B W hl hi hv hH
theorem Jn {K:Act->World->Prop} {Q:Exit->Act->World->Prop} (h: ¬LetsOut Q): ¬LetsOut (Exit.then K Q):=fun ⟨a,w,hq⟩=>h ⟨a,w,hq⟩
theorem Ps {fn:Func} {tmps:Array Value} {R:Ending->World->Prop} {n:Nat}: ∀(ds:List Nat) (W:World),ds.Nodup->(∀D∈ds,W.heap[D]? =some (.deferred (some [])))->
  (∀Y,Fr W Y ds->LeavesInM Fence.wide n prog fn tmps R [] .returning Y)->LeavesInM Fence.wide n prog fn tmps R (Zci ds) .returning W
 | [],W,_,_,h=>h W (Fr.refl _ _)
 |D::ds,W,hnd,hD,h=>by
  have hK:=hD D (List.mem_cons_self ..)
  obtain⟨h1,h2⟩:=List.nodup_cons.1 hnd
  refine⟨by simp, .inl ⟨_,_,rfl,run_takeDeferred hK, ?_⟩⟩
  refine Ps ds _ h2 (fun E hE=> ?_) (fun Y hY=>h Y ?_)
  ·have hne:E≠D:=fun e=>h1 (e▸hE)
   exact(World.putObj_heap_other hne).trans (hD E (List.mem_cons_of_mem _ hE))
  ·have hg:=Fr.grown (grownBy_putObj' W D (.deferred none))
   exact(hg.mono (E':=D::ds) (fun b hb=> .inl (by have:b=D:=(by simpa using hb);simp[this]))).trans hY (fun b hb=> .inl (List.mem_cons_of_mem _ hb))
theorem cell_ld {X:World} {a:Addr} {v:Value} {o:Obj} (h:X.cell? a=some v) (ho:X.heap[a.block]? =some o): ¬LD o:=by
 rintro(⟨q,rfl⟩|⟨q,rfl⟩)<;>simp[World.cell?,ho] at h
theorem Rz {X:World} {b:Nat} {cs:List Value} {o:Obj} (h:Holds X b cs) (hc:0<cs.length) (ho:X.heap[b]? =some o): ¬LD o:=cell_ld (h.cell 0 (List.getElem?_eq_getElem hc)) ho
theorem own_ld {X:World} {base e s n:Nat} {v:Value} {ys:List Value} (h:X.ownsRow base e s v n ys) {g:Nat} {o:Obj} (hg:v.ownBlock=some g) (ho:X.heap[g]? =some o): ¬LD o:=by
 rcases h.2 with ⟨h1,h2⟩|⟨g',cap,cur,h1,h3,h4,h5⟩
 ·rw[h1] at hg
  cases hg
 ·rw[h1] at hg
  obtain rfl:g'=g:=Option.some.inj hg
  rw[h4] at ho
  cases ho
  rintro(⟨q,h6⟩|⟨q,h6⟩)<;>cases h6
theorem tab_ld {X:World} {T:TT} (h:T.Is X) {b:Nat} {o:Obj} (hb:b∈T.blocks) (ho:X.heap[b]? =some o): ¬LD o:=by
 simp only[TT.blocks,List.mem_cons,List.mem_append,List.mem_map] at hb
 rcases hb with rfl|rfl|hb|⟨r,hr,rfl⟩
 ·exact Rz h.tab (by simp[TT.cs]) ho
 ·obtain⟨D,⟨es,clock,hm,_⟩,_⟩:=h.map
  rw[hm] at ho
  cases ho
  rintro(⟨q,h6⟩|⟨q,h6⟩)<;>cases h6
 ·exact own_ld h.own (by simpa using hb) ho
 ·exact Rz (h.rows r hr) (by simp[Dx]) ho
theorem kl_fr {X Y:World} {E:List Nat} (hf:Fr X Y E) (hE: ∀b∈E,∀o,X.heap[b]? =some o-> ¬LD o):KL X Y:=fun k o h1 h2=>
 (hf.block k (Array.getElem?_eq_some_iff.1 h1).1 (fun hm=>hE k hm o h1 h2)).trans h1
def RetM (fn:Func) (n:Nat) (R:Ending->World->Prop):Exit->Act->World->Prop
 | .normal,a,w| .ret,a,w=>LeavesInM Fence.wide n prog fn a.tmps R a.defers .returning w
 |_,_,_=>False
theorem ZcS {fn:Func} {n:Nat} {R:Ending->World->Prop}: ∀(e:Exit) (a:Act) (w:World),RetM fn n R e a w->bodyPostM Fence.wide n prog fn R e a w
 | .normal,_,_,h=>h
 | .ret,_,_,h=>h
 | .panic _,_,_,h=>h.elim
 | .outgrown,_,_,h=>h.elim
 | .exit _,_,_,h=>h.elim
 | .goto _,_,_,h=>h.elim
theorem zip2 (p1 p2:Tmp) (v1 v2:Value) (t:Array Value):((#[p1,p2]:Array Tmp).zip #[v1,v2]).foldl (fun t (x:Tmp×Value)=>t.setIfInBounds x.1 x.2) t=(t.setIfInBounds p1 v1).setIfInBounds p2 v2:=by simp
structure BT (Bs g c:Nat) (ks:List KK) (j:Nat) (X:World):Prop where
 box:Holds X Bs [.slice (some ⟨g,0,none⟩) ks.length c]
 row:RowsK X g 0 ks
def encB (x:Nat×KK):Array Value:= #[.int .i64 (x.1:Nat),x.2.agg]
def VB (ks:List KK) (j:Nat) (x:Nat×KK):Prop:=x.1+1=j/\ks[x.1]? =some x.2
def NB (j:Nat) (_:Nat×KK) (j':Nat):Prop:=j'+1=j
def FB (j:Nat):Prop:=j=0
theorem inR {F:Fence} {n:Nat} {ops:Array Oper} {rest:List Oper} {Q:Exit->Act->World->Prop} {a:Act} {w:World} {o:Oper} {l:Nat} {f:FuncId} {tmps:Array Value} {asg bd:Code} {R:Ending->World->Prop} (hF: ∀f,F.fn f) (hr0:F.round=none) (h1:1<=n) (hw:Region.wanted o (yielded ops a.tmps)=true) (he:(execOp a.eval o).run prog w= .ok (.round l f tmps asg bd) w)
  (hC:RoundIn F (n - 1) prog l f tmps asg bd w R) (h: ∀e X,R e X-> ∃V,e= .returned V/\wpListIn F n prog ops Q rest (a.put o.dst V) X):wpListIn F n prog ops Q (o::rest) a w:=by
 refine BigFrame.wpListIn_want hw fun K hK=> ?_
 refine⟨fun f _=>hF f, ?_⟩
 rw[hr0]
 show o.uponIn F n prog a K Q ((execOp a.eval o).run prog w)
 rw[he,Oper.uponIn_round]
 refine⟨(fun _=>h1),hC.mono ?_⟩
 intro e X hR
 obtain⟨V,rfl,hV⟩:=h e X hR
 exact hK _ _ hV
theorem ex_ixK {o:Oper} {a:Act} {w:World} {x ix:Operand} {b n cap:Nat} (j:Nat) (ho:o.op= .indexAddr 54 x ix) (hx:a.eval x= .slice (some ⟨b,0,none⟩) n cap) (hix:a.eval ix= .int .i64 (j:Nat)) (hj:j<n):(execOp a.eval o).run prog w= .ok (.value (.pointer (some ⟨b,0+j * 2,none⟩))) w:=by
 unfold execOp
 simp only[ho,hx,hix]
 simp[Zcr b 0 n cap j hj w]
theorem RowsK.atK {X:World} {g m:Nat} {ks:List KK} {k:KK} (h:RowsK X g 0 ks) (hk:ks[m]? =some k):X.rangeAt g (0+m * 2) k.cs:=by
 obtain⟨hm,rfl⟩:=List.getElem?_eq_some_iff.1 hk
 exact h m hm
theorem back_by (n:Nat) (hn:1<=n) (Bs g c:Nat) (ks:List KK) (hk:ks.length<=1000000) (w:World):SeqBy Fence.wide n prog 197 #[.pointer (some ⟨Bs,0,none⟩)] encB (BT Bs g c ks) (VB ks) NB FB ks.length w:=by
 intro l J Jx W hW hJ hJx hJT hY h0
 have HB:=Ab (hJT _ W h0).box
 have HJT:=Ab hJT
 have HAb:=Ab hJ
 have HY:=Ab hY
 have HJ0:=Ab h0
 clear hJT hJ hY h0
 refine callsIn_of_wp func197 rfl trivial ?_ rfl
 simp only[ntmps197,List.size_toArray,List.length_cons,List.length_nil,Nat.reduceAdd,Nat.reduceSub,Array.replicate_succ,Array.replicate_zero,List.push_toArray,List.append_toArray,List.nil_append,List.cons_append]
 have hw0:IntKind.i64.wrap ((ks.length:Int) - 1)=(ks.length:Int) - 1:=by rw[IntKind.wrap_i64];omega
 gi_wp2_with (first|((with_reducible show wpListIn _ _ _ _ _ _ _ _);first|(refine inV (fun _=>trivial) (by rfl) (by intro c h;cases h) (Ai 54 isAgg54 rfl rfl (Aa HB) rfl) ?_;simp only[nn])))
 gi_loopg [3] (ks.length+1) (fun gm s3 wr=> ∃j:Nat,s3= .int .i64 ((j:Int) - 1)/\j<=ks.length/\j+1<=gm/\Hid (J j wr))
 case atStart=>exact⟨ks.length,rfl,Nat.le_refl _,Nat.le_refl _,HJ0⟩
 case round=>
  obtain⟨j,rfl,hjl,hgm,HJ⟩:=hrel
  clear HB HJ0 hW hJx hw0
  rcases j with _|m
  ·have d0:decide ((0:Int)<=((0:Nat):Int) - 1)=false:=by decide
   gi_wp2_with fail
   go_end0
   exact⟨⟨_,rfl⟩, .inl ⟨0,rfl,Aa HJ⟩⟩
  ·rw[show (((m+1:Nat):Int) - 1)=(m:Int) by omega]
   have d0:decide ((0:Int)<=(m:Int))=true:=decide_eq_true (by omega)
   have hw1:IntKind.i64.wrap ((m:Int) - 1)=(m:Int) - 1:=by rw[IntKind.wrap_i64];omega
   have hT:=(Aa HJT) _ _ (Aa HJ)
   have HB:=Ab hT.box
   obtain⟨k,hkm⟩: ∃k,ks[m]? =some k:=⟨_,List.getElem?_eq_getElem (by omega)⟩
   have hR:=hT.row.atK hkm
   obtain⟨fn,tmps,asg,bd,hy,hRd⟩:=(Aa HY) (m+1) (m,k) wr (Aa HJ) ⟨rfl,hkm⟩
   have HRd:=Ab hRd
   have Hy:Hid ((Instr.yield l #[.int .i64 (m:Nat),k.agg]).run prog wr= .ok (.round l fn tmps asg bd) wr):=Ab hy
   have HR:=Ab hR
   clear hRd hy hT hR
   gi_wp2_with (first|((with_reducible show wpListIn _ _ _ _ _ _ _ _);first|(refine inV (fun _=>trivial) (by rfl) (by intro c h;cases h) (Ai 54 isAgg54 rfl rfl (Aa HB) rfl) ?_;simp only[nn])|(refine inV (fun _=>trivial) (by rfl) (by intro c h;cases h) (ex_ixK m rfl rfl rfl (by omega)) ?_;simp only[nn])|(refine inV (fun _=>trivial) (by rfl) (by intro c h;cases h) (Gx (vs:=k.cs) 42 2 rwK szK rfl rfl (Aa HR) rfl) ?_;simp only[nn])|((with_reducible show wpListIn _ _ _ _ _ (Oper.mk _ (Op.call _) _ _ _ _::_) _ _);refine inR (fun _=>trivial) rfl hn (by rfl) (Eq.trans (b:=(Instr.yield l #[.int .i64 (m:Nat),k.agg]).run prog wr) (by kernel_rfl) (Aa Hy)) (Aa HRd) ?_)))
   rintro e W3 (⟨rfl,s2,hn2,hJ3⟩|⟨rfl,hJx3⟩)
   ·obtain rfl:s2=m:=Nat.succ.inj hn2
    refine⟨_,rfl, ?_⟩
    try simp only[nn]
    have HJ4:=Ab hJ3
    clear hJ3 HRd Hy HR HB HJ
    gi_wp2_with fail
    gi_roundg (s2+1)
    ·exact⟨s2,rfl,by omega,by omega,HJ4⟩
    ·omega
   ·refine⟨_,rfl, ?_⟩
    try simp only[nn]
    clear HRd Hy HR HB HJ
    gi_wp2_with fail
    refine bodyPost_ret (results_none rfl _ _ _) rfl ?_
    exact⟨⟨_,rfl⟩, .inr hJx3⟩
end
section
open Go Go.Proofs Go.Maps Go.RowKit FM
def Ob.Nl (o:Ob):Prop:= ∀X,o.P X-> ∀b∈o.bs,∀q,X.heap[b]? =some q-> ¬LD q
theorem Oa (B:Nat) (cs:List Value) (hc:0<cs.length):(Am B cs).Nl:=fun X h b hb q hq=>by
 obtain rfl:=List.mem_singleton.1 hb
 exact Rz h.1 hc hq
theorem Zb6 (base e s:Nat) (v:Value) (n:Nat) (ys:List Value):(Ls base e s v n ys).Nl:=fun X h b hb q hq=>own_ld h (by simpa [Ls] using hb) hq
theorem empO_nl (B:Nat):(Ku B).Nl:=fun X h b hb q hq=>by
 obtain rfl:=List.mem_singleton.1 hb
 have h1:X.heap[b]? =some (Obj.cells #[] 83):=h
 rw[h1] at hq
 cases hq
 rintro(⟨q,h6⟩|⟨q,h6⟩)<;>cases h6
theorem hpO_nl (h:HP):(hpO h).Nl:=fun X H b hb q hq=>by
 have H':h.Is X:=H
 obtain⟨o,ho,hb2⟩:=List.mem_flatMap.1 (show b∈h.things.flatMap (·.bs) from hb)
 have hP:=H'.ho o ho
 simp only[HP.things,List.mem_cons,List.mem_map] at ho
 rcases ho with rfl|rfl|⟨p,hp,rfl⟩
 ·exact Oa _ _ (by simp[hcs]) X hP b hb2 q hq
 ·exact Zb6 _ _ _ _ _ _ X hP b hb2 q hq
 ·rcases List.mem_cons.1 (show b∈p.b::p.T.blocks from hb2) with rfl|hb3
  ·exact Rz hP.1 (by rw[Lm];omega) hq
  ·exact tab_ld hP.2.1 hb3 hq
theorem Sy.grow {w X Y:World} {E:List Nat} {L:List Ob} {row:Option Nat} (h:Sy w X E L) (hn: ∀o∈L,o.Nl) (hg:X.grownBy Y row) (hr: ∀r,row=some r->w.heap.size<=r/\ ∃o:Obj,X.heap[r]? =some o/\LD o):Sy w Y E L:=by
 have hf:Fr X Y row.toList:=Fr.grown hg
 have key: ∀o∈L,∀b∈o.bs,Y.heap[b]? =X.heap[b]? :=fun o ho b hb=>by
  have hlt:=(h.ok o ho).lt (h.ho o ho) b hb
  refine hf.block b hlt (fun hm=> ?_)
  obtain⟨-,q,hq,hl⟩:=hr b (by simpa using hm)
  exact hn o ho X (h.ho o ho) b hb q hq hl
 exact⟨h.fr.trans hf (fun b hb=> .inr (hr b (by simpa using hb)).1),h.ok,fun o ho=>(h.ok o ho).on (key o ho) (h.ho o ho),h.lo,h.dis⟩
theorem dN_app (most:Nat): ∀(m:Nat) (l:List Nat),1<=m->m<=most->dgF most (dN m++l) 0=dgF most l m:=by
 intro m
 induction m using Nat.strongRecOn with
 |_ m ih=>
  intro l h1 hm
  by_cases h:m<10
  ·rw[Vq h]
   show dgF most ((48+m)::l) 0=_
   rw[dgF,if_neg (by omega),if_neg (by omega)]
   have e:0 * 10+(48+m - 48)=m:=by omega
   rw[e]
  ·have e:=Zcy (n:=m / 10) (e:=m % 10) (by omega) (by omega)
   rw[show m / 10 * 10+m % 10=m by omega] at e
   rw[e,List.append_assoc,ih (m / 10) (by omega) _ (by omega) (by omega)]
   show dgF most ((48+m % 10)::l) _=_
   rw[dgF,if_neg (by omega),if_neg (by omega)]
   have e2:m / 10 * 10+(48+m % 10 - 48)=m:=by omega
   rw[e2]
theorem dN_head: ∀(m:Nat),1<=m-> ∃c r,dN m=c::r/\c≠48:=by
 intro m
 induction m using Nat.strongRecOn with
 |_ m ih=>
  intro h1
  by_cases h:m<10
  ·exact⟨48+m, [],Vq h,by omega⟩
  ·have e:=Zcy (n:=m / 10) (e:=m % 10) (by omega) (by omega)
   rw[show m / 10 * 10+m % 10=m by omega] at e
   obtain⟨c,r,h2,h3⟩:=ih (m / 10) (by omega) (by omega)
   exact⟨c,r++ [48+m % 10],by rw[e,h2];rfl,h3⟩
theorem dgV_dN {most m:Nat} (hm:m<=most):dgV most (dN m)=some m:=by
 by_cases h:1<=m
 ·obtain⟨c,r,h1,h2⟩:=dN_head m h
  have e:=dN_app most m [] h hm
  rw[List.append_nil,h1] at e
  rw[h1]
  show (if c=48/\r≠ [] then none else dgF most (c::r) 0)=some m
  rw[if_neg (fun h=>h2 h.1)]
  exact e
 ·obtain rfl:m=0:=by omega
  rw[Vq (by omega)]
  simp[dgV,dgF]
theorem Ux {i:Nat} (h:i<=1000000):Lu (Dn (De i).s)=some i:=by
 show dgV 4294967294 (dN i)=some i
 exact dgV_dN (by omega)
theorem Za1 {i:Nat} (h:i<=1000000):(De i).s.size<4611686018427387904:=by
 have:=Ow (Mf h)
 omega
def arrG (n:Nat) (l:List (Nat×DD)):List (KK×DD):=(Bm,Jb n)::l.map (fun e=>(De e.1,e.2))
theorem arr_arrG (n:Nat) (vs:List VV):Qv n vs=arrG n (vs.mapIdx (fun i v=>(i,Kn v))):=by
 unfold Qv arrG
 congr 1
 apply List.ext_getElem?
 intro i
 rw[List.getElem?_map,List.getElem?_mapIdx,List.getElem?_mapIdx]
 cases vs[i]? <;>rfl
theorem Lh {T:TT} {n:Nat} {l:List (Nat×DD)} (hT:pr T=arrG n l):getD T Bm=Jb n:=by
 rw[Zi,hT]
 unfold arrG lkP
 rw[List.find?_cons_of_pos (by simp)]
 rfl
theorem Zdn (n m:Nat) (l:List (Nat×DD)):ZaH (arrG n l) Bm (Jb m)=arrG m l:=by
 unfold ZaH arrG
 rw[if_pos (by simp[Pw]),List.map_cons,if_pos rfl,List.map_map]
 congr 1
 refine List.map_congr_left (fun e he=> ?_)
 show (if De e.1=Bm then _ else _)=_
 rw[if_neg (Pv _)]
theorem arrG_del (n:Nat) (l:List (Nat×DD)) (i:Nat):Zde (arrG n l) (De i)=arrG n (l.filter (fun e=>decide (e.1≠i))):=by
 unfold Zde arrG
 rw[List.filter_cons_of_pos (by simpa using fun h:Bm=De i=>Pv i h.symm),List.filter_map]
 congr 2
 refine List.filter_congr (fun e he=> ?_)
 simp only[Function.comp,decide_eq_decide]
 exact⟨fun h h2=>h (by rw[h2]),fun h h2=>h (Ry h2)⟩
theorem Qe {n:Nat} {l:List (Nat×DD)} {i:Nat}:Pw (arrG n l) (De i)=l.any (fun e=>decide (e.1=i)):=by
 unfold Pw arrG
 rw[List.any_cons,List.any_map]
 have:decide (Bm=De i)=false:=by simpa using fun h:Bm=De i=>Pv i h.symm
 rw[this,Bool.false_or]
 congr 1
 funext e
 simp only[Function.comp,decide_eq_decide]
 exact⟨Ry,fun h=>by rw[h]⟩
theorem arrG_lk {n:Nat} {l:List (Nat×DD)} {i:Nat} {d:DD} (h:lkP (arrG n l) (De i)=some d):(i,d)∈l:=by
 unfold lkP arrG at h
 rw[List.find?_cons_of_neg (by simpa using fun h:Bm=De i=>Pv i h.symm)] at h
 obtain⟨e,he,rfl⟩:=Option.map_eq_some_iff.1 h
 have h1:=List.find?_some he
 obtain⟨x,hx,rfl⟩:=List.mem_map.1 (List.mem_of_find?_eq_some he)
 have h2:De x.1=De i:=by simpa using h1
 rw[←Ry h2]
 exact hx
theorem Zq:kd Bm=1:=by kernel_rfl
theorem ZbP {i:Nat} (h:i<=1000000):kd (De i)=0:=by
 show Rf (De i).s 0=0
 unfold Rf
 rw[if_pos rfl,Ux h]
 rfl
theorem idx_kn {i:Nat} (h:i<=1000000):kn (De i)=i:=by
 show Ut (De i).s 0=i
 unfold Ut
 rw[if_pos rfl,Ux h]
 rfl
theorem arr_ord {n:Nat} {l:List (Nat×DD)} (h: ∀e∈l,e.1<=1000000):ZcY ((arrG n l).map (·.1))=(mg (l.map (·.1))).map De++ [Bm]:=by
 have e0:(arrG n l).map (·.1)=Bm::(l.map (·.1)).map De:=by
  unfold arrG
  rw[List.map_cons,List.map_map,List.map_map]
  rfl
 have hm: ∀k∈(l.map (·.1)).map De,∃i,i<=1000000/\k=De i:=fun k hk=>by
  obtain⟨i,hi,rfl⟩:=List.mem_map.1 hk
  obtain⟨e,he,rfl⟩:=List.mem_map.1 hi
  exact⟨_,h e he,rfl⟩
 rw[e0]
 unfold ZcY
 have h1:ixs (Bm::(l.map (·.1)).map De)=l.map (·.1):=by
  unfold ixs
  rw[List.filter_cons_of_neg (by rw[Zq];decide),List.filter_eq_self.2 (fun k hk=>by obtain⟨i,hi,rfl⟩:=hm k hk;rw[ZbP hi];rfl),List.map_map]
  refine(List.map_congr_left (g:=id) (fun i hi=> ?_)).trans (List.map_id _)
  obtain⟨e,he,rfl⟩:=List.mem_map.1 hi
  exact idx_kn (h e he)
 have h2:Ju (Bm::(l.map (·.1)).map De)= [Bm]:=by
  unfold Ju
  rw[List.filter_cons_of_pos (by rw[Zq];rfl),List.filter_eq_nil_iff.2 (fun k hk=>by obtain⟨i,hi,rfl⟩:=hm k hk;rw[ZbP hi];decide)]
 have h3:Jt (Bm::(l.map (·.1)).map De)= []:=by
  unfold Jt
  rw[List.filter_cons_of_neg (by rw[Zq];decide),List.filter_eq_nil_iff.2 (fun k hk=>by obtain⟨i,hi,rfl⟩:=hm k hk;rw[ZbP hi];decide)]
 rw[h1,h2,h3,List.append_nil]
 rfl
def leftG (c:Nat) (S:List Nat) (l:List (Nat×DD)) (j:Nat):List (Nat×DD):=l.filter (fun e=>decide (e.1<c)||(S.take j).contains e.1)
theorem Ot {c:Nat} {S:List Nat} {l:List (Nat×DD)} (h: ∀e∈l,e.1∈S) {j:Nat} (hj:S.length<=j):leftG c S l j=l:=by
 unfold leftG
 rw[List.take_of_length_le hj]
 refine List.filter_eq_self.2 (fun e he=> ?_)
 have:=h e he
 simp[this]
theorem ZbK (c:Nat) (S:List Nat) (l:List (Nat×DD)):leftG c S l 0=l.filter (fun e=>decide (e.1<c)):=by
 unfold leftG
 simp
theorem ZbL {c:Nat} {S:List Nat} {l:List (Nat×DD)} {j i:Nat} (hi:S[j]? =some i) (hc:i<c):leftG c S l (j+1)=leftG c S l j:=by
 unfold leftG
 refine List.filter_congr (fun e he=> ?_)
 rw[List.take_add_one,hi]
 by_cases h:e.1<c
 ·simp[h]
 ·have hne:e.1≠i:=by omega
  simp[h,hne]
theorem Yi {c:Nat} {S:List Nat} {l:List (Nat×DD)} {j i:Nat} (hS:S.Nodup) (hi:S[j]? =some i) (hc:c<=i):(leftG c S l (j+1)).filter (fun e=>decide (e.1≠i))=leftG c S l j:=by
 unfold leftG
 rw[List.filter_filter]
 refine List.filter_congr (fun e he=> ?_)
 rw[List.take_add_one,hi]
 have hni:i ∉ S.take j:=fun hm=>by
  have hj:=(List.getElem?_eq_some_iff.1 hi).1
  have h1:(S.take (j+1)).Nodup:=hS.sublist (List.take_sublist _ _)
  rw[List.take_add_one,hi] at h1
  exact(List.nodup_append.1 h1).2.2 i hm i (by simp) rfl
 by_cases h:e.1=i
 ·have h2:decide (e.1<c)=false:=decide_eq_false (by omega)
  have h3:(S.take j).contains e.1=false:=by
   rw[h]
   simpa using hni
  have h4:decide (e.1≠i)=false:=decide_eq_false (fun h5=>h5 h)
  rw[h2,h3,h4]
  rfl
 ·have h4:decide (e.1≠i)=true:=decide_eq_true h
  rw[h4,Bool.true_and]
  congr 1
  simp[h]
theorem Zc3 {c:Nat} {S:List Nat} {l:List (Nat×DD)} {j:Nat} {e:Nat×DD} (h:e∈leftG c S l j):e∈l:=(List.mem_filter.1 h).1
end
section
open Go Go.Proofs Go.Maps Go.RowKit FM Tryz
attribute [local go_sem] Ad Ag Ak Df Bi Ae Bg
theorem sy_row {w X Y:World} {E:List Nat} {L:List Ob} {sv:Value} {ks:List KK} (S:Sy w X E L) (hO:OwnK Y X.heap.size sv ks) (k:Below X.heap.size X Y): ∃bs,Sy w Y E (L++ [Ls bs 42 2 sv ks.length (En ks)]):=
 ⟨_,S.add (Rq _ _ _ _ _ _) hO k (fun b hb=>(World.ownsRow.lt hO b (by simpa [Ls] using hb)).1)⟩
theorem own_rows {w:World} {base g n c:Nat} {l:List KK} (h:OwnK w base (.slice (some ⟨g,0,none⟩) n c) l):RowsK w g 0 l:=by
 rcases h.form with ⟨h1,_⟩|⟨g',c',h1,_,_,_,h2⟩
 ·cases h1
 ·cases h1
  exact h2
def markO (D:Nat):Ob:=⟨[D],fun X=>X.heap[D]? =some (.deferred (some []))⟩
theorem markO_ok (D:Nat):(markO D).Ok:=⟨fun h k=>(h D (List.mem_singleton.2 rfl)).trans k,fun h b hb=>by
 obtain rfl:=List.mem_singleton.1 hb
 exact(Array.getElem?_eq_some_iff.1 h).1⟩
theorem Sy.mark {w X:World} {E:List Nat} {L:List Ob} {D:Nat} (S:Sy w X E L) (hn: ∀o∈L,o.Nl) (hD:X.heap[D]? =some (.deferred (some []))) (hl:w.heap.size<=D):Sy w X E (L++ [markO D]):=by
 refine⟨S.fr,fun o ho=> ?_,fun o ho=> ?_,fun o ho b hb=> ?_, ?_⟩
 ·rcases List.mem_append.1 ho with ho|ho
  ·exact S.ok o ho
  ·rw[List.mem_singleton.1 ho];exact markO_ok D
 ·rcases List.mem_append.1 ho with ho|ho
  ·exact S.ho o ho
  ·rw[List.mem_singleton.1 ho];exact hD
 ·rcases List.mem_append.1 ho with ho|ho
  ·exact S.lo o ho b hb
  ·rw[List.mem_singleton.1 ho] at hb
   rw[List.mem_singleton.1 hb];exact .inr hl
 ·refine List.pairwise_append.2 ⟨S.dis,by simp,fun o ho p hp x hx hx2=> ?_⟩
  rw[List.mem_singleton.1 hp] at hx2
  rw[List.mem_singleton.1 hx2] at hx
  exact hn o ho X (S.ho o ho) D hx _ hD (.inr ⟨_,rfl⟩)
theorem back_any (A:Option Addr) (n c:Nat) (w:World):Calls prog 191 #[.slice A n c] w fun e w'=>e= .returned (.func (.func 197) #[] #[.pointer (some ⟨w.heap.size,0,none⟩)])/\w'=w.alloc (Obj.cells #[.slice A n c] 54):=by
 go_enter func191,ntmps191
 go_wp2
 go_ret
 exact⟨rfl,rfl⟩
def cutL (h:HP) (j:Nat) (q:OB) (c B4 B5 B6 B7 B8 bs g cc Bs:Nat) (ks:List KK) (T':TT):List Ob:= [hpO (h.tab j q T'),Ku B4,Am B5 [.pointer (some ⟨h.b,0,none⟩)],Am B6 [.int .i64 ((j:Int)+1)],Am B7 [.int .u32 (c:Nat)],Am B8 [.int .u32 0],Ls bs 42 2 (.slice (some ⟨g,0,none⟩) ks.length cc) ks.length (En ks),Am Bs [.slice (some ⟨g,0,none⟩) ks.length cc]]
theorem Zcz (h:HP) (j:Nat) (q:OB) (c B4 B5 B6 B7 B8 bs g cc Bs:Nat) (ks:List KK) (T':TT): ∀o∈cutL h j q c B4 B5 B6 B7 B8 bs g cc Bs ks T',o.Nl:=by
 intro o ho
 simp only[cutL,List.mem_cons,List.not_mem_nil,or_false] at ho
 rcases ho with rfl|rfl|rfl|rfl|rfl|rfl|rfl|rfl
 ·exact hpO_nl _
 ·exact empO_nl _
 ·exact Oa _ _ (Nat.succ_pos _)
 ·exact Oa _ _ (Nat.succ_pos _)
 ·exact Oa _ _ (Nat.succ_pos _)
 ·exact Oa _ _ (Nat.succ_pos _)
 ·exact Zb6 _ _ _ _ _ _
 ·exact Oa _ _ (Nat.succ_pos _)
structure CutI (w:World) (h:HP) (j:Nat) (q:OB) (c n B4 B5 B6 B7 B8 bs g cc Bs:Nat) (ks:List KK) (S:List Nat) (l:List (Nat×DD)) (i:Nat) (W:World) (T':TT):Prop where
 sy:Sy w W h.blocks (cutL h j q c B4 B5 B6 B7 B8 bs g cc Bs ks T')
 pr:pr T'=arrG n (leftG c S l i)
 la:T'.last=q.T.last
 le:i<=S.length+1
def CutJ (w:World) (h:HP) (j:Nat) (q:OB) (c n B4 B5 B6 B7 B8 bs g cc Bs:Nat) (ks:List KK) (S:List Nat) (l:List (Nat×DD)) (i:Nat) (W:World):Prop:= ∃T',CutI w h j q c n B4 B5 B6 B7 B8 bs g cc Bs ks S l i W T'
theorem CutJ.own {w:World} {h:HP} {j:Nat} {q:OB} {c n B4 B5 B6 B7 B8 bs g cc Bs:Nat} {ks:List KK} {S:List Nat} {l:List (Nat×DD)} {B:Nat} (hB:w.heap.size<=B):OwnL B (CutJ w h j q c n B4 B5 B6 B7 B8 bs g cc Bs ks S l):=fun i X Y row ⟨T',hI⟩ hg hr=>
 ⟨T',hI.sy.grow (Zcz _ _ _ _ _ _ _ _ _ _ _ _ _ _ _) hg (fun r e=>⟨Nat.le_trans hB (hr r e).1,by obtain⟨-,o,h1,h2⟩:=hr r e;exact⟨o,h1, .inl h2⟩⟩),hI.pr,hI.la,hI.le⟩
theorem CutI.tab {w:World} {h:HP} {j:Nat} {q:OB} {c n B4 B5 B6 B7 B8 bs g cc Bs:Nat} {ks:List KK} {S:List Nat} {l:List (Nat×DD)} {i:Nat} {W:World} {T':TT} (hI:CutI w h j q c n B4 B5 B6 B7 B8 bs g cc Bs ks S l i W T'):BT Bs g cc ks i W:=
 ⟨hI.sy.hold 7 rfl,own_rows (base:=bs) (n:=ks.length) (c:=cc) (hI.sy.get 6 rfl)⟩
theorem Nq {σ α:Type} {B:Nat} {I:σ->World->Prop} {Ix:Code->World->Prop} {nx:σ->α->σ->Prop} {s:σ} {x:α} {W:World}: ¬LetsOut (ZbX B I Ix nx s x W):=fun ⟨_,_,h⟩=>h
theorem Kc {id:Nat} {Q:Exit->Act->World->Prop} (h: ¬LetsOut Q): ¬LetsOut (Exit.inBlock id Q):=fun ⟨a,w,hq⟩=>h ⟨a,w,hq⟩
theorem sy_last {w X:World} {E:List Nat} {L:List Ob} {o:Ob} (S:Sy w X E (L++ [o])): ∀p∈L,∀b∈p.bs,b ∉ o.bs:=fun p hp b hb=>(List.pairwise_append.1 S.dis).2.2 p hp o (by simp) b hb
theorem sy_init {w X:World} {E:List Nat} {L:List Ob} {o:Ob} (S:Sy w X E (L++ [o])):Sy w X E L:=Sy.left S
theorem sz_u32:(prog.info? 44).map (·.size)=some 1:=by kernel_rfl
theorem tab_self {h:HP} {j:Nat} {q:OB} (hj:h.l[j]? =some q):h.tab j q q.T=h:=by
 unfold HP.tab
 have:h.l.set j {q with T:=q.T}=h.l:=by
  obtain⟨hlt,he⟩:=List.getElem?_eq_some_iff.1 hj
  rw[←he]
  exact List.set_getElem_self hlt
 rw[this]
theorem Ro (h:HP) (j:Nat) (q:OB) (T' T2:TT):(h.tab j q T').tab j {q with T:=T'} T2=h.tab j q T2:=by
 unfold HP.tab
 simp
theorem Yy {h:HP} {j:Nat} {q:OB} (hj:h.l[j]? =some q) (T':TT):(h.tab j q T').l[j]? =some {q with T:=T'}:=by
 obtain⟨hlt, -⟩:=List.getElem?_eq_some_iff.1 hj
 show (h.l.set j _)[j]? =_
 rw[List.getElem?_set_self hlt]
theorem Rp (h:HP) (j:Nat) (q:OB) (T':TT):(h.tab j q T').l.length=h.l.length:=List.length_set
theorem del_step {h h1:HP} {j:Nat} {q:OB} {T9:TT} {m n c i:Nat} {l:List (Nat×DD)} {S:List Nat} {y:Bool} (hp:pr T9=arrG n (leftG c S l (i+1))) (hD:DelP (h.tab j q T9) j {q with T:=T9} (De m) h1 y) (hi: ∀e∈l,e.2.c≠1) (hS:S.Nodup) (hm:S[i]? =some m) (hc:c<=m):
  y=true/\ ∃T2,h1=h.tab j q T2/\T2.last=T9.last/\pr T2=arrG n (leftG c S l i):=by
 rcases hD with ⟨hf,rfl,rfl⟩|⟨hf,hc1,_,_⟩|⟨hf,_,rfl,T',rfl,hl,hpr⟩
 ·refine⟨rfl,T9,rfl,rfl, ?_⟩
  have hf2:T9.find (De m)=none:=hf
  have h1:Pw (pr T9) (De m)=false:=by rw[Zh,hf2];rfl
  rw[hp,Qe] at h1
  rw[hp,←Yi hS hm hc,List.filter_eq_self.2]
  intro e he
  have h2:=List.any_eq_false.1 h1 e he
  simpa using h2
 ·exfalso
  have hf2:(T9.find (De m)).isSome=true:=hf
  obtain⟨r,hr⟩:=Option.isSome_iff_exists.1 hf2
  have h1:lkP (pr T9) (De m)=some r.d:=by rw[pr_lk,hr];rfl
  have h2:getD T9 (De m)=r.d:=by rw[Zi,h1];rfl
  rw[hp] at h1
  have h3:(getD T9 (De m)).c=1:=hc1
  rw[h2] at h3
  exact hi _ (Zc3 (arrG_lk h1)) h3
 ·refine⟨rfl,T',Ro h j q T9 T',hl, ?_⟩
  have h1:pr T'=Zde (pr T9) (De m):=hpr
  rw[h1,hp,arrG_del,Yi hS hm hc]
theorem res_cut {X:World} {B:Nat} {c:Int} {tmps:Array Value} (h:Holds X B [.int .u32 c]) (hx:tmps.getD 8 undef= .pointer (some ⟨B,0,none⟩)):(results Tryz.f184 tmps).run prog X= .ok (.int .u32 c) X:=by
 have h0:=h.cell 0 (v:= .int .u32 c) rfl
 have hl:(loadVar 44 ⟨B,0,none⟩).run prog X= .ok (.int .u32 c) X:=by simp[loadVar,isAgg44,h0,go_sem]
 simp only[Array.getD_eq_getD_getElem?] at hx
 unfold results
 simp[show Tryz.f184.results= #[.cell 8 44] from rfl,hx,hl,asAddr]
theorem ex_ltU {o:Oper} {a:Act} {w:World} {x y:Operand} {n m:Int} {r:Bool} (ho:o.op= .binOp .lss 44 x y 44) (hx:a.eval x= .int .u32 n) (hy:a.eval y= .int .u32 m) (h:decide (n<m)=r):(execOp a.eval o).run prog w= .ok (.value (.bool r)) w:=by
 unfold execOp
 simp only[ho,hx,hy]
 simp[go_sem,eqGuard,h]
theorem cut_h (h:HP) (j:Nat) (q:OB) (c n:Nat) (l:List (Nat×DD)) (w:World) (H:h.Is w) (hT:Tabs w) (hl:h.l.length<=65536) (hj:h.l[j]? =some q) (hp:pr q.T=arrG n l) (hi: ∀e∈l,e.1<=1000000/\e.2.c≠1) (hnd:(l.map (·.1)).Nodup) (hla:q.T.last<100000) (hll:l.length<=100000):Calls prog 184 #[.agg #[], .pointer (some ⟨h.b,0,none⟩), .int .i64 ((j:Int)+1), .int .u32 (c:Nat)] w fun e w'=> ∃T':TT,e= .returned (.int .u32 (c:Nat))/\pr T'=arrG n (l.filter (fun e=>decide (e.1<c)))/\T'.last=q.T.last/\h.To (h.tab j q T') w w':=by
 have hlv:q.T.live.length<=1500000:=by
  have h1:(pr q.T).length=l.length+1:=by rw[hp];simp[arrG]
  have h2:(pr q.T).length=q.T.live.length:=by unfold pr;simp
  omega
 have hks:ZcY ((pr q.T).map (·.1))=(mg (l.map (·.1))).map De++ [Bm]:=by rw[hp];exact arr_ord (fun e he=>(hi e he).1)
 obtain⟨S,hS⟩: ∃S,S=mg (l.map (·.1)):=⟨_,rfl⟩
 rw[←hS] at hks
 obtain⟨ks,hK⟩: ∃ks,ks=S.map De++ [Bm]:=⟨_,rfl⟩
 rw[←hK] at hks
 have hkl:ks.length<=1000000:=by rw[hK,List.length_append,List.length_map,hS,ZbI,List.length_map];simp;omega
 have HKS:=Ab (show ks.length=S.length+1 by rw[hK];simp)
 have HSl:Hid (∀e∈l,e.1∈S):=Ab (fun e he=>by rw[hS];exact(Zm _).mem_iff.2 (List.mem_map_of_mem he))
 have HSn:Hid S.Nodup:=Ab (by rw[hS];exact(Zm _).nodup_iff.2 hnd)
 have HSm:Hid (∀i∈S,i<=1000000):=Ab (fun i hm=>by rw[hS] at hm;obtain⟨e,he,rfl⟩:=List.mem_map.1 ((Zm _).mem_iff.1 hm);exact(hi e he).1)
 have HK:=Ab hK
 clear hS hK
 have SS:=Ab H.start
 have HH:=Ab H
 have HT:=Ab hT
 refine(callsIn_wide (n:=6)).1 ?_
 refine callsIn_of_wp_marks func184 rfl trivial ?_ rfl
 simp only[ntmps184,List.size_toArray,List.length_cons,List.length_nil,Nat.reduceAdd,Nat.reduceSub,Array.replicate_succ,Array.replicate_zero,List.push_toArray,List.append_toArray,List.nil_append,List.cons_append]
 refine wpIn_wide.2 (wp_mono (Q:=RetM Tryz.f184 6 (fun e w'=> ∃T':TT,e= .returned (.int .u32 (c:Nat))/\pr T'=arrG n (l.filter (fun e=>decide (e.1<c)))/\T'.last=q.T.last/\h.To (h.tab j q T') w w')) ?_ ZcS)
 go_wp2_with (first|go_skip|((with_reducible show wpList ..);first|((refine bxE (by rfl) rfl rfl (Aa SS) ?_);intro X0 B0 S0;replace SS:=Ab S0;clear S0;simp only[nn])|(refine zB 24 ([.pointer (some ⟨h.b,0,none⟩)]) (by rfl) rfl rfl rfl SS ?_;clear SS;intro Xh Bh SS;simp only[nn])|(refine zB 3 ([.int .i64 ((j:Int)+1)]) (by rfl) rfl rfl rfl SS ?_;clear SS;intro Xo Bo SS;simp only[nn])|(refine zB 44 ([.int .u32 (c:Nat)]) (by rfl) rfl rfl rfl SS ?_;clear SS;intro Xn Bn SS;simp only[nn])|(refine alS (v:= .int .u32 0) 44 [.int .u32 0] (by rfl) rfl (by intro w;kernel_rfl) rfl (Nat.succ_pos _) (Aa SS) ?_;intro Xr Br hBr S9 hBl;replace SS:=Ab S9;clear S9 hBr hBl;simp only[nn])|(refine rd rfl (faM rfl rfl ((Aa SS).emp 1 rfl)) ?_)|(refine rd rfl (ldO rfl rfl) ?_)|(refine rd rfl (ldM rfl rfl) ?_)|(refine z1 24 isAgg24 2 (by rfl) rfl rfl SS rfl rfl ?_;simp only[nn])|(refine z1 3 isAgg3 3 (by rfl) rfl rfl SS rfl rfl ?_;simp only[nn])))
 have HO:=ord_keys h j q _ ((Aa SS).hp 0 rfl) hl hj (hT.fr (Aa SS).fr H.low) (by omega) hlv
 refine HO.mono ?_
 clear HO
 rintro _ Y ⟨sv,rfl,hO,hb⟩
 rw[hks] at hO
 obtain⟨bs,S9⟩:=sy_row (Aa SS) hO hb
 replace SS:=Ab S9
 clear S9 hb
 rcases hO.form with ⟨-,h0⟩|⟨g,cc,rfl, -⟩
 ·have:=Aa HKS;rw[h0] at this;simp at this
 clear hO
 go_wp2_with fail
 refine(back_any _ _ _ _).mono ?_
 rintro _ Y2 ⟨rfl,rfl⟩
 replace SS:=Ab ((Aa SS).box [.slice (some ⟨g,0,none⟩) ks.length cc] 54 (Nat.succ_pos _))
 obtain⟨Bs,hBs⟩: ∃Bs,Bs=Y.heap.size:=⟨_,rfl⟩
 rw[←hBs] at SS ⊢
 clear hBs
 go_wp2_with fail
 have hsz:=(Aa SS).fr.size
 refine(wpIn_wide (n:=4)).1 ?_
 refine ZcT (σ:=Nat) (α:=Nat×KK) rfl (by omega) (gf:=197) (lb:= #[.pointer (some ⟨Bs,0,none⟩)]) rfl trivial (enters_of func197 (by kernel_rfl) rfl) (back_by 3 (by omega) Bs g cc ks hkl _) (Below.refl _ _) ?hps (CutJ w h j q c n B0 Bh Bo Bn Br bs g cc Bs ks S l) (fun _ _=>False) (fun s W hh=>by obtain⟨T9,hI⟩:=hh;exact hI.tab) (CutJ.own hsz) (fun c s A B row hs hg hr=>hs.elim) ?h0 12 (fun x=>x.2.cs) (fun _=>Nat.succ_pos _) ?assign ?body ?done ?stop
 case hps=>intro x;rfl
 case h0=>
  refine⟨q.T, ?_, ?_,rfl,Nat.le_of_eq (Aa HKS)⟩
  ·unfold cutL
   rw[tab_self hj]
   exact Aa SS
  ·rw[hp,Ot (Aa HSl) (by have:=Aa HKS;omega)]
 case stop=>intro D c W hD hF;exact hF.elim
 case assign=>
  intro l9 s9 r9 W9 K9 hI9 hV9 hK9
  simp only[encB,zip2,n1,n2,n3] at hK9 ⊢
  obtain⟨p1,p2,p3⟩:=Rv W9 Ga.cs r9.2.cs 42 (Nat.le_refl _) rfl (Nat.succ_pos _)
  refine wpIn_region_lit ?_
  refine inV (fun _=>trivial) (by rfl) (by intro c h;cases h) (Oz rfl) ?_
  simp only[nn]
  refine inS (fun _=>trivial) (by rfl) (by intro c h;cases h) (Ef (t:=42) (vs:=r9.2.cs) rfl rfl rfl rfl (oneK _) szK (Holds.new W9 Ga.cs 42) (Nat.le_refl _)) ?_
  simp only[nn]
  refine wpListIn_nil ?_
  refine hK9 _ _ (kl_fr (Fr.of_below p1 []) (by simp)) ?_ p2
  exact CutJ.own (B:=w.heap.size) (Nat.le_refl _) s9 W9 _ none hI9 (Dz p1) (fun r e=>by cases e)
 case body=>
  intro l9 s9 r9 B W9 hl9 hI9 hV9 hH9
  obtain⟨T9,hI⟩:=hI9
  obtain⟨i,k⟩:=r9
  obtain⟨hs,hk9⟩:=hV9
  simp only[encB,zip2,n1,n2,n3]
  have HB:=Ab hH9
  clear hH9
  have hixc:(k=Bm/\i=S.length)∨ ∃m,S[i]? =some m/\k=De m:=by
   rw[Aa HK] at hk9
   rcases Nat.lt_or_ge i S.length with h1|h1
   ·rw[List.getElem?_append_left (by simpa using h1),List.getElem?_map,List.getElem?_eq_getElem h1] at hk9
    exact .inr ⟨_,List.getElem?_eq_getElem h1,(Option.some.inj hk9).symm⟩
   ·rw[List.getElem?_append_right (by simpa using h1),List.length_map] at hk9
    have h2:=(List.getElem?_eq_some_iff.1 hk9).1
    have h3:i - S.length=0:=by simpa using h2
    rw[h3] at hk9
    exact .inl ⟨(Option.some.inj hk9).symm,by omega⟩
  rcases hixc with ⟨rfl,rfl⟩|⟨m,hm,rfl⟩
  ·have hix:Lu (Dn Bm.s)=none:=by kernel_rfl
   refine wpIn_block (wpIn_seq (Jm (by kernel_rfl) (Jn (Kc Nq)) ?_))
   go_wp2_with (first|go_skip|((with_reducible show wpList ..);first|(refine rd rfl (Ai 9 isAgg9 rfl rfl (Aa HB) rfl) ?_)))
   have HO:=Nv Bm.s (by decide) W9
   rw[hix] at HO
   refine HO.mono ?_
   rintro _ W8 ⟨rfl,hW8⟩
   subst hW8
   go_wp2_with fail
   refine wpIn_seq (wpIn_seq (Jm (by kernel_rfl) (Jn (Jn (Kc Nq))) ?_))
   go_wp2_with (first|go_skip|((with_reducible show wpList ..);first|(refine rd rfl (Ai 44 isAgg44 rfl rfl (hI.sy.hold 4 rfl) rfl) ?_)))
   refine wpIn_cond_true rfl (wpIn_exit ?_)
   exact⟨KL.refl _,S.length,hs,T9,hI.sy,by rw[hI.pr,←hs,Ot (Aa HSl) (by omega),Ot (Aa HSl) (Nat.le_refl _)],hI.la,by omega⟩
  ·have hm6:m<=1000000:=Aa HSm m (List.mem_of_getElem? hm)
   have hix:Lu (Dn (De m).s)=some m:=Ux hm6
   have HBk:=Ab (show OkK (De m) from ZbO hm6)
   refine wpIn_block (wpIn_seq (Jm (by kernel_rfl) (Jn (Kc Nq)) ?_))
   go_wp2_with (first|go_skip|((with_reducible show wpList ..);first|(refine rd rfl (Ai 9 isAgg9 rfl rfl (Aa HB) rfl) ?_)))
   have HO:=Nv (De m).s (Za1 hm6) W9
   rw[hix] at HO
   refine HO.mono ?_
   rintro _ W8 ⟨rfl,hW8⟩
   subst hW8
   go_wp2_with fail
   refine wpIn_seq (wpIn_seq (Jm (by kernel_rfl) (Jn (Jn (Kc Nq))) ?_))
   by_cases hmc:m<c
   ·have d1:decide ((m:Int)<(c:Int))=true:=decide_eq_true (by omega)
    go_wp2_with (first|go_skip|((with_reducible show wpList ..);first|(refine rd rfl (Ai 44 isAgg44 rfl rfl (hI.sy.hold 4 rfl) rfl) ?_)|(refine rd rfl (ex_ltU rfl rfl rfl d1) ?_)))
    refine wpIn_cond_true rfl (wpIn_exit ?_)
    exact⟨KL.refl _,i,hs,T9,hI.sy,by rw[hI.pr,←hs,ZbL hm hmc],hI.la,by have:=hI.le;omega⟩
   ·have d1:decide ((m:Int)<(c:Int))=false:=decide_eq_false (by omega)
    go_wp2_with (first|go_skip|((with_reducible show wpList ..);first|(refine rd rfl (Ai 44 isAgg44 rfl rfl (hI.sy.hold 4 rfl) rfl) ?_)|(refine rd rfl (ex_ltU rfl rfl rfl d1) ?_)))
    refine wpIn_cond_false rfl (wpIn_skip ?_)
    have SS9:=Ab hI.sy
    refine wpIn_seq (Jm (by kernel_rfl) (Jn (Kc Nq)) ?_)
    go_wp2_with (first|go_skip|((with_reducible show wpList ..);first|(refine rd rfl (faM rfl rfl (hI.sy.emp 1 rfl)) ?_)|(refine rd rfl (ldO rfl rfl) ?_)|(refine rd rfl (Ai 24 isAgg24 rfl rfl (hI.sy.hold 2 rfl) rfl) ?_)|(refine rd rfl (Ai 3 isAgg3 rfl rfl (hI.sy.hold 3 rfl) rfl) ?_)|(refine rd rfl (Aj (vs:=(De m).cs) 42 2 rwK szK rfl rfl (Aa HB) rfl rfl) ?_)))
    have HO:=ZbG (h.tab j q T9) j {q with T:=T9} (De m) W8 (hI.sy.hp 0 rfl) (by rw[Rp];exact hl) (Yy hj T9) (Aa HBk) (by have:=hI.la;show T9.last<100000;omega)
    refine HO.mono ?_
    rintro _ Y3 ⟨h1,y,rfl,hD,T3⟩
    obtain⟨rfl,T2,rfl,hl2,hp2⟩:=del_step (hs▸hI.pr) hD (fun e he=>(hi e he).2) (Aa HSn) hm (by omega)
    have SY:=hI.sy.heap 0 rfl T3
    have hkl3:KL W8 Y3:=kl_fr T3.fr (fun b hb o ho=>hpO_nl _ W8 (hI.sy.hp 0 rfl) b hb o ho)
    have hla2:=hI.la
    have hle2:=hI.le
    clear hD T3 hI HB SS9
    go_wp2_with fail
    refine wpIn_seq (Jm (by kernel_rfl) (Jn (Kc Nq)) ?_)
    go_wp2_with fail
    refine wpIn_cond_false rfl (wpIn_skip ?_)
    exact⟨hkl3,i,hs,T2,SY,hp2,hl2.trans hla2,by omega⟩
 case done=>
  rintro D s9 W9 hD9 hF9 ⟨T9,hI⟩ hM9
  obtain rfl:s9=0:=hF9
  have hpr:=hI.pr
  rw[ZbK] at hpr
  have hla9:=hI.la
  have SM:=hI.sy.mark (Zcz _ _ _ _ _ _ _ _ _ _ _ _ _ _ _) hM9 (by omega)
  replace SS:Hid (Sy w W9 h.blocks [hpO (h.tab j q T9),Ku B0,Am Bh [.pointer (some ⟨h.b,0,none⟩)],Am Bo [.int .i64 ((j:Int)+1)],Am Bn [.int .u32 (c:Nat)],Am Br [.int .u32 0],Ls bs 42 2 (.slice (some ⟨g,0,none⟩) ks.length cc) ks.length (En ks),Am Bs [.slice (some ⟨g,0,none⟩) ks.length cc],markO D]):=Ab SM
  clear SM hI hM9
  go_wp2_with (first|go_skip|((with_reducible show wpList ..);first|(refine z1 44 isAgg44 4 (by rfl) rfl rfl SS rfl rfl ?_;simp only[nn])|(refine zS ([.int .u32 (c:Nat)]) 5 44 (by rfl) rfl rfl rfl rfl (by simp[Value.oneCell']) sz_u32 SS rfl ?_;clear SS;intro Xy SS;simp only[nn])))
  show LeavesInM Fence.wide 6 prog Tryz.f184 _ _ (Zci [D]) .returning _
  refine Ps [D] _ (by simp) (fun E hE=>by obtain rfl:=List.mem_singleton.1 hE;exact(Aa SS).get 8 rfl) (fun Z hZ=> ?_)
  have SZ:=(sy_init (L:= [_,_,_,_,_,_,_,_]) (Aa SS)).other hZ (fun b hb=> .inr (by rw[List.mem_singleton.1 hb];omega)) (sy_last (L:= [_,_,_,_,_,_,_,_]) (Aa SS))
  exact⟨_,res_cut (SZ.hold 5 rfl) rfl,T9,rfl,hpr,hla9,HP.To.end H SZ rfl⟩
end
section
open Go Go.Proofs Go.Maps Go.RowKit FM
attribute [local go_sem] Ad Ag Ak Df Bi Ae Bg
theorem Vn (h:HP) (o:Int) (k:KK) (w:World) (H:h.Is w) (hl:h.l.length<=65536) (hT:Tabs w) (P:HP->Bool->Value->Prop) (hC: ∀(j:Nat) (q:OB) (X:World),o=(j:Int)+1->h.l[j]? =some q->orE [thE o h.l.length,Da k]=0->h.To h w X->Calls Tryz.prog 55 #[.pointer (some ⟨h.b,0,none⟩), .int .i64 ((j:Int)+1),k.agg] X fun e w'=> ∃(h1:HP) (y:Bool) (er:Value),e= .returned (.tuple #[.bool y,er])/\P h1 y er/\h.To h1 X w'):Calls Tryz.prog 26 #[.pointer (some ⟨h.b,0,none⟩), .int .i64 o,k.agg] w fun e w'=> ∃(h1:HP) (y:Bool) (er:Value),e= .returned (.tuple #[.bool y,er])/\((orE [thE o h.l.length,Da k]≠0/\er=ePair (orE [thE o h.l.length,Da k])/\h1=h/\y=false)∨(orE [thE o h.l.length,Da k]=0/\P h1 y er))/\h.To h1 w w':=by
 have SS:=Ab H.start
 rw[Le]
 go_enter Tryz.func26,Tryz.ntmps26
 go_wp2_with (first|go_skip|((with_reducible show wpList ..);first|(refine zB 42 (k.cs) (by rfl) rfl rfl rfl SS ?_;clear SS;intro Xp0 Bp0 SS;simp only[nn])))
 have kt:=fun {X:World} (s:h.Is X)=>Pf h o X s
 have kk:=fun {X:World} (s:Fr w X h.blocks)=>ZbN k X (hT.fr s H.low).1
 have ko:=fun {X:World} {B:Nat} (g:Holds X B (Ov [thE o h.l.length,Da k]))=>Om B 2 [thE o h.l.length,Da k] X g (by simp)
 have hS1:Sy w _ h.blocks [hpO h,Am Bp0 k.cs]:=(Aa SS).drew
 clear SS
 refine Mx (fun a a' X=> ∃(v14:Value),a'=((((((((a.put (some 9) (.pointer (some ⟨h.b,0,none⟩))).put (some 10) (.int .i64 o)).put (some 11) (.int .i64 (thE o h.l.length))).put (some 12) (.agg k.cs.toArray)).put (some 13) (.int .i64 (Da k))).put (some 14) v14).put (some 15) (.int .i64 (orE [thE o h.l.length,Da k]))).put (some 8) (.int .i64 (orE [thE o h.l.length,Da k])))/\Sy w X h.blocks [hpO h,Am Bp0 k.cs]) ?_ ?_
 ·refine wp_region_held_drew (P:=Tryz.prog) (S:=fun X=>Sy w X h.blocks _) (by kernel_rfl) (hS1) (fun hS0=> ?_)
  refine gp 0 (some 9) (.pointer (some ⟨h.b,0,none⟩)) rfl rfl (hS1) ?_
  refine gp 1 (some 10) (.int .i64 o) rfl rfl (hS1) ?_
  refine gq 3 (some 12) (.agg k.cs.toArray) rfl rfl (fun X hX=>Aj (vs:=k.cs) 42 2 rwK szK rfl rfl (hX.hold 1 rfl) rfl rfl) (hS1) ?_
  refine gr (rs:= [2]) (gcW 2 (some 11) rfl rfl (hS1) (kt (hS1.hp 0 rfl)) ?_ gn)
  simp only[nn]
  refine gr (rs:= [4]) (gcB 4 (some 13) rfl rfl hS1 (kk hS1.fr) id ?_ gn)
  intro Yt2 hqt2
  simp only[nn]
  refine gr (rs:= [5]) (Bl 5 (some 14) rfl rfl (by kernel_rfl) (ex_bsE2 rfl rfl rfl) (Nat.succ_pos _) hqt2 (fun _ hZ=>Sy.left (L:= [_,_]) (M:= [_]) hZ) ?_ gn)
  intro Yt3 Bt3 hEt3 hqt3
  clear hEt3
  simp only[nn]
  refine gr (rs:= [6]) (gcW 6 (some 15) rfl rfl (Sy.left (L:= [_,_]) (M:= [_]) hqt3) (ko (hqt3.hold 2 rfl)) ?_ gn)
  refine gp 7 (some 8) (.int .i64 (orE [thE o h.l.length,Da k])) rfl rfl (Sy.left (L:= [_,_]) (M:= [_]) hqt3) ?_
  refine wpAnyH_done (by kernel_rfl) ?_ _
  try simp only[nn]
  exact pN ⟨_,rfl,Sy.left (L:= [_,_]) (M:= [_]) hqt3⟩
 ·rintro a' X ⟨v14,rfl,hS9⟩
  simp only[nn]
  have SS:=Ab hS9
  clear hS9
  by_cases hc:orE [thE o h.l.length,Da k]=0
  ·obtain⟨j,q,ho_,hj⟩:=Yw (h:=h) (o:=o) (Pm hc (thE o h.l.length) (by simp))
   have HO_:=Ab ho_
   clear ho_
   go_wp2_with (first|go_skip|((with_reducible show wpList ..);first|(refine rd rfl (Mm rfl rfl rfl hc) ?_)|(refine zL (k.cs) 42 2 1 rwK szK (by rfl) rfl rfl SS rfl rfl rfl ?_;simp only[nn])))
   have HC:=hC j q _ (Aa HO_) hj hc (HP.To.end H (Aa SS) rfl)
   rw[Le] at HC
   rw[←Aa HO_] at HC
   refine HC.mono ?_
   rintro _ Y9 ⟨h1,y,er,rfl,hP,T9⟩
   replace SS:=Ab ((Aa SS).heap 0 rfl T9)
   have hb9:h1.b=h.b:=T9.hb
   clear T9 HC
   go_wp2
   go_ret2
   exact⟨h1,y,er,rfl, .inr ⟨hc,hP⟩,HP.To.end H (Aa SS) hb9⟩
  ·go_wp2_with (first|go_skip|((with_reducible show wpList ..);first|(refine rd rfl (Pz rfl rfl rfl hc) ?_)))
   go_ret2
   exact⟨h,false,_,rfl, .inl ⟨hc,rfl,rfl,rfl⟩,HP.To.end H (Aa SS) rfl⟩
