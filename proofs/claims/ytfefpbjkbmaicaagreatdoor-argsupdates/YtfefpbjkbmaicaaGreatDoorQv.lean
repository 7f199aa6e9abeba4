import Derived.Test.YtfefpbjkbmaicaaGreatDoorQn
import Derived.Carry
set_option linter.all false
namespace Go.Proofs.YtfefpbjkbmaicaaGreatDoor
set_option maxRecDepth 100000
set_option maxHeartbeats 0
section
open Go Go.Proofs Go.Maps Go.RowKit
structure Fr (w X:World) (E:List Nat):Prop where
 os:X.os=w.os
 tape:X.tape=w.tape
 output:X.output=w.output
 size:w.heap.size<=X.heap.size
 block: ∀b,b<w.heap.size->b ∉ E->X.heap[b]? =w.heap[b]?
theorem Fr.refl (w:World) (E:List Nat):Fr w w E:=⟨rfl,rfl,rfl,Nat.le_refl _,fun _ _ _=>rfl⟩
theorem Fr.trans {w X Y:World} {E E':List Nat} (h:Fr w X E) (k:Fr X Y E') (hE: ∀b∈E',b∈E∨w.heap.size<=b):Fr w Y E:=
 ⟨k.os.trans h.os,k.tape.trans h.tape,k.output.trans h.output,Nat.le_trans h.size k.size,fun b hb he=>
  (k.block b (Nat.lt_of_lt_of_le hb h.size) (fun he'=>(hE b he').elim he (fun h2=>by omega))).trans (h.block b hb he)⟩
theorem Fr.of_below {w X:World} (h:Below w.heap.size w X) (E:List Nat):Fr w X E:=⟨h.os,h.tape,h.output,h.size,fun b hb _=>h.block b hb⟩
theorem Fr.below {w X:World} (h:Fr w X []):Below w.heap.size w X:=⟨h.os,h.tape,h.output,h.size,fun b hb=>h.block b hb (by simp)⟩
theorem Fr.on {w X Y:World} {E:List Nat} (h:Fr w X E) (k:Below X.heap.size X Y):Fr w Y E:=h.trans (Fr.of_below k []) (by simp)
theorem Fr.mono {w X:World} {E E':List Nat} (h:Fr w X E) (hE: ∀b∈E,b∈E'∨w.heap.size<=b):Fr w X E':=(Fr.refl w E').trans h hE
theorem Fr.drew {w X:World} {E:List Nat} (h:Fr w X E):Fr w X.drew E:=⟨h.os,h.tape,h.output,h.size,h.block⟩
theorem Kx (b:Nat): ∀(vs:List Value) (o:Nat) (X:World),(X.setCells b o vs).os=X.os/\(X.setCells b o vs).tape=X.tape/\(X.setCells b o vs).output=X.output
 | [],_,_=>⟨rfl,rfl,rfl⟩
 |v::vs,o,X=>by
  obtain⟨h1,h2,h3⟩:=Kx b vs (o+1) (X.setCell ⟨b,o,none⟩ v)
  rw[World.setCells]
  exact⟨h1,h2,h3⟩
theorem Fr.setCells (X:World) (b p:Nat) (vs:List Value):Fr X (X.setCells b p vs) [b]:=
 ⟨(Kx b vs p X).1,(Kx b vs p X).2.1,(Kx b vs p X).2.2,by rw[Gr];exact Nat.le_refl _,fun g _ hg=>Gb b vs p X g (by simpa using hg)⟩
theorem Fr.grown {X Y:World} {row:Option Nat} (h:X.grownBy Y row):Fr X Y row.toList:=
 ⟨h.os,h.tape,h.output,h.size,fun b hb hE=>h.block b hb (fun e=>hE (by rw[←e];simp))⟩
structure Hq (w X:World) (E:List Nat) (L:List (Nat×List Value)):Prop where
 fr:Fr w X E
 all: ∀q∈L,Holds X q.1 q.2/\0<q.2.length
 nd:(L.map (·.1)).Nodup
theorem Hq.nil (w:World) (E:List Nat):Hq w w E []:=⟨Fr.refl _ _,(fun q hq=>by cases hq),by simp⟩
theorem Hq.lt {w X:World} {E:List Nat} {L:List (Nat×List Value)} (h:Hq w X E L): ∀q∈L,q.1<X.heap.size:=fun q hq=>(h.all q hq).1.lt (h.all q hq).2
theorem Hq.get {w X:World} {E:List Nat} {L:List (Nat×List Value)} (h:Hq w X E L) (i:Nat) {b:Nat} {cs:List Value} (hi:L[i]? =some (b,cs)):Holds X b cs:=(h.all _ (List.mem_of_getElem? hi)).1
theorem Hq.drew {w X:World} {E:List Nat} {L:List (Nat×List Value)} (h:Hq w X E L):Hq w X.drew E L:=⟨h.fr.drew,fun q hq=>⟨(h.all q hq).1.block rfl,(h.all q hq).2⟩,h.nd⟩
theorem Hq.on {w X Y:World} {E:List Nat} {L:List (Nat×List Value)} (h:Hq w X E L) (k:Below X.heap.size X Y):Hq w Y E L:=
 ⟨h.fr.on k,fun q hq=>⟨(h.all q hq).1.block (k.block _ (h.lt q hq)),(h.all q hq).2⟩,h.nd⟩
theorem Hq.step {w X Y:World} {E E':List Nat} {L:List (Nat×List Value)} (h:Hq w X E L) (k:Fr X Y E') (hE: ∀b∈E',b∈E∨w.heap.size<=b) (hL: ∀q∈L,q.1 ∉ E'):Hq w Y E L:=
 ⟨h.fr.trans k hE,fun q hq=>⟨(h.all q hq).1.block (k.block _ (h.lt q hq) (hL q hq)),(h.all q hq).2⟩,h.nd⟩
theorem Hq.add {w X:World} {E:List Nat} {L:List (Nat×List Value)} (h:Hq w X E L) {b:Nat} {cs:List Value} (hb:Holds X b cs) (hc:0<cs.length) (hn: ∀q∈L,q.1≠b):Hq w X E (L++ [(b,cs)]):=by
 refine⟨h.fr,fun q hq=> ?_, ?_⟩
 ·rcases List.mem_append.1 hq with hq|hq
  ·exact h.all q hq
  ·obtain rfl:q=(b,cs):=by simpa using hq
   exact⟨hb,hc⟩
 ·rw[List.map_append,List.nodup_append]
  refine⟨h.nd,by simp,fun x hx y hy=> ?_⟩
  obtain⟨q,hq,rfl⟩:=List.mem_map.1 hx
  obtain rfl:y=b:=by simpa using hy
  exact hn q hq
theorem Hq.new {w X:World} {E:List Nat} {L:List (Nat×List Value)} (h:Hq w X E L) (cs:List Value) (t:TypeId) (hc:0<cs.length):Hq w (X.alloc (Obj.cells cs.toArray t)) E (L++ [(X.heap.size,cs)]):=
 (h.on ((Below.refl _ _).alloc (Nat.le_refl _) _)).add (Holds.new X cs t) hc (fun q hq=>Nat.ne_of_lt (h.lt q hq))
theorem Hq.put {w X:World} {E:List Nat} {L:List (Nat×List Value)} (h:Hq w X E L) (i:Nat) {b:Nat} {cs:List Value} (hi:L[i]? =some (b,cs)) (p:Nat) (vs:List Value) (hp:p+vs.length<=cs.length) (hE:b∈E∨w.heap.size<=b):Hq w (X.setCells b p vs) E (L.set i (b,Dq cs p vs)):=by
 have hil:=(List.getElem?_eq_some_iff.1 hi).1
 have hie:=(List.getElem?_eq_some_iff.1 hi).2
 have hH:=h.get i hi
 have hlen:(Dq cs p vs).length=cs.length:=by simp[Dq];omega
 refine⟨h.fr.trans (Fr.setCells X b p vs) (by simpa using hE),fun q hq=> ?_, ?_⟩
 ·rcases List.getElem?_of_mem hq with ⟨j,hj⟩
  rw[List.getElem?_set] at hj
  split at hj
  ·rename_i e
   subst e
   obtain rfl:=Option.some.inj hj
   have h1:=(h.all _ (List.mem_of_getElem? hi)).2
   exact⟨hH.put p vs hp,by simpa [hlen] using h1⟩
  ·rename_i e
   have hm:=List.mem_of_getElem? hj
   refine⟨(h.all q hm).1.block (Gb b vs p X q.1 ?_),(h.all q hm).2⟩
   intro eb
   have hjl:=(List.getElem?_eq_some_iff.1 hj).1
   have h1:(L.map (·.1))[i]? =some b:=by simp[hi]
   have h2:(L.map (·.1))[j]? =some b:=by simp[hj,eb]
   have:=(List.getElem?_inj (by simpa using hil) h.nd).1 (h1.trans h2.symm)
   exact e this
 ·have e:(L.set i (b,Dq cs p vs)).map (·.1)=L.map (·.1):=by
   rw[List.map_set]
   apply List.ext_getElem?
   intro j
   rw[List.getElem?_set]
   split
   ·rename_i e
    subst e
    simp[hil,hie]
   ·rfl
  rw[e]
  exact h.nd
end
section
open Go Go.Proofs Go.Maps Go.RowKit Tryz
instance decK:DecidableEq KK:=fun a b=>decidable_of_iff (a.s=b.s/\a.n=b.n) ⟨fun h=>KK.ext' h.1 h.2,fun h=>h▸⟨rfl,rfl⟩⟩
structure RR where
 b:Nat
 k:KK
 d:DD
 n:Nat
 gone:Bool
def RR.cs (r:RR):List Value:=r.k.cs++(r.d.cs++ [.int .u64 r.n, .bool r.gone])
theorem ZaF (d:VV):d.cs.length=5:=rfl
theorem Ot (d:DD):d.cs.length=18:=rfl
theorem Ej (r:RR):r.cs.length=22:=rfl
def Oh (l:List Nat):List Value:=l.map (fun b=> .pointer (some ⟨b,0,none⟩))
def OwnP (W:World) (v:Value) (l:List Nat):Prop:=W.ownsRow 0 176 1 v l.length (Oh l)
theorem OwnP.nil (W:World):OwnP W (.slice none 0 0) []:=⟨rfl, .inl ⟨rfl,rfl⟩⟩
theorem OwnP.lt {W:World} {v:Value} {l:List Nat} (h:OwnP W v l): ∀g,v.ownBlock=some g->g<W.heap.size:=fun g hg=>(World.ownsRow.lt h g hg).2
theorem OwnP.block {W W':World} {v:Value} {l:List Nat} (h:OwnP W v l) (he: ∀g,v.ownBlock=some g->W'.heap[g]? =W.heap[g]?):OwnP W' v l:=by
 obtain⟨h1,h2⟩:=h
 refine⟨h1, ?_⟩
 rcases h2 with h2|⟨g,cap,cur,rfl,h3,h4,h5⟩
 ·exact .inl h2
 ·exact .inr ⟨g,cap,cur,rfl,h3,(he g rfl).trans h4,h5⟩
structure TT where
 t:Nat
 m:Nat
 rv:Value
 rows:List RR
 last:Nat
def TT.live (T:TT):List RR:=T.rows.filter (fun r=> !r.gone)
def TT.find (T:TT) (k:KK):Option RR:=T.live.find? (fun r=>decide (r.k=k))
def TT.blocks (T:TT):List Nat:=T.t::T.m::(T.rv.ownBlock.toList++T.rows.map (·.b))
def TT.cs (T:TT):List Value:= [.map (some T.m),T.rv, .int .u64 T.last]
structure TT.Is (T:TT) (W:World):Prop where
 tab:Holds W T.t T.cs
 map:MapIs W T.m T.last T.live.length (fun k=>(T.find k).map (·.b))
 own:OwnP W T.rv (T.rows.map (·.b))
 rows: ∀r∈T.rows,Holds W r.b r.cs
 nd:T.blocks.Nodup
 rise:T.rows.Pairwise (fun a b=>a.n<b.n)
 num: ∀r∈T.rows,1<=r.n/\r.n<=T.last
 keys:T.live.Pairwise (fun a b=>a.k≠b.k)
 good: ∀r∈T.live,goodK r.k=true
theorem TT.Is.lt {T:TT} {W:World} (h:T.Is W): ∀b∈T.blocks,b<W.heap.size:=by
 intro b hb
 simp only[TT.blocks,List.mem_cons,List.mem_append,List.mem_map] at hb
 rcases hb with rfl|rfl|hb|⟨r,hr,rfl⟩
 ·exact h.tab.lt (by simp[TT.cs])
 ·exact h.map.lt
 ·exact h.own.lt b (by simpa using hb)
 ·exact(h.rows r hr).lt (by simp[Ej])
theorem TT.Is.block {T:TT} {W W':World} (h:T.Is W) (he: ∀b∈T.blocks,W'.heap[b]? =W.heap[b]?):T.Is W':=
 ⟨h.tab.block (he _ (by simp[TT.blocks])),h.map.block (he _ (by simp[TT.blocks])),h.own.block (fun g hg=>he g (by simp[TT.blocks,hg])),fun r hr=>(h.rows r hr).block (he _ (by
  simp only[TT.blocks,List.mem_cons,List.mem_append,List.mem_map]
  exact .inr (.inr (.inr ⟨r,hr,rfl⟩)))),h.nd,h.rise,h.num,h.keys,h.good⟩
theorem TT.Is.on {T:TT} {W W':World} (h:T.Is W) (hb:Below W.heap.size W W'):T.Is W':=h.block (fun b hb'=>hb.block b (h.lt b hb'))
theorem TT.Is.drew {T:TT} {W:World} (h:T.Is W):T.Is W.drew:=h.block (fun _ _=>rfl)
theorem TT.find_mem {T:TT} {k:KK} {r:RR} (h:T.find k=some r):r∈T.rows/\r.gone=false/\r.k=k:=by
 have h1:=List.mem_of_find?_eq_some h
 have h2:=List.find?_some h
 simp[TT.live] at h1 h2
 exact⟨h1.1,h1.2,h2⟩
section
variable {md : Region.Mode} {ops : Array Oper} {rest : List Oper} {Q : Exit → Act → World → Prop} {S : World → Prop} {w w0 : World} {fuel : Nat} {listed : Array Bool} {a : Act} {o : Oper}
theorem gsem (i:Nat) (dst:Option Tmp) (v:Value) (hi:ops[i]? =some o) (hs:Region.noSelect ops=true) (hf:Region.free md ops listed i=true) (hr:(Region.ready md ops listed).contains i=true)
  (hQ: ∀c a w,Q (.panic c) (a.put dst v) w->Q (.panic c) a w) (hd:o.dst=dst) (hw:Region.wanted o (yielded ops a.tmps)=true) (hy: ∀X,S X->(execOp a.eval o).run prog X= .ok (.value v) X)
  (hS:S w) (h:wpAnyH prog md ops Q S fuel (listed.setIfInBounds i true) (a.put dst v) w):wpAnyH prog md ops Q S (fuel+1) listed a w:=by
 subst hd
 exact wpAnyH_take hi hs hf hr hQ (Or.inl ⟨hw,hy⟩) hS h
theorem y10 (i:Nat) (dst:Option Tmp) (v:Value) (hi:ops[i]? =some o) (hy: ∀X,S X->(execOp a.eval o).run prog X= .ok (.value v) X) (hS:S w) (h:wpAnyH prog md ops Q S fuel (listed.setIfInBounds i true) (a.put dst v) w) (hs:Region.noSelect ops=true:=by kernel_rfl) (hf:Region.free md ops listed i=true:=by kernel_rfl) (hr:(Region.ready md ops listed).contains i=true:=by kernel_rfl) (hQ: ∀c a w,Q (.panic c) (a.put dst v) w->Q (.panic c) a w:=by exact fun _ _ _ h=>h) (hd:o.dst=dst:=by kernel_rfl) (hw:Region.wanted o (yielded ops a.tmps)=true:=by kernel_rfl):wpAnyH prog md ops Q S (fuel+1) listed a w:=gsem i dst v hi hs hf hr hQ hd hw hy hS h
theorem y1 {aB:Act} (i:Nat) (dst:Option Tmp) (v:Value) (hi:ops[i]? =some o) (hy: ∀X,S X->(execOp a.eval o).run prog X= .ok (.value v) X) (hS:S w) (h:wpAnyH prog md ops Q S fuel (listed.setIfInBounds i true) aB w) (hb:a.put dst v=aB:=by simp only[nn]<;>rfl) (hs:Region.noSelect ops=true:=by kernel_rfl) (hf:Region.free md ops listed i=true:=by kernel_rfl) (hr:(Region.ready md ops listed).contains i=true:=by kernel_rfl) (hQ: ∀c a w,Q (.panic c) (a.put dst v) w->Q (.panic c) a w:=by exact fun _ _ _ h=>h) (hd:o.dst=dst:=by kernel_rfl) (hw:Region.wanted o (yielded ops a.tmps)=true:=by kernel_rfl):wpAnyH prog md ops Q S (fuel+1) listed a w:=y10 i dst v hi hy hS (hb▸h) hs hf hr hQ hd hw
theorem y00 (i:Nat) (dst:Option Tmp) (v:Value) (hi:ops[i]? =some o) (hS:S w) (h:wpAnyH prog md ops Q S fuel (listed.setIfInBounds i true) (a.put dst v) w) (hy: ∀X,S X->(execOp a.eval o).run prog X= .ok (.value v) X:=by intro _ _;kernel_rfl) (hs:Region.noSelect ops=true:=by kernel_rfl) (hf:Region.free md ops listed i=true:=by kernel_rfl) (hr:(Region.ready md ops listed).contains i=true:=by kernel_rfl) (hQ: ∀c a w,Q (.panic c) (a.put dst v) w->Q (.panic c) a w:=by exact fun _ _ _ h=>h) (hd:o.dst=dst:=by kernel_rfl) (hw:Region.wanted o (yielded ops a.tmps)=true:=by kernel_rfl):wpAnyH prog md ops Q S (fuel+1) listed a w:=gsem i dst v hi hs hf hr hQ hd hw hy hS h
theorem y0 {aB:Act} (i:Nat) (dst:Option Tmp) (v:Value) (hi:ops[i]? =some o) (hS:S w) (h:wpAnyH prog md ops Q S fuel (listed.setIfInBounds i true) aB w) (hb:a.put dst v=aB:=by simp only[nn]<;>rfl) (hy: ∀X,S X->(execOp a.eval o).run prog X= .ok (.value v) X:=by intro _ _;kernel_rfl) (hs:Region.noSelect ops=true:=by kernel_rfl) (hf:Region.free md ops listed i=true:=by kernel_rfl) (hr:(Region.ready md ops listed).contains i=true:=by kernel_rfl) (hQ: ∀c a w,Q (.panic c) (a.put dst v) w->Q (.panic c) a w:=by exact fun _ _ _ h=>h) (hd:o.dst=dst:=by kernel_rfl) (hw:Region.wanted o (yielded ops a.tmps)=true:=by kernel_rfl):wpAnyH prog md ops Q S (fuel+1) listed a w:=y00 i dst v hi hS (hb▸h) hy hs hf hr hQ hd hw
theorem rd0 {v:Value} (hw:Region.wanted o (yielded ops a.tmps)=true) (hy:(execOp a.eval o).run prog w= .ok (.value v) w) (h:wpList prog ops Q rest (a.put o.dst v) w):wpList prog ops Q (o::rest) a w:=by
 refine BigFrame.wpList_want hw fun K hK=> ?_
 have hP:=hK _ _ h
 unfold Oper.wp
 rw[hy]
 exact hP
theorem rd {aB:Act} {v:Value} (hw:Region.wanted o (yielded ops a.tmps)=true) (hy:(execOp a.eval o).run prog w= .ok (.value v) w) (h:wpList prog ops Q rest aB w) (hb:a.put o.dst v=aB:=by simp only[nn]<;>rfl):wpList prog ops Q (o::rest) a w:=rd0 hw hy (hb▸h)
theorem Ei (w:World) (b p:Nat) (ty:TypeId) (v:Value) (vs:List Value) (hv:v.cells.toList=vs) (ht:w.there b p vs.length) (hi:(prog.info? ty).map (·.size)=some vs.length) (h1: ∀u∈vs,u.oneCell'=true):
  (storeVar ty ⟨b,p,none⟩ v).run prog w= .ok () (w.setCells b p vs):=by
 have:=run_storeCells_cells (P:=prog) b p vs 0 w (fun j hj=>by simpa using (ht j hj).1) (fun j hj=>by simpa using (ht j hj).2) h1
 cases hq:prog.info? ty with
 |none=>simp[hq] at hi
 |some i=>
  have hs:v.cells.size=i.size:=by
   have e:v.cells.size=vs.length:=by rw[←hv];simp
   simp[hq] at hi;omega
  simp only[Nat.add_zero] at this
  simp[storeVar,sizeOf,typeInfo,hq,hs,hv,this]
theorem st {E:List Nat} {L:List (Nat×List Value)} {b p:Nat} {cs vs:List Value} {v:Value} {x y:Operand} (i:Nat) (t:TypeId) (hw:Region.wanted o (yielded ops a.tmps)=true) (ho:o.op= .store t x y) (hx:a.eval x= .pointer (some ⟨b,p,none⟩)) (hy:a.eval y=v)
  (hv:v.cells.toList=vs) (h1: ∀u∈vs,u.oneCell'=true) (hi:(prog.info? t).map (·.size)=some vs.length) (hL:Hq w0 w E L) (hg:L[i]? =some (b,cs)) (hp:p+vs.length<=cs.length) (hE:b∈E∨w0.heap.size<=b)
  (h: ∀X,Hq w0 X E (L.set i (b,Dq cs p vs))->Fr w X [b]->X.heap.size=w.heap.size->wpList prog ops Q rest (a.put o.dst undef) X):wpList prog ops Q (o::rest) a w:=by
 refine BigFrame.wpList_want hw fun K hK=> ?_
 have hP:=hK _ _ (h _ (hL.put i hg p vs hp hE) (Fr.setCells w b p vs) (Gr _ _ _))
 unfold Oper.wp execOp
 simp only[ho,hx,hy,Instr.storeAt,Instr.sureAddr,Sem.run_bind,Sem.run_pure,Result.andThen_ok,Ei w b p t v vs hv ((hL.get i hg).there p vs.length hp) hi h1]
 exact hP
end
theorem Zw (w:World):Calls prog 53 #[] w fun e w'=> ∃T:TT,e= .returned (.pointer (some ⟨T.t,0,none⟩))/\T.Is w'/\T.rows= []/\T.last=0/\(∀b∈T.blocks,w.heap.size<=b)/\Below w.heap.size w w':=by
 have hmm:= @run_makeMap prog
 go_enter func53,ntmps53
 go_wp2
 go_ret
 have hN:=Holds.new (w.alloc (Obj.map #[] 0)) [.map (some w.heap.size), .slice none 0 0, .int .u64 0] 135
 have hM:=MapIs.made w
 have hz:(w.alloc (Obj.map #[] 0)).heap.size=w.heap.size+1:=by simp
 rw[hz] at hN
 have hb:Below w.heap.size w ((w.alloc (Obj.map #[] 0)).alloc (Obj.cells #[Value.map (some w.heap.size),Value.slice none 0 0,Value.int IntKind.u64 0] 135)):=((Below.refl _ _).alloc (Nat.le_refl _) _).alloc (by simp) _
 refine⟨⟨w.heap.size+1,w.heap.size, .slice none 0 0, [],0⟩,rfl,⟨hN, ?_,OwnP.nil _,(fun r hr=>by cases hr),by simp[TT.blocks,Value.ownBlock],by simp,(fun r hr=>by cases hr),by simp[TT.live],(fun r hr=>by simp[TT.live] at hr)⟩,rfl,rfl, ?_,hb⟩
 ·refine MapIs.block (w:=w.alloc (Obj.map #[] 0)) ?_ (Below.heap_alloc _ _ _ (by simp))
  exact hM
 ·intro b hb
  simp[TT.blocks,Value.ownBlock] at hb
  rcases hb with rfl|rfl<;>simp
theorem ZaZ {o:Oper} {a:Act} {w:World} {m:Operand} {b n sz:Nat} {F:KK->Option Nat} (ho:o.op= .call {callee:= .builtin .len,args:= #[m],argTypes:= #[132]}) (hm:a.eval m= .map (some b)) (h:MapIs w b n sz F):(execOp a.eval o).run prog w= .ok (.value (.int .i64 sz)) w:=by
 simp[execOp,ho,resolve,invoke,builtin,hm,h.len o.type,Result.andThen]
theorem len30 (T:TT) (w:World) (hT:T.Is w):Calls prog 165 #[.pointer (some ⟨T.t,0,none⟩)] w fun e w'=>e= .returned (.int .i64 T.live.length)/\w'=w:=by
 have HT:=Ac hT
 clear hT
 go_enter func165,ntmps165
 go_wp2_with (first|go_skip|(refine rd rfl (Aj 132 isAgg132 rfl rfl (Aa HT).tab rfl) ?_)|(refine rd rfl (ZaZ rfl rfl (Aa HT).map) ?_))
 go_ret
 exact⟨rfl,rfl⟩
theorem TT.live_le (T:TT):T.live.length<=T.rows.length:=List.length_filter_le _ _
theorem ex_lenS {o:Oper} {a:Act} {w:World} {m:Operand} {v:Value} {l:List RR} (ho:o.op= .call {callee:= .builtin .len,args:= #[m],argTypes:= #[133]}) (hm:a.eval m=v) (h:OwnP w v (l.map (·.b))):(execOp a.eval o).run prog w= .ok (.value (.int .i64 (l.length:Nat))) w:=by
 have hv: ∃A c,v= .slice A l.length c:=by
  rcases h.2 with ⟨h1,h2⟩|⟨g,cap,cur,h1,h2⟩
  ·exact⟨none,0,by rw[h1];simp at h2;simp[h2]⟩
  ·exact⟨_,_,by rw[h1];simp;exact⟨rfl,rfl⟩⟩
 obtain⟨A,c,rfl⟩:=hv
 simp[execOp,ho,resolve,invoke,builtin,hm,Builtin.len_,Result.andThen,goInt,underlying133,run_underlying underlying133]
theorem ex_sub {o:Oper} {a:Act} {w:World} {x y:Operand} {m n:Nat} (ho:o.op= .binOp .sub 3 x y 3) (hx:a.eval x= .int .i64 (m:Nat)) (hy:a.eval y= .int .i64 (n:Nat)) (h:n<=m) (hm:m<=4000000):(execOp a.eval o).run prog w= .ok (.value (.int .i64 ((m - n:Nat):Int))) w:=by
 have e:((m - n:Nat):Int)=(m:Int) - (n:Int):=by omega
 rw[e]
 unfold execOp
 simp only[ho,hx,hy]
 have hs:=subI (m:Int) (n:Int) (by omega) (by omega) w
 simp[go_sem,eqGuard,hs,Result.andThen]
 rw[IntKind.wrap_i64]
 omega
theorem gaps38 (T:TT) (w:World) (hT:T.Is w) (hl:T.rows.length<=4000000):Calls prog 164 #[.pointer (some ⟨T.t,0,none⟩)] w fun e w'=>e= .returned (.int .i64 ((T.rows.length - T.live.length:Nat):Int))/\Below w.heap.size w w':=by
 have HT:=Ac hT
 clear hT
 go_enter func164,ntmps164
 go_wp2
 refine wp_region_held_drew (P:=prog) (S:=fun X=>T.Is X) (by kernel_rfl) (Aa HT).drew (fun hS0=> ?_)
 refine y0 0 (some 3) (.pointer (some ⟨T.t,0,none⟩)) rfl hS0 ?_
 refine y0 1 (some 4) (.pointer (some ⟨T.t,0,none⟩)) rfl hS0 ?_
 refine y0 2 (some 5) (.pointer (some ⟨T.t,1,none⟩)) rfl hS0 ?_
 refine y1 3 (some 6) (T.rv) rfl (fun X hX=>Aj 133 isAgg133 rfl rfl (hX.tab) rfl) hS0 ?_
 refine y1 4 (some 7) (.int .i64 (T.rows.length:Nat)) rfl (fun X hX=>ex_lenS rfl rfl hX.own) hS0 ?_
 refine y0 5 (some 8) (.pointer (some ⟨T.t,0,none⟩)) rfl hS0 ?_
 refine y0 6 (some 9) (.pointer (some ⟨T.t,0,none⟩)) rfl hS0 ?_
 refine y0 7 (some 10) (.pointer (some ⟨T.t,0,none⟩)) rfl hS0 ?_
 refine y1 8 (some 11) (.map (some T.m)) rfl (fun X hX=>Aj 132 isAgg132 rfl rfl (hX.tab) rfl) hS0 ?_
 refine y1 9 (some 12) (.int .i64 (T.live.length:Nat)) rfl (fun X hX=>ZaZ rfl rfl hX.map) hS0 ?_
 refine y1 10 (some 13) (.int .i64 ((T.rows.length - T.live.length:Nat):Int)) rfl (fun X hX=>ex_sub rfl rfl rfl (by have:=T.live_le;omega) hl) hS0 ?_
 refine y0 11 (some 2) (.int .i64 ((T.rows.length - T.live.length:Nat):Int)) rfl hS0 ?_
 refine wpAnyH_done (by kernel_rfl) ?_ _
 try simp only[nn]
 go_wp2
 go_ret
 exact⟨rfl,(Below.refl _ _).drew⟩
theorem Li (w:World) (a b:Array Value) (s t:TypeId):Below w.heap.size w ((w.alloc (Obj.cells a s)).alloc (Obj.cells b t)):=((Below.refl _ _).alloc (Nat.le_refl _) _).alloc (by simp) _
theorem Hq.two (w:World) (E:List Nat) (a b:List Value) (s t:TypeId) (ha:0<a.length) (hb:0<b.length):Hq w ((w.alloc (Obj.cells a.toArray s)).alloc (Obj.cells b.toArray t)) E [(w.heap.size,a),(w.heap.size+1,b)]:=by
 have h:=((Hq.nil w E).new a s ha).new b t hb
 rw[show (w.alloc (Obj.cells a.toArray s)).heap.size=w.heap.size+1 by simp] at h
 exact h
def getD (T:TT) (k:KK):DD:=((T.find k).map (·.d)).getD Bx
theorem Jj: ∃d,prog.underlying 42=some d/\d.isRow=true:=⟨_,underlying42,rfl⟩
theorem Za: ∃d,prog.underlying 29=some d/\d.isRow=true:=⟨_,underlying29,rfl⟩
theorem row58: ∃d,prog.underlying 179=some d/\d.isRow=true:=⟨_,underlying179,rfl⟩
theorem Ku:(prog.info? 42).map (·.size)=some 2:=by kernel_rfl
theorem Qp:(prog.info? 29).map (·.size)=some 18:=by kernel_rfl
theorem siz58:(prog.info? 179).map (·.size)=some 20:=by kernel_rfl
theorem Mg {o:Oper} {a:Act} {w:World} {m x:Operand} {b n sz:Nat} {F:KK->Option Nat} {k:KK} {r:Option Nat} (ho:o.op= .lookup 132 m x true) (hm:a.eval m= .map (some b)) (hx:a.eval x=k.agg) (h:MapIs w b n sz F) (hk:OkK k) (hr:F k=r):(execOp a.eval o).run prog w= .ok (.value (.tuple #[pv r, .bool r.isSome])) w:=by
 subst hr
 simp[execOp,ho,hm,hx,h.look hk,Result.andThen]
theorem ret_ct {fn:Func} {R:Ending->World->Prop} {a:Act} {w:World} {b r q:Nat} {d:DD} {v:Value} {cs:List Value} (hr:fn.results= #[.cell r 29, .tmp q]) (hdf:a.defers= [])
  (hx:a.tmps.getD r undef= .pointer (some ⟨b,0,none⟩)) (hq:a.tmps.getD q undef=v) (hc:Holds w b cs) (hcs:(cs.drop 0).take 18=d.cs) (h:R (.returned (.tuple #[d.agg,v])) w):bodyPost prog fn R .ret a w:=by
 obtain⟨t,hu,hd⟩:=Za
 have h0:=hc.mid 0 18
 rw[hcs] at h0
 have hl:=run_loadVar_mid (P:=prog) w b 0 29 _ t h0 hu hd Qp
 refine⟨hdf,_, ?_,h⟩
 simp only[Array.getD_eq_getD_getElem?] at hx hq
 unfold results
 simp[hr,hx,hq,hl,asAddr]
 try rfl
theorem Uh (T:TT) (k:KK) (w:World) (hT:T.Is w) (hk:OkK k):Calls prog 89 #[.pointer (some ⟨T.t,0,none⟩),k.agg] w fun e w'=>e= .returned (.tuple #[(getD T k).agg, .bool (T.find k).isSome])/\Below w.heap.size w w':=by
 cases hf:T.find k with
 |none=>
  have HT:=Ac (hT.on (Li w k.cs.toArray Bx.cs.toArray 42 29))
  have LL:=Ac (Hq.two w [] k.cs Bx.cs 42 29 (Nat.succ_pos _) (Nat.succ_pos _))
  have hB2:Hid (w.heap.size<=w.heap.size+1):=Ac (Nat.le_succ _)
  clear hT
  rw[show k.agg= .agg k.cs.toArray from rfl]
  go_enter func89,ntmps89
  go_wp2
  refine wp_region_held_drew (P:=prog) (S:=fun X=>T.Is X/\Hq w X [] [(w.heap.size,k.cs),(w.heap.size+1,Bx.cs)]) (by kernel_rfl) ⟨(Aa HT).drew,(Aa LL).drew⟩ (fun hS0=> ?_)
  refine y0 0 (some 9) (.pointer (some ⟨T.t,0,none⟩)) rfl hS0 ?_
  refine y0 1 (some 10) (.pointer (some ⟨T.t,0,none⟩)) rfl hS0 ?_
  refine y0 2 (some 11) (.pointer (some ⟨T.t,0,none⟩)) rfl hS0 ?_
  refine y1 3 (some 12) (.map (some T.m)) rfl (fun X hX=>Aj 132 isAgg132 rfl rfl (hX.1.tab) rfl) hS0 ?_
  refine y1 4 (some 13) (k.agg) rfl (fun X hX=>Ax (vs:=k.cs) 42 2 Jj Ku rfl rfl (hX.2.get 0 rfl) rfl rfl) hS0 ?_
  refine y1 5 (some 14) (.tuple #[pv (none), .bool false]) rfl (fun X hX=>Mg (r:=none) rfl rfl rfl hX.1.map hk (by rw[hf];rfl)) hS0 ?_
  refine y0 6 (some 8) (.tuple #[pv (none), .bool false]) rfl hS0 ?_
  refine y0 7 (some 15) (pv (none)) rfl hS0 ?_
  refine y0 9 (some 6) (pv (none)) rfl hS0 ?_
  refine y0 8 (some 16) (.bool false) rfl hS0 ?_
  refine y0 10 (some 7) (.bool false) rfl hS0 ?_
  refine wpAnyH_done (by kernel_rfl) ?_ _
  try simp only[nn]
  replace HT:=Ac hS0.1
  replace LL:=Ac hS0.2
  clear hS0
  unfold pv
  go_wp2_with (first|go_skip|((refine st (vs:=Bx.cs) 1 29 (by rfl) rfl rfl rfl rfl (by simp[Bx,Bz,DD.cs,VV.cs,Value.oneCell']) Qp (Aa LL) rfl (by simp[Ot]) (Or.inr (Aa hB2)) ?_);intro w3 L3 hf3 hs3;replace LL:=Ac L3;clear L3 hf3 hs3;simp only[nn]))
  refine ret_ct (d:=Bx) (r:=4) (q:=5) (b:=w.heap.size+1) rfl rfl rfl rfl ((Aa LL).get 1 rfl) rfl ⟨?_,(Aa LL).fr.below⟩
  unfold getD
  rw[hf]
  rfl
 |some r=>
  have HT:=Ac (hT.on (Li w k.cs.toArray Bx.cs.toArray 42 29))
  have LL:=Ac (Hq.two w [] k.cs Bx.cs 42 29 (Nat.succ_pos _) (Nat.succ_pos _))
  have hB2:Hid (w.heap.size<=w.heap.size+1):=Ac (Nat.le_succ _)
  clear hT
  rw[show k.agg= .agg k.cs.toArray from rfl]
  go_enter func89,ntmps89
  go_wp2
  refine wp_region_held_drew (P:=prog) (S:=fun X=>T.Is X/\Hq w X [] [(w.heap.size,k.cs),(w.heap.size+1,Bx.cs)]) (by kernel_rfl) ⟨(Aa HT).drew,(Aa LL).drew⟩ (fun hS0=> ?_)
  refine y0 0 (some 9) (.pointer (some ⟨T.t,0,none⟩)) rfl hS0 ?_
  refine y0 1 (some 10) (.pointer (some ⟨T.t,0,none⟩)) rfl hS0 ?_
  refine y0 2 (some 11) (.pointer (some ⟨T.t,0,none⟩)) rfl hS0 ?_
  refine y1 3 (some 12) (.map (some T.m)) rfl (fun X hX=>Aj 132 isAgg132 rfl rfl (hX.1.tab) rfl) hS0 ?_
  refine y1 4 (some 13) (k.agg) rfl (fun X hX=>Ax (vs:=k.cs) 42 2 Jj Ku rfl rfl (hX.2.get 0 rfl) rfl rfl) hS0 ?_
  refine y1 5 (some 14) (.tuple #[pv (some r.b), .bool true]) rfl (fun X hX=>Mg (r:=some r.b) rfl rfl rfl hX.1.map hk (by rw[hf];rfl)) hS0 ?_
  refine y0 6 (some 8) (.tuple #[pv (some r.b), .bool true]) rfl hS0 ?_
  refine y0 7 (some 15) (pv (some r.b)) rfl hS0 ?_
  refine y0 9 (some 6) (pv (some r.b)) rfl hS0 ?_
  refine y0 8 (some 16) (.bool true) rfl hS0 ?_
  refine y0 10 (some 7) (.bool true) rfl hS0 ?_
  refine wpAnyH_done (by kernel_rfl) ?_ _
  try simp only[nn]
  replace HT:=Ac hS0.1
  replace LL:=Ac hS0.2
  clear hS0
  have HR:=Ac ((Aa HT).rows r (T.find_mem hf).1)
  unfold pv
  go_wp2_with (first|go_skip|(refine rd rfl (Ax (vs:=r.d.cs) 29 18 Za Qp rfl rfl (Aa HR) rfl rfl) ?_)|((refine st (vs:=r.d.cs) 1 29 (by rfl) rfl rfl rfl rfl (by simp[DD.cs,VV.cs,Value.oneCell']) Qp (Aa LL) rfl (by simp[Ot]) (Or.inr (Aa hB2)) ?_);intro w3 L3 hf3 hs3;replace LL:=Ac L3;clear L3 hf3 hs3;simp only[nn]))
  refine ret_ct (d:=r.d) (r:=4) (q:=5) (b:=w.heap.size+1) rfl rfl rfl rfl ((Aa LL).get 1 rfl) rfl ⟨?_,(Aa LL).fr.below⟩
  unfold getD
  rw[hf]
  rfl
section
variable {md : Region.Mode} {ops : Array Oper} {rest : List Oper} {Q : Exit → Act → World → Prop} {S : World → Prop} {w w0 : World} {fuel : Nat} {listed : Array Bool} {a : Act} {o : Oper}
theorem Kj {w:World} {base e size n:Nat} {v:Value} {xs:List Value} (h:w.ownsRow base e size v n xs): ∃A c,v= .slice A n c:=by
 rcases h.2 with ⟨rfl,rfl⟩|⟨g,cap,cur,rfl, -⟩
 ·exact⟨_,_,rfl⟩
 ·exact⟨_,_,rfl⟩
theorem Ov {t e:TypeId} {size bytes n m c B base:Nat} {z v:Value} {xs news:List Value} {s x:Operand} (hgd:o.guard=none) (ho:o.op= .call {callee:= .builtin .append,args:= #[s,x],argTypes:= #[t,t]}) (hs:a.eval s=v) (hx:a.eval x= .slice (some ⟨B,0,none⟩) m c)
  (ht:prog.underlying t=some (.slice e)) (hi:(prog.info? e).map (fun i=>(i.zero,i.size,i.bytes))=some (some z,size,bytes)) (hz:z.cells.size=size) (hsz:0<size) (hown:w.ownsRow base e size v n xs) (hB:Holds w B news) (hl:news.length=m * size) (h1: ∀u∈news,u.oneCell'=true)
  (hn:n+m<=4000000) (hby:bytes<=10000) (hbase:base<=w.heap.size)
  (h: ∀A c w',w'.ownsRow base e size (.slice A (n+m) c) (n+m) (xs++news)->w.grownBy w' v.ownBlock->Vz w v (.slice A (n+m) c)->wpList prog ops Q rest (a.put o.dst (.slice A (n+m) c)) w'):wpList prog ops Q (o::rest) a w:=by
 obtain⟨i0,hi,hz0,hz1,hz2⟩:=info_parts hi
 refine wpList_plain hgd fun K hK=> ?_
 obtain⟨v',w',hrun,h2,h3,h4⟩:=Pz w base t o.type e i0 _ size bytes ht hi hz0 hz1 hz2 hz hsz v n xs hown ⟨B,0,none⟩ m c news hl (fun j u hj=>by
  rw[Addr.add_mid]
  exact hB.2 j u hj) h1 (by unfold maxLen;omega) (Nat.le_trans (Nat.mul_le_mul hn hby) (by decide)) hbase
 obtain⟨A',c',rfl⟩:=Kj h2
 have hP:=hK _ _ (h A' c' w' h2 h3 h4)
 unfold Oper.wp
 simp[execOp,ho,resolve,invoke,builtin,hs,hx,hrun,Result.andThen]
 exact hP
theorem Zam (off:Nat): ∀(vs:List Value) (j:Nat) (z:Array Value),off+j+vs.length<=z.size->
  ((vs.zipIdx j).foldl (fun cs (c,j)=>cs.setIfInBounds (off+j) c) z).toList=z.toList.take (off+j)++vs++z.toList.drop (off+j+vs.length)
 | [],j,z,h=>by simp
 |v::vs,j,z,h=>by
  simp only[List.length_cons] at h
  rw[List.zipIdx_cons,List.foldl_cons,Zam off vs (j+1) (z.setIfInBounds (off+j) v) (by simp;omega)]
  have hj:off+j<z.toList.length:=by simp;omega
  have e1:(z.setIfInBounds (off+j) v).toList=z.toList.set (off+j) v:=by simp
  rw[e1,show off+(j+1)=off+j+1 by omega]
  rw[List.take_set,List.drop_set_of_lt (by omega),List.take_succ_eq_append_getElem hj]
  simp only[List.length_cons]
  rw[show off+j+1+vs.length=off+j+(vs.length+1) by omega]
  rw[List.set_append_right _ _ (by simp;omega)]
  have e2:off+j - (z.toList.take (off+j)).length=0:=by simp;omega
  rw[e2]
  simp
theorem Zaq (size:Nat) (z:Array Value) (v:Value) (hz:z.size=size) (hv:v.cells.size=size):Instr.fill (fun i=>some (i * size,size)) z [(0,v)]=some v.cells:=by
 have e:=Zam 0 v.cells.toList 0 z (by simp;omega)
 unfold Instr.fill
 simp only[Nat.zero_mul]
 rw[if_neg (by simp;omega)]
 unfold Instr.fill
 congr 1
 apply Array.toList_inj.1
 have e3:v.cells.zipIdx.foldl (fun cs (c,j)=>cs.setIfInBounds (0+j) c) z=(v.cells.toList.zipIdx 0).foldl (fun cs (c,j)=>cs.setIfInBounds (0+j) c) z:=by
  rw[←Array.foldl_toList,Array.toList_zipIdx]
 rw[e3,e]
 simp
 omega
theorem Vx {t e:TypeId} {size bytes:Nat} {z v:Value} {cs:List Value} {x:Operand} {E:List Nat} {L:List (Nat×List Value)} (hw:Region.wanted o (yielded ops a.tmps)=true) (ho:o.op= .buildSlice t 1 #[(0,x)]) (hx:a.eval x=v)
  (ht:prog.underlying t=some (.slice e)) (hi:(prog.info? e).map (fun i=>(i.zero,i.size,i.bytes))=some (some z,size,bytes)) (hs1:size<=100) (hv:v.cells.toList=cs) (hc:cs.length=size) (h0:0<size) (hL:Hq w0 w E L)
  (h: ∀X B,B=w.heap.size->Hq w0 X E (L++ [(B,cs)])->Below w.heap.size w X->wpList prog ops Q rest (a.put o.dst (.slice (some ⟨B,0,none⟩) 1 1)) X):wpList prog ops Q (o::rest) a w:=by
 refine BigFrame.wpList_want hw fun K hK=> ?_
 obtain⟨i0,hi,hz0,hz1,hz2⟩:=info_parts hi
 have ev:v.cells=cs.toArray:=by rw[←hv]
 have es:v.cells.size=size:=by rw[ev];simpa using hc
 refine wp_buildSlice t e 1 _ ho cs.toArray i0 _ ht hi hz0 (by rw[hz1];omega) (by rw[hz1];omega) ?_ (hK _ _ (h _ _ rfl (hL.new cs e (by omega)) ((Below.refl _ _).alloc (Nat.le_refl _) _)))
 rw[hz1,←ev]
 simp only[List.map_toArray,List.map_cons,List.map_nil,hx]
 exact Zaq size _ v (by simp) es
theorem ZaW (i:Nat) (dst:Option Tmp) {V:Value} {X:World} {rs:List Nat} (hi:ops[i]? =some o) (hd:o.dst=dst) (hw:Region.wanted o (yielded ops a.tmps)=true) (he:(execOp a.eval o).run prog w= .ok (.value V) X) (hSX:S X)
  (h:wpAnyH prog md ops Q S fuel (listed.setIfInBounds i true) (a.put dst V) X) (hs:AllReadyH prog md ops Q S fuel listed a w rs):AllReadyH prog md ops Q S fuel listed a w (i::rs):=by
 subst hd
 refine AllReadyH.cons hi (fun K hK=> ?_) hs
 rw[if_pos hw]
 unfold Oper.wp
 rw[he]
 exact hK.out _ _ hSX (fun _=>h)
theorem Nb (i:Nat) (dst:Option Tmp) {X:World} {rs:List Nat} (hi:ops[i]? =some o) (hd:o.dst=dst) (hw:Region.wanted o (yielded ops a.tmps)=true) (he:(execOp a.eval o).run prog w= .ok .skip X) (hSX:S X)
  (h:wpAnyH prog md ops Q S fuel (listed.setIfInBounds i true) (a.put dst undef) X) (hs:AllReadyH prog md ops Q S fuel listed a w rs):AllReadyH prog md ops Q S fuel listed a w (i::rs):=by
 subst hd
 refine AllReadyH.cons hi (fun K hK=> ?_) hs
 rw[if_pos hw]
 unfold Oper.wp
 rw[he]
 exact hK.out _ _ hSX (fun _=>h)
theorem ex_box {v:Value} {x:Operand} (t:TypeId) (cs:List Value) (ho:o.op= .box t x) (hx:a.eval x=v) (hv:v.cells.toList=cs):(execOp a.eval o).run prog w= .ok (.value (.pointer (some ⟨w.heap.size,0,none⟩))) (w.alloc (Obj.cells cs.toArray t)):=by
 have e:v.cells=cs.toArray:=by rw[←hv]
 have e2:(Instr.box t v).run prog w= .ok (.pointer (some ⟨w.heap.size,0,none⟩)) (w.alloc (Obj.cells cs.toArray t)):=by rw[←e];rfl
 unfold execOp
 simp only[ho,hx]
 simp[e2]
theorem ex_upd {m x y:Operand} {b n sz r:Nat} {F:KK->Option Nat} {k:KK} (ho:o.op= .mapUpdate 132 m x y) (hm:a.eval m= .map (some b)) (hx:a.eval x=k.agg) (hy:a.eval y=pv (some r)) (h:MapIs w b n sz F) (hk:OkK k) (hn:n<maxLen):
  ∃X,(execOp a.eval o).run prog w= .ok .skip X/\MapIs X b (n+1) (if (F k).isSome then sz else sz+1) (Ny F k (some r))/\Fr w X [b]:=by
 obtain⟨X,h1,h2,h3⟩:=h.store hk hn r
 refine⟨X, ?_,h2,Fr.grown h3.grown⟩
 unfold execOp
 simp only[ho,hm,hx,hy]
 simp[h1]
end
end
section
open Go Go.Proofs Go.Maps Go.RowKit
theorem Zc: ∀(l:List RR) (lo hi:Nat),l.Pairwise (fun a b=>a.n<b.n)->(∀r∈l,lo<=r.n/\r.n<=hi)->lo<=hi+1->lo+l.length<=hi+1
 | [],lo,hi,_,_,h=>by simpa using h
 |r::l,lo,hi,hp,hr,h=>by
  obtain⟨h1,h2⟩:=List.pairwise_cons.1 hp
  have h3:=hr r (by simp)
  have:=Zc l (r.n+1) hi h2 (fun q hq=>⟨h1 q hq,(hr q (by simp[hq])).2⟩) (by omega)
  simp only[List.length_cons]
  omega
theorem TT.Is.len {T:TT} {W:World} (h:T.Is W):T.rows.length<=T.last:=by
 have:=Zc T.rows 1 T.last h.rise h.num (by omega)
 omega
def TT.added (T:TT) (rv:Value) (R:Nat) (k:KK) (d:DD):TT:=⟨T.t,T.m,rv,T.rows++ [⟨R,k,d,T.last+1,false⟩],T.last+1⟩
theorem TT.added_live (T:TT) (rv:Value) (R:Nat) (k:KK) (d:DD):(T.added rv R k d).live=T.live++ [⟨R,k,d,T.last+1,false⟩]:=by
 simp[TT.added,TT.live]
theorem TT.added_find (T:TT) (rv:Value) (R:Nat) (k:KK) (d:DD) (hn:T.find k=none):(fun q=>((T.added rv R k d).find q).map (·.b))=Ny (fun q=>(T.find q).map (·.b)) k (some R):=by
 funext q
 unfold TT.find at *
 rw[TT.added_live,List.find?_append]
 by_cases e:q=k
 ·subst e
  rw[hn,Lk]
  simp
 ·rw[Ki e]
  have e2:([⟨R,k,d,T.last+1,false⟩]:List RR).find? (fun r=>decide (r.k=q))=none:=by
   simp
   exact fun h=>e h.symm
  rw[e2]
  simp
structure TT.Mid (T:TT) (W:World):Prop where
 map:MapIs W T.m T.last T.live.length (fun k=>(T.find k).map (·.b))
 own:OwnP W T.rv (T.rows.map (·.b))
 rows: ∀r∈T.rows,Holds W r.b r.cs
theorem TT.Is.mid {T:TT} {W:World} (h:T.Is W):T.Mid W:=⟨h.map,h.own,h.rows⟩
def TT.Part (T:TT) (b:Nat):Prop:=b=T.m∨T.rv.ownBlock=some b∨b∈T.rows.map (·.b)
theorem TT.Part.mem {T:TT} {b:Nat} (h:T.Part b):b∈T.blocks:=by
 simp only[TT.blocks,List.mem_cons,List.mem_append]
 rcases h with h|h|h
 ·exact .inr (.inl h)
 ·exact .inr (.inr (.inl (by rw[h];simp)))
 ·exact .inr (.inr (.inr h))
theorem TT.Part.ne {T:TT} {b:Nat} (h:T.Part b) (hnd:T.blocks.Nodup):b≠T.t:=by
 intro e
 subst e
 have h1:=(List.nodup_cons.1 hnd).1
 apply h1
 have:=h.mem
 simp only[List.mem_cons,List.mem_append]
 rcases h with h|h|h
 ·exact .inl h
 ·exact .inr (.inl (by rw[h];simp))
 ·exact .inr (.inr h)
theorem TT.Mid.block {T:TT} {W W':World} (h:T.Mid W) (he: ∀b,T.Part b->W'.heap[b]? =W.heap[b]?):T.Mid W':=
 ⟨h.map.block (he _ (.inl rfl)),h.own.block (fun g hg=>he g (.inr (.inl hg))),fun r hr=>(h.rows r hr).block (he _ (.inr (.inr (List.mem_map.2 ⟨r,hr,rfl⟩))))⟩
theorem TT.Mid.lt {T:TT} {W:World} (h:T.Mid W): ∀b,T.Part b->b<W.heap.size:=by
 intro b hb
 rcases hb with rfl|hb|hb
 ·exact h.map.lt
 ·exact h.own.lt b hb
 ·obtain⟨r,hr,rfl⟩:=List.mem_map.1 hb
  exact(h.rows r hr).lt (by simp[Ej])
theorem TT.Mid.fr {T:TT} {W W':World} {E:List Nat} (h:T.Mid W) (hf:Fr W W' E) (hE: ∀b,T.Part b->b ∉ E):T.Mid W':=h.block (fun b hb=>hf.block b (h.lt b hb) (hE b hb))
theorem TT.Mid.on {T:TT} {W W':World} (h:T.Mid W) (hb:Below W.heap.size W W'):T.Mid W':=h.block (fun b hb'=>hb.block b (h.lt b hb'))
theorem TT.Mid.drew {T:TT} {W:World} (h:T.Mid W):T.Mid W.drew:=h.block (fun _ _=>rfl)
theorem TT.Is.added {T:TT} {w X:World} {rv:Value} {R:Nat} {k:KK} {d:DD} (hT:T.Is w) (hn:T.find k=none) (hg:goodK k=true)
  (tab:Holds X T.t [.map (some T.m),rv, .int .u64 ((T.last+1:Nat):Int)]) (map:MapIs X T.m (T.last+1) (T.live.length+1) (Ny (fun q=>(T.find q).map (·.b)) k (some R))) (own:OwnP X rv (T.rows.map (·.b)++ [R]))
  (rows: ∀r∈T.rows,Holds X r.b r.cs) (new:Holds X R (RR.mk R k d (T.last+1) false).cs) (hR:w.heap.size<=R) (hrv: ∀g,rv.ownBlock=some g->(T.rv.ownBlock=some g∨w.heap.size<=g)/\g≠R):(T.added rv R k d).Is X:=by
 have hlt:=hT.lt
 refine⟨tab, ?_, ?_, ?_, ?_, ?_, ?_, ?_, ?_⟩
 ·rw[TT.added_find T rv R k d hn,TT.added_live,List.length_append]
  exact map
 ·simpa [TT.added] using own
 ·intro r hr
  rcases List.mem_append.1 (show r∈T.rows++ [_] from hr) with hr|hr
  ·exact rows r hr
  ·obtain rfl:r=⟨R,k,d,T.last+1,false⟩:=by simpa using hr
   exact new
 ·have hnd:=hT.nd
  unfold TT.blocks TT.added
  simp only[TT.blocks,List.nodup_cons,List.mem_cons,List.mem_append,List.nodup_append,List.map_append,List.map_cons,List.map_nil,not_or] at hnd ⊢
  obtain⟨⟨h1,h2,h3⟩,⟨h4,h5⟩,h6,h7,h8⟩:=hnd
  have l1:T.t<w.heap.size:=hlt _ (by simp[TT.blocks])
  have l2:T.m<w.heap.size:=hlt _ (by simp[TT.blocks])
  have l3: ∀b∈T.rows.map (·.b),b<w.heap.size:=fun b hb=>hlt _ (TT.Part.mem (.inr (.inr hb)))
  have hrv': ∀b∈rv.ownBlock.toList,(T.rv.ownBlock=some b∨w.heap.size<=b)/\b≠R:=fun b hb=>hrv b (by simpa using hb)
  refine⟨⟨h1,fun hb=> ?_,h3, ?_⟩,⟨fun hb=> ?_,h5, ?_⟩, ?_,⟨h7,by simp, ?_⟩, ?_⟩
  ·rcases (hrv' _ hb).1 with h|h
   ·exact h2 (by rw[h];simp)
   ·omega
  ·simp;omega
  ·rcases (hrv' _ hb).1 with h|h
   ·exact h4 (by rw[h];simp)
   ·omega
  ·simp;omega
  ·cases rv.ownBlock<;>simp
  ·intro a ha b hb
   have:=l3 a ha
   obtain rfl:b=R:=by simpa using hb
   omega
  ·intro a ha b hb
   rcases hb with hb|hb
   ·rcases (hrv' _ ha).1 with h|h
    ·exact h8 a (by rw[h];simp) b hb
    ·have:=l3 b hb;omega
   ·obtain rfl:b=R:=by simpa using hb
    exact(hrv' _ ha).2
 ·show (T.rows++ [_]).Pairwise _
  rw[List.pairwise_append]
  refine⟨hT.rise,by simp,fun a ha b hb=> ?_⟩
  obtain rfl:b=⟨R,k,d,T.last+1,false⟩:=by simpa using hb
  have:=(hT.num a ha).2
  show a.n<T.last+1
  omega
 ·intro r hr
  rcases List.mem_append.1 (show r∈T.rows++ [_] from hr) with hr|hr
  ·have:=hT.num r hr
   show 1<=r.n/\r.n<=T.last+1
   omega
  ·obtain rfl:r=⟨R,k,d,T.last+1,false⟩:=by simpa using hr
   show 1<=T.last+1/\T.last+1<=T.last+1
   omega
 ·rw[TT.added_live,List.pairwise_append]
  refine⟨hT.keys,by simp,fun a ha b hb=> ?_⟩
  obtain rfl:b=⟨R,k,d,T.last+1,false⟩:=by simpa using hb
  have:=List.find?_eq_none.1 hn a ha
  simpa using this
 ·rw[TT.added_live]
  intro r hr
  rcases List.mem_append.1 hr with hr|hr
  ·exact hT.good r hr
  ·obtain rfl:r=⟨R,k,d,T.last+1,false⟩:=by simpa using hr
   exact hg
end
section
open Go Go.Proofs Go.Maps Go.RowKit Tryz
theorem rv_new {T:TT} {w X:World} {v:Value} {R:Nat} (hT:T.Is w) (hf:Vz X T.rv v) (hR:w.heap.size<=R) (hR2:R<X.heap.size) (hs:w.heap.size<=X.heap.size): ∀g,v.ownBlock=some g->(T.rv.ownBlock=some g∨w.heap.size<=g)/\g≠R:=by
 intro g hg
 rcases hf with h|h
 ·rw[hg] at h
  have:=hT.lt g (TT.Part.mem (.inr (.inl h.symm)))
  exact⟨.inl h.symm,by omega⟩
 ·rw[hg] at h
  have:=Option.some.inj h
  exact⟨.inr (by omega),by omega⟩
theorem not_rv {T:TT} {w:World} (hT:T.Is w) {b:Nat} (hb:b=T.t∨w.heap.size<=b):b ∉ T.rv.ownBlock.toList:=by
 intro hm
 have hp:T.Part b:= .inr (.inl (by simpa using hm))
 rcases hb with hb|hb
 ·exact hp.ne hT.nd hb
 ·have:=hT.lt b hp.mem;omega
theorem not_m {T:TT} {w:World} (hT:T.Is w) {b:Nat} (hb:b=T.t∨w.heap.size<=b):b ∉ [T.m]:=by
 intro hm
 have hp:T.Part b:= .inl (by simpa using hm)
 rcases hb with hb|hb
 ·exact hp.ne hT.nd hb
 ·have:=hT.lt b hp.mem;omega
theorem four {T:TT} {n R B:Nat} {c1 c2 c3 c4:List Value} {q:Nat×List Value} (hq:q∈ [(T.t,c1),(n,c2),(R,c3),(B,c4)]) (hR:n<=R) (hB:n<=B):q.1=T.t∨n<=q.1:=by
 simp only[List.mem_cons,List.not_mem_nil,or_false] at hq
 rcases hq with rfl|rfl|rfl|rfl
 ·exact .inl rfl
 ·exact .inr (Nat.le_refl _)
 ·exact .inr hR
 ·exact .inr hB
def TT.Mid2 (T:TT) (v:Value) (R:Nat) (W:World):Prop:=MapIs W T.m T.last T.live.length (fun k=>(T.find k).map (·.b))/\OwnP W v (T.rows.map (·.b)++ [R])/\ ∀r∈T.rows,Holds W r.b r.cs
theorem TT.nd_rv {T:TT} (hnd:T.blocks.Nodup):(∀b,T.rv.ownBlock=some b->b≠T.m/\b ∉ T.rows.map (·.b)):=by
 intro b hb
 simp only[TT.blocks,List.nodup_cons,List.mem_cons,List.mem_append,List.nodup_append,not_or] at hnd
 obtain⟨⟨h1,h2,h3⟩,⟨h4,h5⟩,h6,h7,h8⟩:=hnd
 refine⟨fun e=>h4 (by rw[←e,hb];simp),fun hm=>h8 b (by rw[hb];simp) b hm rfl⟩
theorem TT.Mid.app {T:TT} {W W':World} {v:Value} {R:Nat} (h:T.Mid W) (hnd:T.blocks.Nodup) (hf:Fr W W' T.rv.ownBlock.toList) (ho:W'.ownsRow 0 176 1 v ((T.rows.map (·.b)).length+1) (Oh (T.rows.map (·.b))++ [.pointer (some ⟨R,0,none⟩)])):T.Mid2 v R W':=by
 have hn:=TT.nd_rv hnd
 refine⟨h.map.block (hf.block _ (h.lt _ (.inl rfl)) (fun hm=>(hn T.m (by simpa using hm)).1 rfl)), ?_,fun r hr=>(h.rows r hr).block (hf.block _ (h.lt _ (.inr (.inr (List.mem_map.2 ⟨r,hr,rfl⟩)))) (fun hm=>(hn r.b (by simpa using hm)).2 (List.mem_map.2 ⟨r,hr,rfl⟩)))⟩
 unfold OwnP
 rw[List.length_append]
 simpa [Oh] using ho
theorem TT.Mid2.block {T:TT} {v:Value} {R:Nat} {W W':World} (h:T.Mid2 v R W) (he: ∀b,(b=T.m∨v.ownBlock=some b∨b∈T.rows.map (·.b))->W'.heap[b]? =W.heap[b]?):T.Mid2 v R W':=
 ⟨h.1.block (he _ (.inl rfl)),h.2.1.block (fun g hg=>he g (.inr (.inl hg))),fun r hr=>(h.2.2 r hr).block (he _ (.inr (.inr (List.mem_map.2 ⟨r,hr,rfl⟩))))⟩
theorem TT.Mid2.drew {T:TT} {v:Value} {R:Nat} {W:World} (h:T.Mid2 v R W):T.Mid2 v R W.drew:=h.block (fun _ _=>rfl)
theorem TT.Mid2.lt {T:TT} {v:Value} {R:Nat} {W:World} (h:T.Mid2 v R W): ∀b,(b=T.m∨v.ownBlock=some b∨b∈T.rows.map (·.b))->b<W.heap.size:=by
 intro b hb
 rcases hb with rfl|hb|hb
 ·exact h.1.lt
 ·exact h.2.1.lt b hb
 ·obtain⟨r,hr,rfl⟩:=List.mem_map.1 hb
  exact(h.2.2 r hr).lt (by simp[Ej])
theorem TT.Mid2.fr {T:TT} {v:Value} {R:Nat} {w W W':World} (h:T.Mid2 v R W) (hf:Fr W W' [T.t]) (hT:T.Is w) (hv: ∀g,v.ownBlock=some g->(T.rv.ownBlock=some g∨w.heap.size<=g)/\g≠R):T.Mid2 v R W':=by
 refine h.block (fun b hb=>hf.block b (h.lt b hb) ?_)
 intro hm
 obtain rfl:b=T.t:=by simpa using hm
 rcases hb with hb|hb|hb
 ·exact TT.Part.ne (.inl hb) hT.nd rfl
 ·rcases (hv _ hb).1 with h1|h1
  ·exact TT.Part.ne (.inr (.inl h1)) hT.nd rfl
  ·have:=hT.lt T.t (by simp[TT.blocks]);omega
 ·exact TT.Part.ne (.inr (.inr hb)) hT.nd rfl
theorem TT.Mid2.fin {T:TT} {v:Value} {R:Nat} {w W X:World} (h:T.Mid2 v R W) (hf:Fr W X [T.m]) (hT:T.Is w) (hv: ∀g,v.ownBlock=some g->(T.rv.ownBlock=some g∨w.heap.size<=g)/\g≠R):OwnP X v (T.rows.map (·.b)++ [R])/\ ∀r∈T.rows,Holds X r.b r.cs:=by
 have hn:=TT.nd_rv hT.nd
 have hm:T.m ∉ T.rows.map (·.b):=by
  have hnd:=hT.nd
  simp only[TT.blocks,List.nodup_cons,List.mem_cons,List.mem_append,not_or] at hnd
  exact hnd.2.1.2
 refine⟨h.2.1.block (fun g hg=>hf.block g (h.lt g (.inr (.inl hg))) ?_),fun r hr=>(h.2.2 r hr).block (hf.block r.b (h.lt _ (.inr (.inr (List.mem_map.2 ⟨r,hr,rfl⟩)))) ?_)⟩
 ·intro e
  obtain rfl:g=T.m:=by simpa using e
  rcases (hv _ hg).1 with h1|h1
  ·exact(hn _ h1).1 rfl
  ·have:=hT.lt T.m (by simp[TT.blocks]);omega
 ·intro e
  have e2:r.b=T.m:=by simpa using e
  exact hm (e2▸List.mem_map.2 ⟨r,hr,rfl⟩)
theorem MapIs.drew {w:World} {b n sz:Nat} {F:KK->Option Nat} (h:MapIs w b n sz F):MapIs w.drew b n sz F:=h.block rfl
theorem gupd {md:Region.Mode} {ops:Array Oper} {Q:Exit->Act->World->Prop} {S:World->Prop} {w:World} {fuel:Nat} {listed:Array Bool} {a:Act} {o:Oper} (i:Nat) {m x y:Operand} {b n sz r:Nat} {F:KK->Option Nat} {k:KK} {rs:List Nat} (hi:ops[i]? =some o) (hd:o.dst=none) (hw:Region.wanted o (yielded ops a.tmps)=true)
  (ho:o.op= .mapUpdate 132 m x y) (hm:a.eval m= .map (some b)) (hx:a.eval x=k.agg) (hy:a.eval y=pv (some r)) (h:MapIs w b n sz F) (hk:OkK k) (hn:n<maxLen) (hon: ∀X,Fr w X [b]->S X)
  (hh: ∀X,MapIs X b (n+1) (if (F k).isSome then sz else sz+1) (Ny F k (some r))->Fr w X [b]->wpAnyH prog md ops Q S fuel (listed.setIfInBounds i true) (a.put none undef) X) (hs:AllReadyH prog md ops Q S fuel listed a w rs):AllReadyH prog md ops Q S fuel listed a w (i::rs):=by
 obtain⟨X,h1,h2,h3⟩:=ex_upd ho hm hx hy h hk hn
 exact Nb i none hi hd hw h1 (hon X h3) (hh X h2 h3) hs
theorem Ub:(prog.info? 176).map (fun i=>(i.zero,i.size,i.bytes))=some (some (.pointer none),1,8):=by kernel_rfl
theorem siz71:(prog.info? 91).map (·.size)=some 1:=by kernel_rfl
theorem siz70:(prog.info? 133).map (·.size)=some 1:=by kernel_rfl
theorem ex_addu {o:Oper} {a:Act} {w:World} {x:Operand} {n:Nat} (ho:o.op= .binOp .add 91 x (.const (.int .u64 1)) 91) (hx:a.eval x= .int .u64 (n:Nat)) (hc:a.eval (.const (.int .u64 1))= .int .u64 1) (hn:n<4000000):(execOp a.eval o).run prog w= .ok (.value (.int .u64 ((n:Int)+1))) w:=by
 unfold execOp
 simp only[ho,hx,hc]
 have e:IntKind.u64.wrap ((n:Int)+1)=(n:Int)+1:=by
  rw[IntKind.wrap_u64]
  omega
 simp[go_sem,eqGuard,underlying91,e]
theorem add34 (T:TT) (k:KK) (d:DD) (w:World) (hT:T.Is w) (hk:OkK k) (hg:goodK k=true) (hn:T.find k=none) (hl:T.last<4000000):Calls prog 110 #[.pointer (some ⟨T.t,0,none⟩), .agg (k.cs++d.cs).toArray] w fun e w'=>e= .returned (.tuple #[])/\ ∃rv R,(T.added rv R k d).Is w'/\Fr w w' T.blocks/\w.heap.size<=R/\(∀g,rv.ownBlock=some g->T.rv.ownBlock=some g∨w.heap.size<=g):=by
 have hlen:=hT.len
 have hlt:=hT.lt
 have LL:=Ac (((Hq.nil w T.blocks).add hT.tab (Nat.succ_pos _) (fun q hq=>by cases hq)).new (k.cs++d.cs) 179 (Nat.succ_pos _))
 have MM:=Ac (hT.mid.on ((Below.refl _ _).alloc (Nat.le_refl _) (Obj.cells (k.cs++d.cs).toArray 179)))
 have hl2:Hid (T.last<4000000):=Ac hl
 have HH:=Ac hT
 have hnd:=Ac hT.nd
 have hlen2:=Ac hlen
 have hlt2:=Ac hlt
 have hk2:=Ac hk
 have hn2:=Ac hn
 have hg2:=Ac hg
 clear hT hlen hlt hl hk hn hg
 go_enter func110,ntmps110
 go_wp2_with (first|go_skip|(refine rd rfl (Aj 91 isAgg91 rfl rfl ((Aa LL).get 0 rfl) rfl) ?_)|(refine rd rfl (ex_addu rfl rfl rfl (Aa hl2)) ?_)|((refine st (vs:= [.int .u64 ((T.last:Int)+1)]) 0 91 (by rfl) rfl rfl rfl rfl (by simp[Value.oneCell']) siz71 (Aa LL) rfl (by simp[TT.cs,Dq]) (Or.inl (List.mem_cons_self ..)) ?_);intro w3 L3 hf3 hs3;replace LL:=Ac L3;replace MM:=Ac ((Aa MM).fr hf3 (fun b hb=>by simpa using hb.ne (Aa hnd)));clear L3 hf3 hs3;simp only[nn]))
 obtain⟨R,hRe⟩: ∃R,R=w3.drew.heap.size:=⟨_,rfl⟩
 refine wp_region_held_drew (P:=prog) (S:=fun X=>Hq w X T.blocks [(T.t, [.map (some T.m),T.rv, .int .u64 ((T.last:Int)+1)]),(w.heap.size,(k.cs++d.cs))]/\T.Mid X) (by kernel_rfl) ⟨(Aa LL).drew,(Aa MM).drew⟩ (fun hS0=> ?_)
 refine y1 0 (some 12) (.agg (k.cs++d.cs).toArray) rfl (fun X hX=>Ax (vs:=(k.cs++d.cs)) 179 20 row58 siz58 rfl rfl (hX.1.get 1 rfl) rfl rfl) hS0 ?_
 refine y0 1 (some 13) (.pointer (some ⟨T.t,0,none⟩)) rfl hS0 ?_
 refine y0 2 (some 14) (.pointer (some ⟨T.t,0,none⟩)) rfl hS0 ?_
 refine y0 3 (some 15) (.pointer (some ⟨T.t,2,none⟩)) rfl hS0 ?_
 refine y1 4 (some 16) (.int .u64 ((T.last:Int)+1)) rfl (fun X hX=>Aj 91 isAgg91 rfl rfl (hX.1.get 0 rfl) rfl) hS0 ?_
 refine y0 5 (some 17) (.agg (RR.mk R k d (T.last+1) false).cs.toArray) rfl hS0 ?_
 have bl:=(Below.refl w3.drew.heap.size w3.drew).alloc (Nat.le_refl _) (Obj.cells (RR.mk R k d (T.last+1) false).cs.toArray 181)
 have L2:=hS0.1.new (RR.mk R k d (T.last+1) false).cs 181 (Nat.succ_pos _)
 refine wpAnyH_ready (rs:= [6]) (by kernel_rfl) (by simp) (ZaW 6 (some 18) rfl (by kernel_rfl) (by kernel_rfl) (ex_box 181 (RR.mk R k d (T.last+1) false).cs rfl rfl rfl) (And.intro (hS0.1.on bl) (hS0.2.on bl)) ?_ AllReadyH.nil)
 have hR:=Ac (Nat.le_trans hS0.1.fr.size (Nat.le_of_eq hRe.symm))
 replace hS0:=And.intro (hS0.1.on bl) (hS0.2.on bl)
 simp only[nn]
 rw[←hRe] at L2 ⊢
 clear bl
 generalize w3.drew.alloc (Obj.cells (RR.mk R k d (T.last+1) false).cs.toArray 181)=w4 at *
 clear hRe
 refine y0 7 (some 4) (.pointer (some ⟨R,0,none⟩)) rfl hS0 ?_
 refine wpAnyH_done (by kernel_rfl) ?_ _
 try simp only[nn]
 replace MM:=Ac hS0.2
 replace LL:=Ac L2
 clear hS0 L2
 go_wp2_with (first|go_skip|(refine rd rfl (Aj 133 isAgg133 rfl rfl ((Aa LL).get 0 rfl) rfl) ?_)|((refine Vx (t:=133) (e:=176) (size:=1) (bytes:=8) (z:= .pointer none) (cs:= [.pointer (some ⟨R,0,none⟩)]) (by rfl) rfl rfl underlying133 Ub (by decide) rfl rfl (by decide) (Aa LL) ?_);intro w5 B5 hB5 L5 hb5;have hB5:=Ac (Nat.le_trans (Aa LL).fr.size (Nat.le_of_eq hB5.symm));replace LL:=Ac L5;replace MM:=Ac ((Aa MM).on hb5);clear L5 hb5;simp only[nn])|((refine Ov (v:=T.rv) rfl rfl rfl rfl underlying133 Ub rfl (by decide) (Aa MM).own ((Aa LL).get 3 rfl) rfl (by simp[Value.oneCell']) (by have h1:=Aa hlen2;have h2:=Aa hl2;simp;omega) (by decide) (Nat.zero_le _) ?_);intro A6 c6 w6 ho6 hg6 hf6;have V6:=Ac (rv_new (Aa HH) hf6 (Aa hR) ((Aa LL).lt (R,RR.cs ⟨R,k,d,T.last+1,false⟩) (by simp)) (Aa LL).fr.size);have M6:=Ac ((Aa MM).app (Aa hnd) (Fr.grown hg6) ho6);replace LL:=Ac ((Aa LL).step (Fr.grown hg6) (fun b hb=>Or.inl (TT.Part.mem (.inr (.inl (by simpa using hb))))) (fun q hq=>not_rv (Aa HH) (four hq (Aa hR) (Aa hB5))));clear MM ho6 hg6 hf6;simp only[nn])|((refine st (vs:= [.slice A6 _ c6]) 0 133 (by rfl) rfl rfl rfl rfl (by simp[Value.oneCell']) siz70 (Aa LL) rfl (by simp[TT.cs,Dq]) (Or.inl (List.mem_cons_self ..)) ?_);intro w7 L7 hf7 hs7;replace LL:=Ac L7;replace M6:=Ac ((Aa M6).fr hf7 (Aa HH) (Aa V6));clear L7 hf7 hs7;simp only[nn]))
 rw[List.length_map] at LL M6 V6 ⊢
 refine wp_region_held_drew (P:=prog) (S:=fun X=>Hq w X T.blocks [(T.t, [.map (some T.m), .slice A6 (T.rows.length+1) c6, .int .u64 ((T.last:Int)+1)]),(w.heap.size,(k.cs++d.cs)),(R,(RR.mk R k d (T.last+1) false).cs),(B5, [.pointer (some ⟨R,0,none⟩)])]) (by kernel_rfl) (Aa LL).drew (fun hS0=> ?_)
 refine y0 0 (some 29) (.pointer (some ⟨T.t,0,none⟩)) rfl hS0 ?_
 refine y0 1 (some 30) (.pointer (some ⟨T.t,0,none⟩)) rfl hS0 ?_
 refine y0 2 (some 31) (.pointer (some ⟨T.t,0,none⟩)) rfl hS0 ?_
 refine y1 3 (some 32) (.map (some T.m)) rfl (fun X hX=>Aj 132 isAgg132 rfl rfl (hX.get 0 rfl) rfl) hS0 ?_
 refine y0 4 (some 33) (.pointer (some ⟨w.heap.size,0,none⟩)) rfl hS0 ?_
 refine y1 5 (some 34) (k.agg) rfl (fun X hX=>Ax (vs:=k.cs) 42 2 Jj Ku rfl rfl (hX.get 1 rfl) rfl rfl) hS0 ?_
 refine y0 6 (some 35) (.pointer (some ⟨R,0,none⟩)) rfl hS0 ?_
 refine wpAnyH_ready (rs:= [7]) (by kernel_rfl) (by simp) (gupd (r:=R) 7 rfl (by kernel_rfl) (by kernel_rfl) rfl rfl rfl rfl (Aa M6).1.drew (Aa hk2) (by have h2:=Aa hl2;unfold maxLen;omega) (fun X hX=>hS0.step hX (fun b hb=>Or.inl (by obtain rfl:b=T.m:=(by simpa using hb);exact TT.Part.mem (.inl rfl))) (fun q hq=>not_m (Aa HH) (four hq (Aa hR) (Aa hB5)))) ?_ AllReadyH.nil)
 intro X hM hX
 replace hS0:=hS0.step hX (fun b hb=>Or.inl (by obtain rfl:b=T.m:=(by simpa using hb);exact TT.Part.mem (.inl rfl))) (fun q hq=>not_m (Aa HH) (four hq (Aa hR) (Aa hB5)))
 have hM2:Hid (MapIs X T.m (T.last+1) (T.live.length+1) (Ny (fun q=>(T.find q).map (·.b)) k (some R))):=by
  have e:=Aa hn2
  have:=hM
  simp only[e,Option.map_none,Option.isSome_none] at this
  exact Ac this
 have hF:=Ac ((Aa M6).drew.fin hX (Aa HH) (Aa V6))
 clear hM hX M6
 simp only[nn]
 refine wpAnyH_done (by kernel_rfl) ?_ _
 try simp only[nn]
 have LS:=Ac hS0
 clear hS0 LL
 go_wp2
 go_end0
 refine⟨rfl, .slice A6 (T.rows.length+1) c6,R, ?_,(Aa LS).fr,Aa hR,fun g hg=>((Aa V6) g hg).1⟩
 exact TT.Is.added (Aa HH) (Aa hn2) (Aa hg2) ((Aa LS).get 0 rfl) (Aa hM2) (Aa hF).1 (Aa hF).2 ((Aa LS).get 2 rfl) (Aa hR) (Aa V6)
end
section
open Go Go.Proofs Go.Maps Go.RowKit
def Oe (b:Nat) (d:DD) (r:RR):RR:=if r.b=b then {r with d:=d} else r
theorem Lb (b:Nat) (d:DD) (r:RR):(Oe b d r).b=r.b/\(Oe b d r).k=r.k/\(Oe b d r).n=r.n/\(Oe b d r).gone=r.gone:=by
 unfold Oe
 split<;>simp
def TT.upd (T:TT) (b:Nat) (d:DD):TT:={T with rows:=T.rows.map (Oe b d)}
theorem TT.upd_live (T:TT) (b:Nat) (d:DD):(T.upd b d).live=T.live.map (Oe b d):=by
 unfold TT.live TT.upd
 simp only[List.filter_map]
 congr 1
 apply List.filter_congr
 intro r _
 simp[(Lb b d r).2.2.2]
theorem TT.upd_find (T:TT) (b:Nat) (d:DD) (k:KK):(T.upd b d).find k=(T.find k).map (Oe b d):=by
 unfold TT.find
 rw[TT.upd_live,List.find?_map]
 congr 1
 congr 1
 funext r
 simp[(Lb b d r).2.1]
theorem TT.upd_bs (T:TT) (b:Nat) (d:DD):(T.upd b d).rows.map (·.b)=T.rows.map (·.b):=by
 unfold TT.upd
 simp only[List.map_map]
 apply List.map_congr_left
 intro r _
 exact(Lb b d r).1
theorem TT.upd_blocks (T:TT) (b:Nat) (d:DD):(T.upd b d).blocks=T.blocks:=by
 unfold TT.blocks
 rw[TT.upd_bs]
 rfl
theorem TT.Is.upd {T:TT} {w X:World} {r:RR} {d:DD} (hT:T.Is w) (hr:r∈T.rows) (hf:Fr w X [r.b]) (hn:Holds X r.b (r.k.cs++(d.cs++ [.int .u64 r.n, .bool r.gone]))):(T.upd r.b d).Is X:=by
 have hnd:=hT.nd
 simp only[TT.blocks,List.nodup_cons,List.mem_cons,List.mem_append,List.nodup_append,not_or] at hnd
 obtain⟨⟨h1,h2,h3⟩,⟨h4,h5⟩,h6,h7,h8⟩:=hnd
 have hm:r.b∈T.rows.map (·.b):=List.mem_map.2 ⟨r,hr,rfl⟩
 have hlt:=hT.lt
 have part: ∀b∈T.blocks,b≠r.b->X.heap[b]? =w.heap[b]? :=fun b hb hne=>hf.block b (hlt b hb) (by simpa using hne)
 refine⟨?_, ?_, ?_, ?_, ?_, ?_, ?_, ?_, ?_⟩
 ·exact hT.tab.block (part _ (by simp[TT.blocks]) (fun e=>h3 (e▸hm)))
 ·have e:(fun k=>((T.upd r.b d).find k).map (·.b))=fun k=>(T.find k).map (·.b):=by
   funext k
   rw[TT.upd_find]
   cases T.find k with
   |none=>rfl
   |some q=>simp[(Lb r.b d q).1]
  rw[e,TT.upd_live,List.length_map]
  exact hT.map.block (part _ (by simp[TT.blocks]) (fun e=>h5 (by rw[show T.m=r.b from e];exact hm)))
 ·rw[TT.upd_bs]
  exact hT.own.block (fun g hg=>part _ (TT.Part.mem (.inr (.inl hg))) (fun e=>h8 g (by rw[hg];simp) r.b hm e))
 ·intro q hq
  obtain⟨p,hp,rfl⟩:=List.mem_map.1 (show q∈T.rows.map (Oe r.b d) from hq)
  by_cases e:p.b=r.b
  ·have hpr:p=r:=by
    have:=hT.rise
    rcases List.getElem?_of_mem hp with ⟨i,hi⟩
    rcases List.getElem?_of_mem hr with ⟨j,hj⟩
    have e1:(T.rows.map (·.b))[i]? =some r.b:=by simp[hi,e]
    have e2:(T.rows.map (·.b))[j]? =some r.b:=by simp[hj]
    have hij:=(List.getElem?_inj (by simpa using (List.getElem?_eq_some_iff.1 hi).1) h7).1 (e1.trans e2.symm)
    subst hij
    rw[hi] at hj
    exact Option.some.inj hj
   subst hpr
   unfold Oe
   rw[if_pos rfl]
   exact hn
  ·unfold Oe
   rw[if_neg e]
   exact(hT.rows p hp).block (part _ (TT.Part.mem (.inr (.inr (List.mem_map.2 ⟨p,hp,rfl⟩)))) e)
 ·rw[TT.upd_blocks]
  exact hT.nd
 ·show (T.rows.map (Oe r.b d)).Pairwise _
  rw[List.pairwise_map]
  exact hT.rise.imp (fun {a b} h=>by rw[(Lb r.b d a).2.2.1,(Lb r.b d b).2.2.1];exact h)
 ·intro q hq
  obtain⟨p,hp,rfl⟩:=List.mem_map.1 (show q∈T.rows.map (Oe r.b d) from hq)
  rw[(Lb r.b d p).2.2.1]
  exact hT.num p hp
 ·rw[TT.upd_live,List.pairwise_map]
  exact hT.keys.imp (fun {a b} h=>by rw[(Lb r.b d a).2.1,(Lb r.b d b).2.1];exact h)
 ·rw[TT.upd_live]
  intro q hq
  obtain⟨p,hp,rfl⟩:=List.mem_map.1 hq
  rw[(Lb r.b d p).2.1]
  exact hT.good p hp
end
section
open Go Go.Proofs Go.Maps Go.RowKit Tryz
theorem Hq.three (w:World) (E:List Nat) {b0:Nat} {c0:List Value} (h0:Holds w b0 c0) (hc0:0<c0.length) (a b:List Value) (s t:TypeId) (ha:0<a.length) (hb:0<b.length):Hq w ((w.alloc (Obj.cells a.toArray s)).alloc (Obj.cells b.toArray t)) E [(b0,c0),(w.heap.size,a),(w.heap.size+1,b)]:=by
 have h:=(((Hq.nil w E).add h0 hc0 (fun q hq=>by cases hq)).new a s ha).new b t hb
 rw[show (w.alloc (Obj.cells a.toArray s)).heap.size=w.heap.size+1 by simp] at h
 exact h
theorem Ul {o:Oper} {a:Act} {w:World} {x y:Operand} {k:KK} {d:DD} (ho:o.op= .build 179 #[(0,x),(1,y)]) (hx:a.eval x= .agg k.cs.toArray) (hy:a.eval y= .agg d.cs.toArray):(execOp a.eval o).run prog w= .ok (.value (.agg (k.cs++d.cs).toArray)) w:=by
 have e:(Instr.build 179 #[(0, .agg k.cs.toArray),(1, .agg d.cs.toArray)]).run prog w= .ok (.agg (k.cs++d.cs).toArray) w:=by kernel_rfl
 unfold execOp
 simp only[ho,List.map_toArray,List.map_cons,List.map_nil,hx,hy]
 simp[e]
theorem Xi {w X:World} {E:List Nat} (h:Lib.Utf8Tabs 4 5 w) (hf:Fr w X E) (hE: ∀b∈E,6<=b):Lib.Utf8Tabs 4 5 X:=by
 have hs:=Vg h
 have e2:X.heap[4]? =w.heap[4]? :=hf.block 4 (by omega) (fun hm=>by have:=hE _ hm;omega)
 have e3:X.heap[5]? =w.heap[5]? :=hf.block 5 (by omega) (fun hm=>by have:=hE _ hm;omega)
 exact⟨fun c hc=>(World.cell?_of_block (a:=⟨4,c,none⟩) e2).trans (h.1 c hc),fun i hi=>⟨(World.cell?_of_block (a:=⟨5,2 * i,none⟩) e3).trans (h.2 i hi).1,(World.cell?_of_block (a:=⟨5,2 * i+1,none⟩) e3).trans (h.2 i hi).2⟩⟩
theorem Ym {T:TT} {w X:World} {rv:Value} {R:Nat} {k:KK} {d:DD} (hg: ∀g,rv.ownBlock=some g->T.rv.ownBlock=some g∨X.heap.size<=g) (hR:w.heap.size<=R) (hs:w.heap.size<=X.heap.size): ∀b∈(T.added rv R k d).blocks,b∈T.blocks∨w.heap.size<=b:=by
 intro b hb
 simp only[TT.blocks,TT.added,List.mem_cons,List.mem_append,List.map_append,List.map_cons,List.map_nil,List.not_mem_nil,or_false] at hb ⊢
 rcases hb with h|h|h|h|h
 ·exact .inl (.inl h)
 ·exact .inl (.inr (.inl h))
 ·rcases hg b (by simpa using h) with h|h
  ·exact .inl (.inr (.inr (.inl (by rw[h];simp))))
  ·exact .inr (by omega)
 ·exact .inl (.inr (.inr (.inr h)))
 ·exact .inr (by omega)
theorem put_some (T:TT) (k:KK) (d:DD) (w:World) (hT:T.Is w) (hU:Lib.Utf8Tabs 4 5 w) (hk:OkK k) (hl:T.last<4000000) (r:RR) (hf:T.find k=some r):Calls prog 91 #[.pointer (some ⟨T.t,0,none⟩),k.agg,d.agg] w fun e w'=>e= .returned (.int .i64 (0))/\ ∃T':TT,T'.Is w'/\T'.t=T.t/\Fr w w' T.blocks/\(∀b∈T'.blocks,b∈T.blocks∨w.heap.size<=b)/\((∃r,T.find k=some r/\T'=T.upd r.b d)∨(T.find k=none/\goodK k=true/\ ∃rv R,T'=T.added rv R k d)∨(T.find k=none/\goodK k=false/\T'=T)):=by
 have hr:=(T.find_mem hf).1
 have LL:=Ac (Hq.three w T.blocks (hT.rows r hr) (Nat.succ_pos _) k.cs d.cs 42 29 (Nat.succ_pos _) (Nat.succ_pos _))
 have HT:=Ac (hT.on (Li w k.cs.toArray d.cs.toArray 42 29))
 have HH:=Ac hT
 clear hT
 rw[show k.agg= .agg k.cs.toArray from rfl,show d.agg= .agg d.cs.toArray from rfl]
 go_enter func91,ntmps91
 go_wp2
 refine wp_region_held_drew (P:=prog) (S:=fun X=>T.Is X/\Hq w X T.blocks [(r.b,r.cs),(w.heap.size,k.cs),(w.heap.size+1,d.cs)]) (by kernel_rfl) ⟨(Aa HT).drew,(Aa LL).drew⟩ (fun hS0=> ?_)
 refine y0 0 (some 11) (.pointer (some ⟨T.t,0,none⟩)) rfl hS0 ?_
 refine y0 1 (some 12) (.pointer (some ⟨T.t,0,none⟩)) rfl hS0 ?_
 refine y0 2 (some 13) (.pointer (some ⟨T.t,0,none⟩)) rfl hS0 ?_
 refine y1 3 (some 14) (.map (some T.m)) rfl (fun X hX=>Aj 132 isAgg132 rfl rfl (hX.1.tab) rfl) hS0 ?_
 refine y1 4 (some 15) (k.agg) rfl (fun X hX=>Ax (vs:=k.cs) 42 2 Jj Ku rfl rfl (hX.2.get 1 rfl) rfl rfl) hS0 ?_
 refine y1 5 (some 16) (.tuple #[pv (some r.b), .bool true]) rfl (fun X hX=>Mg (r:=some r.b) rfl rfl rfl hX.1.map hk (by rw[hf];rfl)) hS0 ?_
 refine y0 6 (some 10) (.tuple #[pv (some r.b), .bool true]) rfl hS0 ?_
 refine y0 7 (some 17) (pv (some r.b)) rfl hS0 ?_
 refine y0 9 (some 7) (pv (some r.b)) rfl hS0 ?_
 refine y0 8 (some 18) (.bool true) rfl hS0 ?_
 refine y0 10 (some 8) (.bool true) rfl hS0 ?_
 refine wpAnyH_done (by kernel_rfl) ?_ _
 try simp only[nn]
 replace HT:=Ac hS0.1
 replace LL:=Ac hS0.2
 clear hS0
 unfold pv
 have hrb:=Ac (TT.Part.mem (T:=T) (.inr (.inr (List.mem_map.2 ⟨r,hr,rfl⟩))))
 go_wp2_with (first|go_skip|(refine rd rfl (Ax (vs:=d.cs) 29 18 Za Qp rfl rfl ((Aa LL).get 2 rfl) rfl rfl) ?_)|((refine st (vs:=d.cs) 0 29 (by rfl) rfl rfl rfl rfl (by simp[DD.cs,VV.cs,Value.oneCell']) Qp (Aa LL) rfl (by simp[Ot,Ej]) (Or.inl (Aa hrb)) ?_);intro w3 L3 hf3 hs3;replace LL:=Ac L3;have HF:=Ac hf3;clear L3 hf3 hs3;simp only[nn]))
 go_ret
 exact⟨rfl,T.upd r.b d,(Aa HT).upd hr (Aa HF) ((Aa LL).get 0 rfl),rfl,(Aa LL).fr,(fun b hb=>Or.inl (T.upd_blocks r.b d▸hb)),Or.inl ⟨r,hf,rfl⟩⟩
theorem put_good (T:TT) (k:KK) (d:DD) (w:World) (hT:T.Is w) (hU:Lib.Utf8Tabs 4 5 w) (hk:OkK k) (hl:T.last<4000000) (hTT:Hid (∀b∈T.blocks,6<=b)) (hf:T.find k=none) (hg:goodK k=true):Calls prog 91 #[.pointer (some ⟨T.t,0,none⟩),k.agg,d.agg] w fun e w'=>e= .returned (.int .i64 (0))/\ ∃T':TT,T'.Is w'/\T'.t=T.t/\Fr w w' T.blocks/\(∀b∈T'.blocks,b∈T.blocks∨w.heap.size<=b)/\((∃r,T.find k=some r/\T'=T.upd r.b d)∨(T.find k=none/\goodK k=true/\ ∃rv R,T'=T.added rv R k d)∨(T.find k=none/\goodK k=false/\T'=T)):=by
 have HU:=Ac hU
 clear hU
 have LL:=Ac (Hq.two w T.blocks k.cs d.cs 42 29 (Nat.succ_pos _) (Nat.succ_pos _))
 have HT:=Ac (hT.on (Li w k.cs.toArray d.cs.toArray 42 29))
 have HH:=Ac hT
 clear hT
 rw[show k.agg= .agg k.cs.toArray from rfl,show d.agg= .agg d.cs.toArray from rfl]
 go_enter func91,ntmps91
 go_wp2
 refine wp_region_held_drew (P:=prog) (S:=fun X=>T.Is X/\Hq w X T.blocks [(w.heap.size,k.cs),(w.heap.size+1,d.cs)]) (by kernel_rfl) ⟨(Aa HT).drew,(Aa LL).drew⟩ (fun hS0=> ?_)
 refine y0 0 (some 11) (.pointer (some ⟨T.t,0,none⟩)) rfl hS0 ?_
 refine y0 1 (some 12) (.pointer (some ⟨T.t,0,none⟩)) rfl hS0 ?_
 refine y0 2 (some 13) (.pointer (some ⟨T.t,0,none⟩)) rfl hS0 ?_
 refine y1 3 (some 14) (.map (some T.m)) rfl (fun X hX=>Aj 132 isAgg132 rfl rfl (hX.1.tab) rfl) hS0 ?_
 refine y1 4 (some 15) (k.agg) rfl (fun X hX=>Ax (vs:=k.cs) 42 2 Jj Ku rfl rfl (hX.2.get 0 rfl) rfl rfl) hS0 ?_
 refine y1 5 (some 16) (.tuple #[pv (none), .bool false]) rfl (fun X hX=>Mg (r:=none) rfl rfl rfl hX.1.map hk (by rw[hf];rfl)) hS0 ?_
 refine y0 6 (some 10) (.tuple #[pv (none), .bool false]) rfl hS0 ?_
 refine y0 7 (some 17) (pv (none)) rfl hS0 ?_
 refine y0 9 (some 7) (pv (none)) rfl hS0 ?_
 refine y0 8 (some 18) (.bool false) rfl hS0 ?_
 refine y0 10 (some 8) (.bool false) rfl hS0 ?_
 refine wpAnyH_done (by kernel_rfl) ?_ _
 try simp only[nn]
 replace HT:=Ac hS0.1
 replace LL:=Ac hS0.2
 clear hS0
 unfold pv
 go_wp2_with (first|go_skip|(refine rd rfl (Ax (vs:=k.cs) 42 2 Jj Ku rfl rfl ((Aa LL).get 0 rfl) rfl rfl) ?_))
 refine(Yk k.s k.n _ (Xi (Aa HU) (Aa LL).fr (Aa hTT))).mono ?_
 rintro _ w4 ⟨rfl,hb⟩
 rw[show (Ol k.s k.n).good=goodK k from rfl,hg]
 replace HT:=Ac ((Aa HT).on hb)
 replace LL:=Ac ((Aa LL).on hb)
 clear hb
 simp only[if_true]
 go_wp2_with (first|go_skip|(refine rd rfl (Ax (vs:=k.cs) 42 2 Jj Ku rfl rfl ((Aa LL).get 0 rfl) rfl rfl) ?_)|(refine rd rfl (Ax (vs:=d.cs) 29 18 Za Qp rfl rfl ((Aa LL).get 1 rfl) rfl rfl) ?_)|(refine rd rfl (Ul rfl rfl rfl) ?_))
 refine(add34 T k d _ (Aa HT) hk hg hf hl).mono ?_
 rintro _ w5 ⟨rfl,rv,R,hT5,hF5,hR5,hg5⟩
 have HF:=Ac ((Aa LL).fr.trans hF5 (fun b hb=>Or.inl hb))
 have hs:=(Aa LL).fr.size
 have H5:=Ac hT5
 have H6:=Ac hg5
 have H7:=Ac (Nat.le_trans hs hR5)
 have H8:=Ac hs
 clear hT5 hF5 hg5 hR5 hs
 go_wp2
 go_ret
 refine⟨rfl,_,Aa H5,rfl,Aa HF, ?_,Or.inr (Or.inl ⟨hf,hg,rv,R,rfl⟩)⟩
 exact Ym (Aa H6) (Aa H7) (Aa H8)
theorem put_bad (T:TT) (k:KK) (d:DD) (w:World) (hT:T.Is w) (hU:Lib.Utf8Tabs 4 5 w) (hk:OkK k) (hl:T.last<4000000) (hTT:Hid (∀b∈T.blocks,6<=b)) (hf:T.find k=none) (hg:goodK k=false):Calls prog 91 #[.pointer (some ⟨T.t,0,none⟩),k.agg,d.agg] w fun e w'=>e= .returned (.int .i64 (5))/\ ∃T':TT,T'.Is w'/\T'.t=T.t/\Fr w w' T.blocks/\(∀b∈T'.blocks,b∈T.blocks∨w.heap.size<=b)/\((∃r,T.find k=some r/\T'=T.upd r.b d)∨(T.find k=none/\goodK k=true/\ ∃rv R,T'=T.added rv R k d)∨(T.find k=none/\goodK k=false/\T'=T)):=by
 have HU:=Ac hU
 clear hU
 have LL:=Ac (Hq.two w T.blocks k.cs d.cs 42 29 (Nat.succ_pos _) (Nat.succ_pos _))
 have HT:=Ac (hT.on (Li w k.cs.toArray d.cs.toArray 42 29))
 have HH:=Ac hT
 clear hT
 rw[show k.agg= .agg k.cs.toArray from rfl,show d.agg= .agg d.cs.toArray from rfl]
 go_enter func91,ntmps91
 go_wp2
 refine wp_region_held_drew (P:=prog) (S:=fun X=>T.Is X/\Hq w X T.blocks [(w.heap.size,k.cs),(w.heap.size+1,d.cs)]) (by kernel_rfl) ⟨(Aa HT).drew,(Aa LL).drew⟩ (fun hS0=> ?_)
 refine y0 0 (some 11) (.pointer (some ⟨T.t,0,none⟩)) rfl hS0 ?_
 refine y0 1 (some 12) (.pointer (some ⟨T.t,0,none⟩)) rfl hS0 ?_
 refine y0 2 (some 13) (.pointer (some ⟨T.t,0,none⟩)) rfl hS0 ?_
 refine y1 3 (some 14) (.map (some T.m)) rfl (fun X hX=>Aj 132 isAgg132 rfl rfl (hX.1.tab) rfl) hS0 ?_
 refine y1 4 (some 15) (k.agg) rfl (fun X hX=>Ax (vs:=k.cs) 42 2 Jj Ku rfl rfl (hX.2.get 0 rfl) rfl rfl) hS0 ?_
 refine y1 5 (some 16) (.tuple #[pv (none), .bool false]) rfl (fun X hX=>Mg (r:=none) rfl rfl rfl hX.1.map hk (by rw[hf];rfl)) hS0 ?_
 refine y0 6 (some 10) (.tuple #[pv (none), .bool false]) rfl hS0 ?_
 refine y0 7 (some 17) (pv (none)) rfl hS0 ?_
 refine y0 9 (some 7) (pv (none)) rfl hS0 ?_
 refine y0 8 (some 18) (.bool false) rfl hS0 ?_
 refine y0 10 (some 8) (.bool false) rfl hS0 ?_
 refine wpAnyH_done (by kernel_rfl) ?_ _
 try simp only[nn]
 replace HT:=Ac hS0.1
 replace LL:=Ac hS0.2
 clear hS0
 unfold pv
 go_wp2_with (first|go_skip|(refine rd rfl (Ax (vs:=k.cs) 42 2 Jj Ku rfl rfl ((Aa LL).get 0 rfl) rfl rfl) ?_))
 refine(Yk k.s k.n _ (Xi (Aa HU) (Aa LL).fr (Aa hTT))).mono ?_
 rintro _ w4 ⟨rfl,hb⟩
 rw[show (Ol k.s k.n).good=goodK k from rfl,hg]
 replace HT:=Ac ((Aa HT).on hb)
 replace LL:=Ac ((Aa LL).on hb)
 clear hb
 simp only[Bool.false_eq_true,if_false]
 go_wp2_with (first|go_skip|(refine rd rfl (Ax (vs:=k.cs) 42 2 Jj Ku rfl rfl ((Aa LL).get 0 rfl) rfl rfl) ?_)|(refine rd rfl (Ax (vs:=d.cs) 29 18 Za Qp rfl rfl ((Aa LL).get 1 rfl) rfl rfl) ?_)|(refine rd rfl (Ul rfl rfl rfl) ?_))
 go_ret
 exact⟨rfl,T,Aa HT,rfl,(Aa LL).fr,(fun b hb=>Or.inl hb),Or.inr (Or.inr ⟨hf,hg,rfl⟩)⟩
theorem put12 (T:TT) (k:KK) (d:DD) (w:World) (hT:T.Is w) (hU:Lib.Utf8Tabs 4 5 w) (hk:OkK k) (hl:T.last<4000000) (hTT: ∀b∈T.blocks,6<=b):Calls prog 91 #[.pointer (some ⟨T.t,0,none⟩),k.agg,d.agg] w fun e w'=>e= .returned (.int .i64 (if goodK k then 0 else 5))/\ ∃T':TT,T'.Is w'/\T'.t=T.t/\Fr w w' T.blocks/\(∀b∈T'.blocks,b∈T.blocks∨w.heap.size<=b)/\((∃r,T.find k=some r/\T'=T.upd r.b d)∨(T.find k=none/\goodK k=true/\ ∃rv R,T'=T.added rv R k d)∨(T.find k=none/\goodK k=false/\T'=T)):=by
 by_cases hx:T.find k=none
 rotate_left
 ·obtain⟨r,hf⟩:=Option.ne_none_iff_exists'.1 hx
  have hg:goodK k=true:=by
   have h1:=T.find_mem hf
   rw[←h1.2.2]
   exact hT.good r (by simp[TT.live,h1.1,h1.2.1])
  rw[if_pos hg]
  have:=put_some T k d w hT hU hk hl r hf
  exact this
 ·have hf:=hx
  by_cases hg:goodK k=true
  ·rw[if_pos hg]
   have:=put_good T k d w hT hU hk hl (Ac hTT) hf hg
   exact this
  ·rw[if_neg hg]
   have:=put_bad T k d w hT hU hk hl (Ac hTT) hf (by simpa using hg)
   exact this
theorem Vm {w:World} {base e s n g c:Nat} {xs:List Value} (h:w.ownsRow base e s (.slice (some ⟨g,0,none⟩) n c) n xs):Holds w g xs:=by
 refine⟨fun j=> ?_,fun j u hu=> ?_⟩
 ·rcases h.2 with ⟨h1, -⟩|⟨g',cap,cur,h1,h2,h3, -⟩
  ·cases h1
  ·cases h1
   simp[World.frozen?,h3]
 ·have:=h.cells (g:=g) rfl j u hu
  rwa [Addr.add_mid] at this
theorem TT.find_none {T:TT} {k:KK} (h:T.find k=none): ∀r∈T.live,r.k≠k:=by
 intro r hr
 have:=List.find?_eq_none.1 h r hr
 simpa using this
theorem Rr {α β:Type} {f:α->β} {l:List α} (h:l.Pairwise (fun a b=>f a≠f b)) {a b:α} (ha:a∈l) (hb:b∈l) (he:f a=f b):a=b:=by
 induction l with
 |nil=>cases ha
 |cons x l ih=>
  obtain⟨h1,h2⟩:=List.pairwise_cons.1 h
  rcases List.mem_cons.1 ha with e1|ha'
  ·rcases List.mem_cons.1 hb with e2|hb'
   ·rw[e1,e2]
   ·rw[e1] at he
    exact absurd he (h1 b hb')
  ·rcases List.mem_cons.1 hb with e2|hb'
   ·rw[e2] at he
    exact absurd he.symm (h1 a ha')
   ·exact ih h2 ha' hb'
theorem Zn {w:World} {base e s n:Nat} {A:Option Addr} {c:Nat} {xs:List Value} (h:w.ownsRow base e s (.slice A n c) n xs) (hn:0<n): ∃g,A=some ⟨g,0,none⟩/\base<=g/\g<w.heap.size:=by
 rcases h.2 with ⟨h1,h2⟩|⟨g,cap,cur,h1,h2⟩
 ·omega
 ·have hA:A=some ⟨g,0,none⟩:=by injection h1
  subst hA
  have:=World.ownsRow.lt h g rfl
  exact⟨g,rfl,this.1,this.2⟩
theorem Gw {o:Oper} {a:Act} {w:World} {t:TypeId} {b p:Nat} {cs vs:List Value} {v:Value} {x y:Operand} (ho:o.op= .store t x y) (hx:a.eval x= .pointer (some ⟨b,p,none⟩)) (hy:a.eval y=v) (hv:v.cells.toList=vs) (h1: ∀u∈vs,u.oneCell'=true) (hi:(prog.info? t).map (·.size)=some vs.length) (hH:Holds w b cs) (hp:p+vs.length<=cs.length):
  (execOp a.eval o).run prog w= .ok .skip (w.setCells b p vs):=by
 unfold execOp
 simp only[ho,hx,hy,Instr.storeAt,Instr.sureAddr,Sem.run_bind,Sem.run_pure,Result.andThen_ok,Ei w b p t v vs hv (hH.there p vs.length hp) hi h1]
theorem Zcl {o:Oper} {a:Act} {w:World} {t e:TypeId} {size bytes:Nat} {z v:Value} {cs:List Value} {x:Operand} (ho:o.op= .buildSlice t 1 #[(0,x)]) (hx:a.eval x=v)
  (ht:prog.underlying t=some (.slice e)) (hi:(prog.info? e).map (fun i=>(i.zero,i.size,i.bytes))=some (some z,size,bytes)) (hs1:size<=100) (hv:v.cells.toList=cs) (hc:cs.length=size) (h0:0<size):
  (execOp a.eval o).run prog w= .ok (.value (.slice (some ⟨w.heap.size,0,none⟩) 1 1)) (w.alloc (Obj.cells cs.toArray e)):=by
 obtain⟨i0,hi,hz0,hz1,hz2⟩:=info_parts hi
 have ev:v.cells=cs.toArray:=by rw[←hv]
 have es:v.cells.size=size:=by rw[ev];simpa using hc
 have hr:=run_buildSlice w t e 1 #[(0,v)] cs.toArray i0 _ ht hi hz0 (by rw[hz1];omega) (by rw[hz1];omega) (by
  rw[hz1,←ev]
  exact Zaq size _ v (by simp) es)
 unfold execOp
 simp only[ho,List.map_toArray,List.map_cons,List.map_nil,hx]
 simp[hr]
theorem mk_any {ops:Array Oper} {rest:List Oper} {Q:Exit->Act->World->Prop} {w:World} {a:Act} {o:Oper} {t e:TypeId} {size bytes:Nat} {z:Value} {c x:Operand} (n:Nat) (hw:Region.wanted o (yielded ops a.tmps)=true) (ho:o.op= .makeSlice t c x) (hc:a.eval c= .int .i64 0) (hx:a.eval x= .int .i64 (n:Nat))
  (ht:prog.underlying t=some (.slice e)) (hi:(prog.info? e).map (fun i=>(i.zero,i.size,i.bytes))=some (some z,size,bytes)) (hn:n<=100000) (hs:size<=100) (hby:bytes<=10000)
  (h: ∀wm,wm.ownsRow w.heap.size e size (.slice (some ⟨w.heap.size,0,none⟩) 0 n) 0 []->Below w.heap.size w wm->wpList prog ops Q rest (a.put o.dst (.slice (some ⟨w.heap.size,0,none⟩) 0 n)) wm):wpList prog ops Q (o::rest) a w:=by
 obtain⟨i0,hi,hz0,hz1,hz2⟩:=info_parts hi
 obtain⟨wm,hrun,hm1,hm2⟩:=run_makeSlice_owned (P:=prog) w w.heap.size t e i0 _ size ht hi hz0 hz1 .i64 .i64 n (Nat.le_trans (Nat.mul_le_mul hn hs) (by decide)) (by rw[hz2];exact Nat.le_trans (Nat.mul_le_mul hby hn) (by decide)) (by unfold maxLen;omega) (Nat.le_refl _)
 refine BigFrame.wpList_want hw fun K hK=> ?_
 have hP:=hK _ _ (h wm hm1 ⟨hm2.os,hm2.tape,hm2.output,hm2.size,fun k hk=>hm2.block k hk (by simp)⟩)
 unfold Oper.wp execOp
 simp only[ho,hc,hx]
 simp[hrun]
 exact hP
def RR.pr (r:RR):KK×DD:=(r.k,r.d)
theorem stx {ops:Array Oper} {rest:List Oper} {Q:Exit->Act->World->Prop} {w:World} {a:Act} {o:Oper} {t:TypeId} {b p:Nat} {cs vs:List Value} {v:Value} {x y:Operand} (hw:Region.wanted o (yielded ops a.tmps)=true) (ho:o.op= .store t x y) (hx:a.eval x= .pointer (some ⟨b,p,none⟩)) (hy:a.eval y=v) (hv:v.cells.toList=vs) (h1: ∀u∈vs,u.oneCell'=true) (hi:(prog.info? t).map (·.size)=some vs.length) (hH:Holds w b cs) (hp:p+vs.length<=cs.length)
  (h:wpList prog ops Q rest (a.put o.dst undef) (w.setCells b p vs)):wpList prog ops Q (o::rest) a w:=by
 refine BigFrame.wpList_want hw fun K hK=> ?_
 have hP:=hK _ _ h
 unfold Oper.wp
 rw[Gw ho hx hy hv h1 hi hH hp]
 exact hP
theorem Rg {k:KK} (h:goodK k=true):OkK k:=by
 have h1:=Om h
 have h2:=goodK_n h
 refine⟨by unfold maxLen;omega, ?_⟩
 show (decide (IntKind.i64.min<=k.n) && decide (k.n<=IntKind.i64.max))=true
 have e1:IntKind.i64.min= -9223372036854775808:=by decide
 have e2:IntKind.i64.max=9223372036854775807:=by decide
 rw[e1,e2,Bool.and_eq_true]
 exact⟨decide_eq_true (by omega),decide_eq_true (by omega)⟩
def Ue (r:RR):RR:=⟨r.b,Mk,Bx,r.n,true⟩
theorem Zar {o:Oper} {a:Act} {w:World} {x c:Operand} {n:Nat} (ho:o.op= .build 181 #[(1,x),(2,c)]) (hx:a.eval x= .int .u64 (n:Nat)) (hc:a.eval c= .bool true):(execOp a.eval o).run prog w= .ok (.value (.agg (RR.mk 0 Mk Bx n true).cs.toArray)) w:=by
 have e:(Instr.build 181 #[(1, .int .u64 (n:Nat)),(2, .bool true)]).run prog w= .ok (.agg (RR.mk 0 Mk Bx n true).cs.toArray) w:=by kernel_rfl
 unfold execOp
 simp only[ho,List.map_toArray,List.map_cons,List.map_nil,hx,hc]
 simp[e]
theorem siz77 (r:RR):(prog.info? 181).map (·.size)=some r.cs.length:=by rw[Ej];kernel_rfl
theorem one77 (r:RR): ∀u∈r.cs,u.oneCell'=true:=by simp[RR.cs,KK.cs,DD.cs,VV.cs,Value.oneCell']
theorem leave37 (r:RR) (w:World) (h:Holds w r.b r.cs):Calls prog 163 #[.pointer (some ⟨r.b,0,none⟩)] w fun e w'=>e= .returned (.tuple #[])/\Holds w' r.b (Ue r).cs/\Fr w w' [r.b]:=by
 have HH:=Ac h
 clear h
 go_enter func163,ntmps163
 go_wp2_with (first|go_skip|((with_reducible show wpList ..);first|(refine rd rfl (Aj 91 isAgg91 rfl rfl (Aa HH) rfl) ?_)|(refine rd rfl (Zar rfl rfl rfl) ?_)|((with_reducible apply stx (t:=181) (b:=r.b) (p:=0) (cs:=r.cs) (vs:=(RR.mk 0 Mk Bx r.n true).cs) (v:= .agg (RR.mk 0 Mk Bx r.n true).cs.toArray));(case hw=>rfl);(case ho=>rfl);(case hx=>rfl);(case hy=>rfl);(case hv=>exact rfl);(case h1=>exact one77 _);(case hi=>exact siz77 _);(case hH=>exact Aa HH);(case hp=>exact(by simp[Ej]));simp only[nn])))
 go_end0
 refine⟨rfl, ?_,Fr.setCells _ _ _ _⟩
 have:=(Aa HH).put 0 (RR.mk 0 Mk Bx r.n true).cs (by simp[Ej])
 exact this
theorem own_mono {w:World} {base base' e s n:Nat} {v:Value} {xs:List Value} (h:w.ownsRow base e s v n xs) (hb:base'<=base):w.ownsRow base' e s v n xs:=by
 obtain⟨h1,h2⟩:=h
 refine⟨h1, ?_⟩
 rcases h2 with h2|⟨g,cap,cur,rfl,h3,h4⟩
 ·exact .inl h2
 ·exact .inr ⟨g,cap,cur,rfl,Nat.le_trans hb h3,h4⟩
def TT.packed (T:TT) (m:Nat) (rv:Value):TT:=⟨T.t,m,rv,T.live,T.last⟩
theorem TT.packed_live (T:TT) (m:Nat) (rv:Value):(T.packed m rv).live=T.live:=by
 unfold TT.packed TT.live
 simp
theorem TT.packed_find (T:TT) (m:Nat) (rv:Value) (k:KK):(T.packed m rv).find k=T.find k:=by
 unfold TT.find
 rw[TT.packed_live]
theorem TT.live_rows {T:TT} (h:T.rows.length - T.live.length=0):T.live=T.rows:=by
 have h1:=T.live_le
 unfold TT.live at *
 rw[List.filter_eq_self]
 exact List.length_filter_eq_length_iff.1 (by omega)
structure TApart (T:TT):Prop where
 tm:T.t≠T.m
 tv: ∀g,T.rv.ownBlock=some g->g≠T.t/\g≠T.m/\g ∉ T.rows.map (·.b)
 tr:T.t ∉ T.rows.map (·.b)
 mr:T.m ∉ T.rows.map (·.b)
 rr:(T.rows.map (·.b)).Nodup
theorem TT.apart {T:TT} (h:T.blocks.Nodup):TApart T:=by
 unfold TT.blocks at h
 rw[List.nodup_cons,List.nodup_cons,List.nodup_append] at h
 obtain⟨h1,h2,h3,h4,h5⟩:=h
 simp only[List.mem_cons,List.mem_append,not_or] at h1 h2
 refine⟨h1.1,fun g hg=>⟨fun e=>h1.2.1 (by rw[hg,e];simp),fun e=>h2.1 (by rw[hg,e];simp),fun hm=>h5 g (by rw[hg];simp) g hm rfl⟩,h1.2.2,h2.2,h4⟩
theorem TApart.nodup {T:TT} (h:TApart T):T.blocks.Nodup:=by
 unfold TT.blocks
 rw[List.nodup_cons,List.nodup_cons,List.nodup_append]
 refine⟨?_, ?_, ?_,h.rr, ?_⟩
 ·simp only[List.mem_cons,List.mem_append,not_or]
  refine⟨h.tm,fun hm=> ?_,h.tr⟩
  exact(h.tv T.t (by simpa using hm)).1 rfl
 ·simp only[List.mem_append,not_or]
  exact⟨fun hm=>(h.tv T.m (by simpa using hm)).2.1 rfl,h.mr⟩
 ·cases T.rv.ownBlock<;>simp
 ·intro a ha b hb e
  subst e
  exact(h.tv a (by simpa using ha)).2.2 hb
theorem Lo (T:TT): ∀b∈T.live.map (·.b),b∈T.rows.map (·.b):=by
 intro b hb
 obtain⟨r,hr,rfl⟩:=List.mem_map.1 hb
 exact List.mem_map.2 ⟨r,(List.mem_filter.1 hr).1,rfl⟩
theorem TApart.packed {T:TT} (h:TApart T) {m:Nat} {rv:Value} (hm:m=T.m∨m ∉ T.blocks) (hv: ∀g,rv.ownBlock=some g->(T.rv.ownBlock=some g∨g ∉ T.blocks)/\g≠m):TApart (T.packed m rv):=by
 have hmt:T.t≠m:=by
  rcases hm with rfl|hm
  ·exact h.tm
  ·intro e;exact hm (by rw[←e];simp[TT.blocks])
 have hrb: ∀b∈T.rows.map (·.b),b∈T.blocks:=fun b hb=>by
  unfold TT.blocks
  simp only[List.mem_cons,List.mem_append]
  exact .inr (.inr (.inr hb))
 refine⟨hmt,fun g hg=>⟨?_,(hv g hg).2, ?_⟩,fun hx=>h.tr (Lo T _ hx),fun hx=> ?_, ?_⟩
 ·intro e
  rcases (hv g hg).1 with h1|h1
  ·exact(h.tv g h1).1 e
  ·exact h1 (by rw[e];simp[TT.blocks,TT.packed])
 ·intro hx
  rcases (hv g hg).1 with h1|h1
  ·exact(h.tv g h1).2.2 (Lo T _ hx)
  ·exact h1 (hrb _ (Lo T _ hx))
 ·rcases hm with rfl|hm
  ·exact h.mr (Lo T _ hx)
  ·exact hm (hrb _ (Lo T _ hx))
 ·exact List.Sublist.nodup (List.Sublist.map _ List.filter_sublist) h.rr
theorem TT.Is.pack {T:TT} {w X:World} {m:Nat} {rv:Value} (hT:T.Is w) (htab:Holds X T.t [.map (some m),rv, .int .u64 T.last]) (hmap:MapIs X m T.last T.live.length (fun k=>(T.find k).map (·.b))) (hown:OwnP X rv (T.live.map (·.b))) (hrows: ∀r∈T.live,Holds X r.b r.cs)
  (hm:m=T.m∨m ∉ T.blocks) (hv: ∀g,rv.ownBlock=some g->(T.rv.ownBlock=some g∨g ∉ T.blocks)/\g≠m):(T.packed m rv).Is X:=by
 have hf:(fun k=>((T.packed m rv).find k).map (·.b))=(fun k=>(T.find k).map (·.b)):=by
  funext k
  rw[TT.packed_find]
 refine⟨htab, ?_,hown,hrows,((TT.apart hT.nd).packed hm hv).nodup,hT.rise.sublist List.filter_sublist,fun r hr=>hT.num r (List.mem_filter.1 hr).1, ?_, ?_⟩
 ·rw[hf,TT.packed_live]
  exact hmap
 ·rw[TT.packed_live]
  exact hT.keys
 ·rw[TT.packed_live]
  exact hT.good
theorem Vh {T:TT} (h:TApart T):T.rows.Pairwise (fun a b=>a.b≠b.b):=by
 have:=h.rr
 unfold List.Nodup at this
 rwa [List.pairwise_map] at this
theorem Mz {T:TT} {r:RR} (h:r∈T.live):r∈T.rows:=(List.mem_filter.1 h).1
theorem Vy {T:TT} {w:World} (hT:T.Is w) {r q:RR} (hr:r∈T.live) (hq:q∈T.live):q.b=r.b↔q.k=r.k:=by
 constructor
 ·intro e
  rw[Rr (f:=RR.b) (Vh (TT.apart hT.nd)) (Mz hq) (Mz hr) e]
 ·intro e
  rw[Rr (f:=RR.k) hT.keys hq hr e]
end
section
open Go Go.Proofs Go.Maps Go.RowKit
theorem index70 (g off n cap j:Nat) (hj:j<n) (w:World):(Instr.indexAt 133 (.slice (some ⟨g,off,none⟩) n cap) (.int .i64 j)).run Tryz.prog w= .ok (.pointer (some ⟨g,off+j,none⟩)) w:=by
 rw[run_indexAt_slice (h:=by kernel_rfl),if_pos ⟨by omega,by omega⟩]
 have e:(sizeOf (Tryz.prog.elem 133)).run Tryz.prog w= .ok 1 w:=by kernel_rfl
 rw[e]
 have e2:(Addr.add ⟨g,off,none⟩ ((j:Int).toNat * 1))=⟨g,off+j,none⟩:=by
  rw[Addr.add_mid]
  simp
 show Result.ok (Value.pointer (some (Addr.add ⟨g,off,none⟩ ((j:Int).toNat * 1)))) w=_
 rw[e2]
theorem Oo {o:Oper} {a:Act} {w:World} {x ix:Operand} {g off n cap:Nat} (j:Nat) (ho:o.op= .indexAddr 133 x ix) (hx:a.eval x= .slice (some ⟨g,off,none⟩) n cap) (hix:a.eval ix= .int .i64 j) (hj:j<n):(execOp a.eval o).run Tryz.prog w= .ok (.value (.pointer (some ⟨g,off+j,none⟩))) w:=by
 unfold execOp
 simp only[ho,hx,hix]
 have:=index70 g off n cap j hj w
 simp[this]
end
section
open Go Go.Proofs Go.Maps Go.RowKit Tryz
theorem Vn {w w':World} {base e size n:Nat} {v:Value} {xs:List Value} (h:w.ownsRow base e size v n xs) (he: ∀g,v.ownBlock=some g->w'.heap[g]? =w.heap[g]?):w'.ownsRow base e size v n xs:=by
 obtain⟨h1,h2⟩:=h
 refine⟨h1, ?_⟩
 rcases h2 with h2|⟨g,cap,cur,rfl,h3,h4,h5⟩
 ·exact .inl h2
 ·exact .inr ⟨g,cap,cur,rfl,h3,(he g rfl).trans h4,h5⟩
theorem Zl (l:List RR) (j:Nat) (hj:j<l.length):(Oh (l.map (·.b)))[0+j]? =some (.pointer (some ⟨l[j].b,0,none⟩)):=by
 simp[Oh,hj]
theorem ptrs_one (l:List RR) (r:RR):Oh ((l++ [r]).map (·.b))=Oh (l.map (·.b))++ [.pointer (some ⟨r.b,0,none⟩)]:=by
 simp[Oh]
def Ga (l:List RR):List RR:=l.filter (fun r=> !r.gone)
theorem Uw {l:List RR} {j:Nat} (hj:j<l.length):Ga (l.take (j+1))=if l[j].gone then Ga (l.take j) else Ga (l.take j)++ [l[j]]:=by
 unfold Ga
 rw[List.take_succ_eq_append_getElem hj,List.filter_append]
 cases h:l[j].gone<;>simp[h]
def CG (w1 wr:World) (v:Value) (l:List RR):Prop:=wr.ownsRow w1.heap.size 176 1 v l.length (Oh (l.map (·.b)))/\Below w1.heap.size w1 wr
theorem Xm (l:List RR):(Ga l).length<=l.length:=List.length_filter_le _ _
theorem Zaw (T:TT) (w:World) (hT:T.Is w) (hl:T.last<100000):Calls prog 169 #[.pointer (some ⟨T.t,0,none⟩)] w fun e w'=>e= .returned (.tuple #[])/\ ∃rv,(T.packed T.m rv).Is w'/\Fr w w' [T.t]/\(∀g,rv.ownBlock=some g->T.rv.ownBlock=some g∨w.heap.size<=g):=by
 have hlen:=hT.len
 have C38:=Ac (gaps38 T w hT (by omega))
 by_cases h0:T.rows.length - T.live.length=0
 ·rw[h0] at C38
  have HT:=Ac hT
  have he:T.packed T.m T.rv=T:=by
   unfold TT.packed
   rw[TT.live_rows h0]
  clear hT hlen hl h0
  go_enter func169,ntmps169
  go_wp2_with fail
  refine(Aa C38).mono ?_
  rintro _ w1 ⟨rfl,hb⟩
  have HB:=Ac hb
  clear hb
  go_wp2
  refine bodyPost_ret (results_none rfl _ _ _) rfl ?_
  exact⟨rfl,T.rv,by rw[he];exact(Aa HT).on (Aa HB),Fr.of_below (Aa HB) _,fun g hg=> .inl hg⟩
 ·have hpos:0<T.rows.length:=by omega
  obtain⟨A,c,hrv⟩:=Kj hT.own
  have hown: ∀X,T.Is X->X.ownsRow 0 176 1 (.slice A (T.rows.map (·.b)).length c) (T.rows.map (·.b)).length (Oh (T.rows.map (·.b))):=fun X hX=>hrv▸hX.own
  obtain⟨g,rfl, -, -⟩:=Zn (hown w hT) (by simpa using hpos)
  obtain⟨n,hn⟩: ∃n,n=T.rows.length:=⟨_,rfl⟩
  obtain⟨gp,hgp⟩: ∃gp,gp=T.rows.length - T.live.length:=⟨_,rfl⟩
  rw[←hgp] at C38
  have hgz: ¬((gp:Nat):Int)=0:=by omega
  have HV:Hid (∀X,T.Is X->Holds X T.t [.map (some T.m), .slice (some ⟨g,0,none⟩) n c, .int .u64 T.last]):=Ac (fun X hX=>by
   have:=hX.tab
   unfold TT.cs at this
   rw[hrv,List.length_map,←hn] at this
   exact this)
  have HG:Hid (∀X,T.Is X->Holds X g (Oh (T.rows.map (·.b)))):=Ac (fun X hX=>Vm (hown X hX))
  have hlv:T.live.length<=100000:=by have:=T.live_le;omega
  have HRV:=Ac hrv
  have HT:=Ac hT
  have HLT:=Ac hT.lt
  have HAP:=Ac (TT.apart hT.nd)
  have hn1:n<=100000:=by omega
  have Hn:=Ac hn
  obtain⟨lv,hlv'⟩: ∃lv,lv=T.live.length:=⟨_,rfl⟩
  have HML:Hid (∀X,T.Is X->MapIs X T.m T.last lv (fun k=>(T.find k).map (·.b))):=Ac (fun X hX=>hlv'▸hX.map)
  have hlv2:lv<=100000:=by omega
  clear hT hlen hl h0 hpos hrv hown hn hgp hlv hlv'
  go_enter func169,ntmps169
  go_wp2_with fail
  refine(Aa C38).mono ?_
  rintro _ w1 ⟨rfl,hb⟩
  have HB:=Ac hb
  have HT1:=Ac ((Aa HT).on hb)
  clear hb
  obtain⟨w2,hw2⟩: ∃w2,w2=w1:=⟨_,rfl⟩
  replace HT:=HT1
  go_wp2_with (first|go_skip|((with_reducible show wpList ..);first|(refine rd rfl (Aj 132 isAgg132 rfl rfl ((Aa HV) _ (Aa HT)) rfl) ?_)|(refine rd rfl (ZaZ rfl rfl ((Aa HML) _ (Aa HT))) ?_)|(refine rd rfl (Aj 133 isAgg133 rfl rfl ((Aa HV) _ (Aa HT)) rfl) ?_)|((refine mk_any (t:=133) (e:=176) (size:=1) (bytes:=8) (z:= .pointer none) lv (by rfl) rfl rfl rfl underlying133 Ub hlv2 (by decide) (by decide) ?_);intro wm hO hb;replace HT:=Ac ((Aa HT).on hb);have HC:Hid (CG w1 wm (.slice (some ⟨w1.heap.size,0,none⟩) 0 lv) []):=Ac ⟨hO,hb⟩;clear hO hb;simp only[nn])))
  clear hgz C38
  go_loopg [2,4,19] n (fun gm s2 s4 s19 wr=> ∃j:Nat,s19= .int .i64 j/\j<=n/\n - j<=gm/\Hid (CG w1 wr s2 (Ga (T.rows.take j))))
  case atStart=>exact⟨0,rfl,by omega,by omega,HC⟩
  case round=>
   obtain⟨j,rfl,hj,hg,HR⟩:=hrel
   have HTr:=Ac ((Aa HT1).on (Aa HR).2)
   by_cases hjl:j<n
   ·have hjz:(j:Int)<n:=by omega
    have hjr:j<T.rows.length:=by have:=Aa Hn;omega
    obtain⟨r,hr⟩: ∃r,r=T.rows[j]:=⟨_,rfl⟩
    have HP:Hid ((Oh (T.rows.map (·.b)))[0+j]? =some (.pointer (some ⟨r.b,0,none⟩))):=Ac (by rw[hr];exact Zl T.rows j hjr)
    have HRr:=Ac ((Aa HTr).rows r (hr▸List.getElem_mem hjr))
    have HST:=Ac (Uw hjr)
    rw[←hr] at HST
    cases hgn:r.gone with
    |true=>
     have HR2:Hid (Holds wr r.b (r.k.cs++(r.d.cs++ [.int .u64 r.n, .bool true]))):=Ac (hgn▸Aa HRr)
     replace HR:Hid (CG w1 wr u2 (Ga (T.rows.take (j+1)))):=Ac (by rw[Aa HST,hgn];exact Aa HR)
     clear hr hgn HRr HST
     go_wp2_with (first|go_skip|((with_reducible show wpList ..);first|(refine rd rfl (Oo (off:=0) j rfl rfl rfl hjl) ?_)|(refine rd rfl (Aj 176 isAgg176 rfl rfl ((Aa HG) _ (Aa HTr)) (Aa HP)) ?_)|(refine rd rfl (Aj 4 isAgg4 rfl rfl (Aa HR2) rfl) ?_)))
     go_roundg (n - (j+1))
     case measure=>omega
     case rel=>exact⟨j+1,by go_num,by omega,Nat.le_refl _,HR⟩
    |false=>
     have HR2:Hid (Holds wr r.b (r.k.cs++(r.d.cs++ [.int .u64 r.n, .bool false]))):=Ac (hgn▸Aa HRr)
     have HST2:Hid (Ga (T.rows.take (j+1))=Ga (T.rows.take j)++ [r]):=Ac (by rw[Aa HST,hgn];rfl)
     have hsl:Hid ((Ga (T.rows.take j)).length+1<=4000000):=Ac (by have h1:=Xm (T.rows.take j);rw[List.length_take] at h1;omega)
     clear hr hgn HRr HST
     go_wp2_with (first|go_skip|((with_reducible show wpList ..);first|(refine rd rfl (Oo (off:=0) j rfl rfl rfl hjl) ?_)|(refine rd rfl (Aj 176 isAgg176 rfl rfl ((Aa HG) _ (Aa HTr)) (Aa HP)) ?_)|(refine rd rfl (Aj 4 isAgg4 rfl rfl (Aa HR2) rfl) ?_)|((refine Vx (t:=133) (e:=176) (size:=1) (bytes:=8) (z:= .pointer none) (cs:= [.pointer (some ⟨r.b,0,none⟩)]) (by rfl) rfl rfl underlying133 Ub (by decide) rfl rfl (by decide) (Hq.nil wr []) ?_);intro w5 B5 hB5 L5 hb5;have LL:=Ac L5;have HR5:Hid (CG w1 w5 u2 (Ga (T.rows.take j))):=Ac ⟨Vn (Aa HR).1 (fun b hb=>hb5.block b (World.ownsRow.lt (Aa HR).1 b hb).2),(Aa HR).2.trans (hb5.mono (Aa HR).2.size)⟩;clear L5 hb5 hB5;simp only[nn])|((refine Ov (v:=u2) rfl rfl rfl rfl underlying133 Ub rfl (by decide) (Aa HR5).1 ((Aa LL).get 0 rfl) rfl (by simp[Value.oneCell']) (Aa hsl) (by decide) (Aa HR5).2.size ?_);intro A6 c6 w6 ho6 hg6 hf6;have HR6:Hid (CG w1 w6 (.slice A6 ((Ga (T.rows.take j)).length+1) c6) (Ga (T.rows.take (j+1)))):=Ac ⟨by rw[Aa HST2,ptrs_one,List.length_append];exact ho6,(((Fr.of_below (Aa HR5).2 []).trans (Fr.grown hg6) (fun b hb=>Or.inr (World.ownsRow.lt (Aa HR5).1 b (by simpa using hb)).1)).below)⟩;clear ho6 hg6 hf6;simp only[nn])))
     go_roundg (n - (j+1))
     case measure=>omega
     case rel=>exact⟨j+1,by go_num,by omega,Nat.le_refl _,HR6⟩
   ·have hjz: ¬(j:Int)<n:=by omega
    have hst:Ga (T.rows.take j)=T.live:=by
     have:j=T.rows.length:=by have:=Aa Hn;omega
     rw[this,List.take_length]
     rfl
    rw[hst] at HR
    obtain⟨A6,c6,rfl⟩:=Kj (Aa HR).1
    have HBr:=Ac ((Aa HB).trans ((Aa HR).2.mono (Aa HB).size))
    have hts:T.t<w.heap.size:=(Aa HLT) T.t (by simp[TT.blocks])
    have hws:=(Aa HB).size
    clear hst
    go_wp2_with (first|go_skip|((with_reducible show wpList ..);first|((with_reducible apply stx (t:=133) (b:=T.t) (p:=1) (cs:= [.map (some T.m), .slice (some ⟨g,0,none⟩) n c, .int .u64 T.last]) (vs:= [.slice A6 T.live.length c6]) (v:= .slice A6 T.live.length c6));(case hw=>rfl);(case ho=>rfl);(case hx=>rfl);(case hy=>rfl);(case hv=>exact rfl);(case h1=>exact(by simp[Value.oneCell']));(case hi=>exact siz70);(case hH=>exact(Aa HV) _ (Aa HTr));(case hp=>exact(by simp));simp only[nn])))
    go_end0
    refine⟨rfl, .slice A6 T.live.length c6, ?_,(Fr.of_below (Aa HBr) [T.t]).trans (Fr.setCells _ _ _ _) (fun b hb=> .inl hb),fun b hb=> .inr ?_⟩
    ·have hap:=Aa HAP
     have hne: ∀b,b≠T.t->(wr.setCells T.t 1 [.slice A6 T.live.length c6]).heap[b]? =wr.heap[b]? :=fun b hb=>Gb _ _ _ _ _ hb
     refine TT.Is.pack (Aa HT1) ((((Aa HV) _ (Aa HTr)).put 1 [.slice A6 T.live.length c6] (by simp))) ((Aa HTr).map.block (hne _ hap.tm.symm)) ?_ (fun r hr=>((Aa HTr).rows r (List.mem_filter.1 hr).1).block (hne _ (fun e=>hap.tr (e▸List.mem_map.2 ⟨r,(List.mem_filter.1 hr).1,rfl⟩)))) (.inl rfl) (fun b hb=> ?_)
     ·have h1:=Vn (w':=wr.setCells T.t 1 [.slice A6 T.live.length c6]) (Aa HR).1 (fun b hb=>hne b (by have:=(World.ownsRow.lt (Aa HR).1 b hb).1;omega))
      unfold OwnP
      rw[List.length_map]
      exact own_mono h1 (Nat.zero_le _)
     ·have h2:=(World.ownsRow.lt (Aa HR).1 b hb).1
      refine⟨.inr (fun hm=> ?_),fun e=> ?_⟩
      ·have:=(Aa HLT) b hm
       omega
      ·have:=(Aa HLT) T.m (by simp[TT.blocks])
       omega
    ·have h2:=(World.ownsRow.lt (Aa HR).1 b hb).1
     omega
