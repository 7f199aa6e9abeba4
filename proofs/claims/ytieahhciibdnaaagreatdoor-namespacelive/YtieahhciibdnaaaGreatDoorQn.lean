import Derived.Test.YtieahhciibdnaaaGreatDoorQm
import Derived.Test.YtieahhciibdnaaaGreatDoorQk
import Derived.Carry
set_option linter.all false
namespace Go.Proofs.YtieahhciibdnaaaGreatDoor
set_option maxRecDepth 100000
set_option maxHeartbeats 0
section
open Go Go.Proofs Go.Maps Go.RowKit
structure Fr (w X:World) (E:List Nat):Prop where
 os:X.os=w.os
 tape:X.tape=w.tape
 output:X.output=w.output
 size:w.heap.size<=X.heap.size
 block: ∀b,b<w.heap.size->b ∉ E->X.heap[b]? =w.heap[b]?
theorem Fr.refl (w:World) (E:List Nat):Fr w w E:=⟨rfl,rfl,rfl,Nat.le_refl _,fun _ _ _=>rfl⟩
theorem Fr.trans {w X Y:World} {E E':List Nat} (h:Fr w X E) (k:Fr X Y E') (hE: ∀b∈E',b∈E∨w.heap.size<=b):Fr w Y E:=
 ⟨k.os.trans h.os,k.tape.trans h.tape,k.output.trans h.output,Nat.le_trans h.size k.size,fun b hb he=>
  (k.block b (Nat.lt_of_lt_of_le hb h.size) (fun he'=>(hE b he').elim he (fun h2=>by omega))).trans (h.block b hb he)⟩
theorem Fr.of_below {w X:World} (h:Below w.heap.size w X) (E:List Nat):Fr w X E:=⟨h.os,h.tape,h.output,h.size,fun b hb _=>h.block b hb⟩
theorem Fr.below {w X:World} (h:Fr w X []):Below w.heap.size w X:=⟨h.os,h.tape,h.output,h.size,fun b hb=>h.block b hb (by simp)⟩
theorem Fr.on {w X Y:World} {E:List Nat} (h:Fr w X E) (k:Below X.heap.size X Y):Fr w Y E:=h.trans (Fr.of_below k []) (by simp)
theorem Fr.mono {w X:World} {E E':List Nat} (h:Fr w X E) (hE: ∀b∈E,b∈E'∨w.heap.size<=b):Fr w X E':=(Fr.refl w E').trans h hE
theorem Fr.drew {w X:World} {E:List Nat} (h:Fr w X E):Fr w X.drew E:=⟨h.os,h.tape,h.output,h.size,h.block⟩
theorem Ln (b:Nat): ∀(vs:List Value) (o:Nat) (X:World),(X.setCells b o vs).os=X.os/\(X.setCells b o vs).tape=X.tape/\(X.setCells b o vs).output=X.output
 | [],_,_=>⟨rfl,rfl,rfl⟩
 |v::vs,o,X=>by
  obtain⟨h1,h2,h3⟩:=Ln b vs (o+1) (X.setCell ⟨b,o,none⟩ v)
  rw[World.setCells]
  exact⟨h1,h2,h3⟩
theorem Fr.setCells (X:World) (b p:Nat) (vs:List Value):Fr X (X.setCells b p vs) [b]:=
 ⟨(Ln b vs p X).1,(Ln b vs p X).2.1,(Ln b vs p X).2.2,by rw[Eu];exact Nat.le_refl _,fun g _ hg=>Ev b vs p X g (by simpa using hg)⟩
theorem Fr.grown {X Y:World} {row:Option Nat} (h:X.grownBy Y row):Fr X Y row.toList:=
 ⟨h.os,h.tape,h.output,h.size,fun b hb hE=>h.block b hb (fun e=>hE (by rw[←e];simp))⟩
structure Hq (w X:World) (E:List Nat) (L:List (Nat×List Value)):Prop where
 fr:Fr w X E
 all: ∀q∈L,Holds X q.1 q.2/\0<q.2.length
 nd:(L.map (·.1)).Nodup
theorem Hq.nil (w:World) (E:List Nat):Hq w w E []:=⟨Fr.refl _ _,(fun q hq=>by cases hq),by simp⟩
theorem Hq.lt {w X:World} {E:List Nat} {L:List (Nat×List Value)} (h:Hq w X E L): ∀q∈L,q.1<X.heap.size:=fun q hq=>(h.all q hq).1.lt (h.all q hq).2
theorem Hq.get {w X:World} {E:List Nat} {L:List (Nat×List Value)} (h:Hq w X E L) (i:Nat) {b:Nat} {cs:List Value} (hi:L[i]? =some (b,cs)):Holds X b cs:=(h.all _ (List.mem_of_getElem? hi)).1
theorem Hq.drew {w X:World} {E:List Nat} {L:List (Nat×List Value)} (h:Hq w X E L):Hq w X.drew E L:=⟨h.fr.drew,fun q hq=>⟨(h.all q hq).1.block rfl,(h.all q hq).2⟩,h.nd⟩
theorem Hq.on {w X Y:World} {E:List Nat} {L:List (Nat×List Value)} (h:Hq w X E L) (k:Below X.heap.size X Y):Hq w Y E L:=
 ⟨h.fr.on k,fun q hq=>⟨(h.all q hq).1.block (k.block _ (h.lt q hq)),(h.all q hq).2⟩,h.nd⟩
theorem Hq.step {w X Y:World} {E E':List Nat} {L:List (Nat×List Value)} (h:Hq w X E L) (k:Fr X Y E') (hE: ∀b∈E',b∈E∨w.heap.size<=b) (hL: ∀q∈L,q.1 ∉ E'):Hq w Y E L:=
 ⟨h.fr.trans k hE,fun q hq=>⟨(h.all q hq).1.block (k.block _ (h.lt q hq) (hL q hq)),(h.all q hq).2⟩,h.nd⟩
theorem Hq.add {w X:World} {E:List Nat} {L:List (Nat×List Value)} (h:Hq w X E L) {b:Nat} {cs:List Value} (hb:Holds X b cs) (hc:0<cs.length) (hn: ∀q∈L,q.1≠b):Hq w X E (L++ [(b,cs)]):=by
 refine⟨h.fr,fun q hq=> ?_, ?_⟩
 ·rcases List.mem_append.1 hq with hq|hq
  ·exact h.all q hq
  ·obtain rfl:q=(b,cs):=by simpa using hq
   exact⟨hb,hc⟩
 ·rw[List.map_append,List.nodup_append]
  refine⟨h.nd,by simp,fun x hx y hy=> ?_⟩
  obtain⟨q,hq,rfl⟩:=List.mem_map.1 hx
  obtain rfl:y=b:=by simpa using hy
  exact hn q hq
theorem Hq.new {w X:World} {E:List Nat} {L:List (Nat×List Value)} (h:Hq w X E L) (cs:List Value) (t:TypeId) (hc:0<cs.length):Hq w (X.alloc (Obj.cells cs.toArray t)) E (L++ [(X.heap.size,cs)]):=
 (h.on ((Below.refl _ _).alloc (Nat.le_refl _) _)).add (Holds.new X cs t) hc (fun q hq=>Nat.ne_of_lt (h.lt q hq))
theorem Hq.put {w X:World} {E:List Nat} {L:List (Nat×List Value)} (h:Hq w X E L) (i:Nat) {b:Nat} {cs:List Value} (hi:L[i]? =some (b,cs)) (p:Nat) (vs:List Value) (hp:p+vs.length<=cs.length) (hE:b∈E∨w.heap.size<=b):Hq w (X.setCells b p vs) E (L.set i (b,Bz cs p vs)):=by
 have hil:=(List.getElem?_eq_some_iff.1 hi).1
 have hie:=(List.getElem?_eq_some_iff.1 hi).2
 have hH:=h.get i hi
 have hlen:(Bz cs p vs).length=cs.length:=by simp[Bz];omega
 refine⟨h.fr.trans (Fr.setCells X b p vs) (by simpa using hE),fun q hq=> ?_, ?_⟩
 ·rcases List.getElem?_of_mem hq with ⟨j,hj⟩
  rw[List.getElem?_set] at hj
  split at hj
  ·rename_i e
   subst e
   obtain rfl:=Option.some.inj hj
   have h1:=(h.all _ (List.mem_of_getElem? hi)).2
   exact⟨hH.put p vs hp,by simpa [hlen] using h1⟩
  ·rename_i e
   have hm:=List.mem_of_getElem? hj
   refine⟨(h.all q hm).1.block (Ev b vs p X q.1 ?_),(h.all q hm).2⟩
   intro eb
   have hjl:=(List.getElem?_eq_some_iff.1 hj).1
   have h1:(L.map (·.1))[i]? =some b:=by simp[hi]
   have h2:(L.map (·.1))[j]? =some b:=by simp[hj,eb]
   have:=(List.getElem?_inj (by simpa using hil) h.nd).1 (h1.trans h2.symm)
   exact e this
 ·have e:(L.set i (b,Bz cs p vs)).map (·.1)=L.map (·.1):=by
   rw[List.map_set]
   apply List.ext_getElem?
   intro j
   rw[List.getElem?_set]
   split
   ·rename_i e
    subst e
    simp[hil,hie]
   ·rfl
  rw[e]
  exact h.nd
end
section
open Go Go.Proofs Go.Maps Go.RowKit Tryz
instance decK:DecidableEq KK:=fun a b=>decidable_of_iff (a.s=b.s/\a.n=b.n) ⟨fun h=>KK.ext' h.1 h.2,fun h=>h▸⟨rfl,rfl⟩⟩
structure RR where
 b:Nat
 k:KK
 d:DD
 n:Nat
 gone:Bool
def RR.cs (r:RR):List Value:=r.k.cs++(r.d.cs++ [.int .u64 r.n, .bool r.gone])
theorem Pe (d:DD):d.cs.length=18:=rfl
theorem Dz (r:RR):r.cs.length=22:=rfl
def My (l:List Nat):List Value:=l.map (fun b=> .pointer (some ⟨b,0,none⟩))
def OwnP (W:World) (v:Value) (l:List Nat):Prop:=W.ownsRow 0 195 1 v l.length (My l)
theorem OwnP.nil (W:World):OwnP W (.slice none 0 0) []:=⟨rfl, .inl ⟨rfl,rfl⟩⟩
theorem OwnP.lt {W:World} {v:Value} {l:List Nat} (h:OwnP W v l): ∀g,v.ownBlock=some g->g<W.heap.size:=fun g hg=>(World.ownsRow.lt h g hg).2
theorem OwnP.block {W W':World} {v:Value} {l:List Nat} (h:OwnP W v l) (he: ∀g,v.ownBlock=some g->W'.heap[g]? =W.heap[g]?):OwnP W' v l:=by
 obtain⟨h1,h2⟩:=h
 refine⟨h1, ?_⟩
 rcases h2 with h2|⟨g,cap,cur,rfl,h3,h4,h5⟩
 ·exact .inl h2
 ·exact .inr ⟨g,cap,cur,rfl,h3,(he g rfl).trans h4,h5⟩
structure TT where
 t:Nat
 m:Nat
 rv:Value
 rows:List RR
 last:Nat
def TT.live (T:TT):List RR:=T.rows.filter (fun r=> !r.gone)
def TT.find (T:TT) (k:KK):Option RR:=T.live.find? (fun r=>decide (r.k=k))
def TT.blocks (T:TT):List Nat:=T.t::T.m::(T.rv.ownBlock.toList++T.rows.map (·.b))
def TT.cs (T:TT):List Value:= [.map (some T.m),T.rv, .int .u64 T.last]
structure TT.Is (T:TT) (W:World):Prop where
 tab:Holds W T.t T.cs
 map:MapIs W T.m T.last T.live.length (fun k=>(T.find k).map (·.b))
 own:OwnP W T.rv (T.rows.map (·.b))
 rows: ∀r∈T.rows,Holds W r.b r.cs
 nd:T.blocks.Nodup
 rise:T.rows.Pairwise (fun a b=>a.n<b.n)
 num: ∀r∈T.rows,1<=r.n/\r.n<=T.last
 keys:T.live.Pairwise (fun a b=>a.k≠b.k)
 good: ∀r∈T.live,goodK r.k=true
theorem TT.Is.lt {T:TT} {W:World} (h:T.Is W): ∀b∈T.blocks,b<W.heap.size:=by
 intro b hb
 simp only[TT.blocks,List.mem_cons,List.mem_append,List.mem_map] at hb
 rcases hb with rfl|rfl|hb|⟨r,hr,rfl⟩
 ·exact h.tab.lt (by simp[TT.cs])
 ·exact h.map.lt
 ·exact h.own.lt b (by simpa using hb)
 ·exact(h.rows r hr).lt (by simp[Dz])
theorem TT.Is.block {T:TT} {W W':World} (h:T.Is W) (he: ∀b∈T.blocks,W'.heap[b]? =W.heap[b]?):T.Is W':=
 ⟨h.tab.block (he _ (by simp[TT.blocks])),h.map.block (he _ (by simp[TT.blocks])),h.own.block (fun g hg=>he g (by simp[TT.blocks,hg])),fun r hr=>(h.rows r hr).block (he _ (by
  simp only[TT.blocks,List.mem_cons,List.mem_append,List.mem_map]
  exact .inr (.inr (.inr ⟨r,hr,rfl⟩)))),h.nd,h.rise,h.num,h.keys,h.good⟩
theorem TT.Is.on {T:TT} {W W':World} (h:T.Is W) (hb:Below W.heap.size W W'):T.Is W':=h.block (fun b hb'=>hb.block b (h.lt b hb'))
theorem TT.Is.drew {T:TT} {W:World} (h:T.Is W):T.Is W.drew:=h.block (fun _ _=>rfl)
theorem TT.find_mem {T:TT} {k:KK} {r:RR} (h:T.find k=some r):r∈T.rows/\r.gone=false/\r.k=k:=by
 have h1:=List.mem_of_find?_eq_some h
 have h2:=List.find?_some h
 simp[TT.live] at h1 h2
 exact⟨h1.1,h1.2,h2⟩
section
variable {md : Region.Mode} {ops : Array Oper} {rest : List Oper} {Q : Exit → Act → World → Prop} {S : World → Prop} {w w0 : World} {fuel : Nat} {listed : Array Bool} {a : Act} {o : Oper}
theorem gsem (i:Nat) (dst:Option Tmp) (v:Value) (hi:ops[i]? =some o) (hs:Region.noSelect ops=true) (hf:Region.free md ops listed i=true) (hr:(Region.ready md ops listed).contains i=true)
  (hQ: ∀c a w,Q (.panic c) (a.put dst v) w->Q (.panic c) a w) (hd:o.dst=dst) (hw:Region.wanted o (yielded ops a.tmps)=true) (hy: ∀X,S X->(execOp a.eval o).run prog X= .ok (.value v) X)
  (hS:S w) (h:wpAnyH prog md ops Q S fuel (listed.setIfInBounds i true) (a.put dst v) w):wpAnyH prog md ops Q S (fuel+1) listed a w:=by
 subst hd
 exact wpAnyH_take hi hs hf hr hQ (Or.inl ⟨hw,hy⟩) hS h
theorem y10 (i:Nat) (dst:Option Tmp) (v:Value) (hi:ops[i]? =some o) (hy: ∀X,S X->(execOp a.eval o).run prog X= .ok (.value v) X) (hS:S w) (h:wpAnyH prog md ops Q S fuel (listed.setIfInBounds i true) (a.put dst v) w) (hs:Region.noSelect ops=true:=by kernel_rfl) (hf:Region.free md ops listed i=true:=by kernel_rfl) (hr:(Region.ready md ops listed).contains i=true:=by kernel_rfl) (hQ: ∀c a w,Q (.panic c) (a.put dst v) w->Q (.panic c) a w:=by exact fun _ _ _ h=>h) (hd:o.dst=dst:=by kernel_rfl) (hw:Region.wanted o (yielded ops a.tmps)=true:=by kernel_rfl):wpAnyH prog md ops Q S (fuel+1) listed a w:=gsem i dst v hi hs hf hr hQ hd hw hy hS h
theorem y1 {aB:Act} (i:Nat) (dst:Option Tmp) (v:Value) (hi:ops[i]? =some o) (hy: ∀X,S X->(execOp a.eval o).run prog X= .ok (.value v) X) (hS:S w) (h:wpAnyH prog md ops Q S fuel (listed.setIfInBounds i true) aB w) (hb:a.put dst v=aB:=by simp only[nn]<;>rfl) (hs:Region.noSelect ops=true:=by kernel_rfl) (hf:Region.free md ops listed i=true:=by kernel_rfl) (hr:(Region.ready md ops listed).contains i=true:=by kernel_rfl) (hQ: ∀c a w,Q (.panic c) (a.put dst v) w->Q (.panic c) a w:=by exact fun _ _ _ h=>h) (hd:o.dst=dst:=by kernel_rfl) (hw:Region.wanted o (yielded ops a.tmps)=true:=by kernel_rfl):wpAnyH prog md ops Q S (fuel+1) listed a w:=y10 i dst v hi hy hS (hb▸h) hs hf hr hQ hd hw
theorem y00 (i:Nat) (dst:Option Tmp) (v:Value) (hi:ops[i]? =some o) (hS:S w) (h:wpAnyH prog md ops Q S fuel (listed.setIfInBounds i true) (a.put dst v) w) (hy: ∀X,S X->(execOp a.eval o).run prog X= .ok (.value v) X:=by intro _ _;kernel_rfl) (hs:Region.noSelect ops=true:=by kernel_rfl) (hf:Region.free md ops listed i=true:=by kernel_rfl) (hr:(Region.ready md ops listed).contains i=true:=by kernel_rfl) (hQ: ∀c a w,Q (.panic c) (a.put dst v) w->Q (.panic c) a w:=by exact fun _ _ _ h=>h) (hd:o.dst=dst:=by kernel_rfl) (hw:Region.wanted o (yielded ops a.tmps)=true:=by kernel_rfl):wpAnyH prog md ops Q S (fuel+1) listed a w:=gsem i dst v hi hs hf hr hQ hd hw hy hS h
theorem y0 {aB:Act} (i:Nat) (dst:Option Tmp) (v:Value) (hi:ops[i]? =some o) (hS:S w) (h:wpAnyH prog md ops Q S fuel (listed.setIfInBounds i true) aB w) (hb:a.put dst v=aB:=by simp only[nn]<;>rfl) (hy: ∀X,S X->(execOp a.eval o).run prog X= .ok (.value v) X:=by intro _ _;kernel_rfl) (hs:Region.noSelect ops=true:=by kernel_rfl) (hf:Region.free md ops listed i=true:=by kernel_rfl) (hr:(Region.ready md ops listed).contains i=true:=by kernel_rfl) (hQ: ∀c a w,Q (.panic c) (a.put dst v) w->Q (.panic c) a w:=by exact fun _ _ _ h=>h) (hd:o.dst=dst:=by kernel_rfl) (hw:Region.wanted o (yielded ops a.tmps)=true:=by kernel_rfl):wpAnyH prog md ops Q S (fuel+1) listed a w:=y00 i dst v hi hS (hb▸h) hy hs hf hr hQ hd hw
theorem rd0 {v:Value} (hw:Region.wanted o (yielded ops a.tmps)=true) (hy:(execOp a.eval o).run prog w= .ok (.value v) w) (h:wpList prog ops Q rest (a.put o.dst v) w):wpList prog ops Q (o::rest) a w:=by
 refine BigFrame.wpList_want hw fun K hK=> ?_
 have hP:=hK _ _ h
 unfold Oper.wp
 rw[hy]
 exact hP
theorem rd {aB:Act} {v:Value} (hw:Region.wanted o (yielded ops a.tmps)=true) (hy:(execOp a.eval o).run prog w= .ok (.value v) w) (h:wpList prog ops Q rest aB w) (hb:a.put o.dst v=aB:=by simp only[nn]<;>rfl):wpList prog ops Q (o::rest) a w:=rd0 hw hy (hb▸h)
theorem Dt (w:World) (b p:Nat) (ty:TypeId) (v:Value) (vs:List Value) (hv:v.cells.toList=vs) (ht:w.there b p vs.length) (hi:(prog.info? ty).map (·.size)=some vs.length) (h1: ∀u∈vs,u.oneCell'=true):
  (storeVar ty ⟨b,p,none⟩ v).run prog w= .ok () (w.setCells b p vs):=by
 have:=run_storeCells_cells (P:=prog) b p vs 0 w (fun j hj=>by simpa using (ht j hj).1) (fun j hj=>by simpa using (ht j hj).2) h1
 cases hq:prog.info? ty with
 |none=>simp[hq] at hi
 |some i=>
  have hs:v.cells.size=i.size:=by
   have e:v.cells.size=vs.length:=by rw[←hv];simp
   simp[hq] at hi;omega
  simp only[Nat.add_zero] at this
  simp[storeVar,sizeOf,typeInfo,hq,hs,hv,this]
theorem st {E:List Nat} {L:List (Nat×List Value)} {b p:Nat} {cs vs:List Value} {v:Value} {x y:Operand} (i:Nat) (t:TypeId) (hw:Region.wanted o (yielded ops a.tmps)=true) (ho:o.op= .store t x y) (hx:a.eval x= .pointer (some ⟨b,p,none⟩)) (hy:a.eval y=v)
  (hv:v.cells.toList=vs) (h1: ∀u∈vs,u.oneCell'=true) (hi:(prog.info? t).map (·.size)=some vs.length) (hL:Hq w0 w E L) (hg:L[i]? =some (b,cs)) (hp:p+vs.length<=cs.length) (hE:b∈E∨w0.heap.size<=b)
  (h: ∀X,Hq w0 X E (L.set i (b,Bz cs p vs))->Fr w X [b]->X.heap.size=w.heap.size->wpList prog ops Q rest (a.put o.dst undef) X):wpList prog ops Q (o::rest) a w:=by
 refine BigFrame.wpList_want hw fun K hK=> ?_
 have hP:=hK _ _ (h _ (hL.put i hg p vs hp hE) (Fr.setCells w b p vs) (Eu _ _ _))
 unfold Oper.wp execOp
 simp only[ho,hx,hy,Instr.storeAt,Instr.sureAddr,Sem.run_bind,Sem.run_pure,Result.andThen_ok,Dt w b p t v vs hv ((hL.get i hg).there p vs.length hp) hi h1]
 exact hP
end
theorem Zbs (w:World):Calls prog 62 #[] w fun e w'=> ∃T:TT,e= .returned (.pointer (some ⟨T.t,0,none⟩))/\T.Is w'/\T.rows= []/\T.last=0/\(∀b∈T.blocks,w.heap.size<=b)/\Below w.heap.size w w':=by
 have hmm:= @run_makeMap prog
 go_enter func62,ntmps62
 go_wp2
 go_ret
 have hN:=Holds.new (w.alloc (Obj.map #[] 0)) [.map (some w.heap.size), .slice none 0 0, .int .u64 0] 165
 have hM:=MapIs.made w
 have hz:(w.alloc (Obj.map #[] 0)).heap.size=w.heap.size+1:=by simp
 rw[hz] at hN
 have hb:Below w.heap.size w ((w.alloc (Obj.map #[] 0)).alloc (Obj.cells #[Value.map (some w.heap.size),Value.slice none 0 0,Value.int IntKind.u64 0] 165)):=((Below.refl _ _).alloc (Nat.le_refl _) _).alloc (by simp) _
 refine⟨⟨w.heap.size+1,w.heap.size, .slice none 0 0, [],0⟩,rfl,⟨hN, ?_,OwnP.nil _,(fun r hr=>by cases hr),by simp[TT.blocks,Value.ownBlock],by simp,(fun r hr=>by cases hr),by simp[TT.live],(fun r hr=>by simp[TT.live] at hr)⟩,rfl,rfl, ?_,hb⟩
 ·refine MapIs.block (w:=w.alloc (Obj.map #[] 0)) ?_ (Below.heap_alloc _ _ _ (by simp))
  exact hM
 ·intro b hb
  simp[TT.blocks,Value.ownBlock] at hb
  rcases hb with rfl|rfl<;>simp
theorem Zcw {o:Oper} {a:Act} {w:World} {m:Operand} {b n sz:Nat} {F:KK->Option Nat} (ho:o.op= .call {callee:= .builtin .len,args:= #[m],argTypes:= #[162]}) (hm:a.eval m= .map (some b)) (h:MapIs w b n sz F):(execOp a.eval o).run prog w= .ok (.value (.int .i64 sz)) w:=by
 simp[execOp,ho,resolve,invoke,builtin,hm,h.len o.type,Result.andThen]
theorem len30 (T:TT) (w:World) (hT:T.Is w):Calls prog 176 #[.pointer (some ⟨T.t,0,none⟩)] w fun e w'=>e= .returned (.int .i64 T.live.length)/\w'=w:=by
 have HT:=Ab hT
 clear hT
 go_enter func176,ntmps176
 go_wp2_with (first|go_skip|(refine rd rfl (Ag 162 isAgg162 rfl rfl (Aa HT).tab rfl) ?_)|(refine rd rfl (Zcw rfl rfl (Aa HT).map) ?_))
 go_ret
 exact⟨rfl,rfl⟩
theorem TT.live_le (T:TT):T.live.length<=T.rows.length:=List.length_filter_le _ _
theorem ex_lenS {o:Oper} {a:Act} {w:World} {m:Operand} {v:Value} {l:List RR} (ho:o.op= .call {callee:= .builtin .len,args:= #[m],argTypes:= #[163]}) (hm:a.eval m=v) (h:OwnP w v (l.map (·.b))):(execOp a.eval o).run prog w= .ok (.value (.int .i64 (l.length:Nat))) w:=by
 have hv: ∃A c,v= .slice A l.length c:=by
  rcases h.2 with ⟨h1,h2⟩|⟨g,cap,cur,h1,h2⟩
  ·exact⟨none,0,by rw[h1];simp at h2;simp[h2]⟩
  ·exact⟨_,_,by rw[h1];simp;exact⟨rfl,rfl⟩⟩
 obtain⟨A,c,rfl⟩:=hv
 simp[execOp,ho,resolve,invoke,builtin,hm,Builtin.len_,Result.andThen,goInt,underlying163,run_underlying underlying163]
theorem ex_sub {o:Oper} {a:Act} {w:World} {x y:Operand} {m n:Nat} (ho:o.op= .binOp .sub 3 x y 3) (hx:a.eval x= .int .i64 (m:Nat)) (hy:a.eval y= .int .i64 (n:Nat)) (h:n<=m) (hm:m<=4000000):(execOp a.eval o).run prog w= .ok (.value (.int .i64 ((m - n:Nat):Int))) w:=by
 have e:((m - n:Nat):Int)=(m:Int) - (n:Int):=by omega
 rw[e]
 unfold execOp
 simp only[ho,hx,hy]
 have hs:=subI (m:Int) (n:Int) (by omega) (by omega) w
 simp[go_sem,eqGuard,hs,Result.andThen]
 rw[IntKind.wrap_i64]
 omega
theorem gaps38 (T:TT) (w:World) (hT:T.Is w) (hl:T.rows.length<=4000000):Calls prog 175 #[.pointer (some ⟨T.t,0,none⟩)] w fun e w'=>e= .returned (.int .i64 ((T.rows.length - T.live.length:Nat):Int))/\Below w.heap.size w w':=by
 have HT:=Ab hT
 clear hT
 go_enter func175,ntmps175
 go_wp2
 refine wp_region_held_drew (P:=prog) (S:=fun X=>T.Is X) (by kernel_rfl) (Aa HT).drew (fun hS0=> ?_)
 refine y0 0 (some 3) (.pointer (some ⟨T.t,0,none⟩)) rfl hS0 ?_
 refine y0 1 (some 4) (.pointer (some ⟨T.t,0,none⟩)) rfl hS0 ?_
 refine y0 2 (some 5) (.pointer (some ⟨T.t,1,none⟩)) rfl hS0 ?_
 refine y1 3 (some 6) (T.rv) rfl (fun X hX=>Ag 163 isAgg163 rfl rfl (hX.tab) rfl) hS0 ?_
 refine y1 4 (some 7) (.int .i64 (T.rows.length:Nat)) rfl (fun X hX=>ex_lenS rfl rfl hX.own) hS0 ?_
 refine y0 5 (some 8) (.pointer (some ⟨T.t,0,none⟩)) rfl hS0 ?_
 refine y0 6 (some 9) (.pointer (some ⟨T.t,0,none⟩)) rfl hS0 ?_
 refine y0 7 (some 10) (.pointer (some ⟨T.t,0,none⟩)) rfl hS0 ?_
 refine y1 8 (some 11) (.map (some T.m)) rfl (fun X hX=>Ag 162 isAgg162 rfl rfl (hX.tab) rfl) hS0 ?_
 refine y1 9 (some 12) (.int .i64 (T.live.length:Nat)) rfl (fun X hX=>Zcw rfl rfl hX.map) hS0 ?_
 refine y1 10 (some 13) (.int .i64 ((T.rows.length - T.live.length:Nat):Int)) rfl (fun X hX=>ex_sub rfl rfl rfl (by have:=T.live_le;omega) hl) hS0 ?_
 refine y0 11 (some 2) (.int .i64 ((T.rows.length - T.live.length:Nat):Int)) rfl hS0 ?_
 refine dn ?_
 try simp only[nn]
 go_wp2
 go_ret
 exact⟨rfl,(Below.refl _ _).drew⟩
theorem Lx (w:World) (a b:Array Value) (s t:TypeId):Below w.heap.size w ((w.alloc (Obj.cells a s)).alloc (Obj.cells b t)):=((Below.refl _ _).alloc (Nat.le_refl _) _).alloc (by simp) _
theorem Hq.two (w:World) (E:List Nat) (a b:List Value) (s t:TypeId) (ha:0<a.length) (hb:0<b.length):Hq w ((w.alloc (Obj.cells a.toArray s)).alloc (Obj.cells b.toArray t)) E [(w.heap.size,a),(w.heap.size+1,b)]:=by
 have h:=((Hq.nil w E).new a s ha).new b t hb
 rw[show (w.alloc (Obj.cells a.toArray s)).heap.size=w.heap.size+1 by simp] at h
 exact h
def getD (T:TT) (k:KK):DD:=((T.find k).map (·.d)).getD Ar
theorem Gm: ∃d,prog.underlying 45=some d/\d.isRow=true:=⟨_,underlying45,rfl⟩
theorem Vl: ∃d,prog.underlying 48=some d/\d.isRow=true:=⟨_,underlying48,rfl⟩
theorem row58: ∃d,prog.underlying 50=some d/\d.isRow=true:=⟨_,underlying50,rfl⟩
theorem Jr:(prog.info? 45).map (·.size)=some 2:=by kernel_rfl
theorem Oj:(prog.info? 48).map (·.size)=some 18:=by kernel_rfl
theorem siz58:(prog.info? 50).map (·.size)=some 20:=by kernel_rfl
theorem Mm {o:Oper} {a:Act} {w:World} {m x:Operand} {b n sz:Nat} {F:KK->Option Nat} {k:KK} {r:Option Nat} (ho:o.op= .lookup 162 m x true) (hm:a.eval m= .map (some b)) (hx:a.eval x=k.agg) (h:MapIs w b n sz F) (hk:OkK k) (hr:F k=r):(execOp a.eval o).run prog w= .ok (.value (.tuple #[pv r, .bool r.isSome])) w:=by
 subst hr
 simp[execOp,ho,hm,hx,h.look hk,Result.andThen]
theorem ret_ct {fn:Func} {R:Ending->World->Prop} {a:Act} {w:World} {b r q:Nat} {d:DD} {v:Value} {cs:List Value} (hr:fn.results= #[.cell r 48, .tmp q]) (hdf:a.defers= [])
  (hx:a.tmps.getD r undef= .pointer (some ⟨b,0,none⟩)) (hq:a.tmps.getD q undef=v) (hc:Holds w b cs) (hcs:(cs.drop 0).take 18=d.cs) (h:R (.returned (.tuple #[d.agg,v])) w):bodyPost prog fn R .ret a w:=by
 obtain⟨t,hu,hd⟩:=Vl
 have h0:=hc.mid 0 18
 rw[hcs] at h0
 have hl:=run_loadVar_mid (P:=prog) w b 0 48 _ t h0 hu hd Oj
 refine⟨hdf,_, ?_,h⟩
 simp only[Array.getD_eq_getD_getElem?] at hx hq
 unfold results
 simp[hr,hx,hq,hl,asAddr]
 try rfl
theorem Yb (T:TT) (k:KK) (w:World) (hT:T.Is w) (hk:OkK k):Calls prog 88 #[.pointer (some ⟨T.t,0,none⟩),k.agg] w fun e w'=>e= .returned (.tuple #[(getD T k).agg, .bool (T.find k).isSome])/\Below w.heap.size w w':=by
 cases hf:T.find k with
 |none=>
  have HT:=Ab (hT.on (Lx w k.cs.toArray Ar.cs.toArray 45 48))
  have LL:=Ab (Hq.two w [] k.cs Ar.cs 45 48 (Nat.succ_pos _) (Nat.succ_pos _))
  have hB2:Hid (w.heap.size<=w.heap.size+1):=Ab (Nat.le_succ _)
  clear hT
  rw[show k.agg= .agg k.cs.toArray from rfl]
  go_enter func88,ntmps88
  go_wp2
  refine wp_region_held_drew (P:=prog) (S:=fun X=>T.Is X/\Hq w X [] [(w.heap.size,k.cs),(w.heap.size+1,Ar.cs)]) (by kernel_rfl) ⟨(Aa HT).drew,(Aa LL).drew⟩ (fun hS0=> ?_)
  refine y0 0 (some 9) (.pointer (some ⟨T.t,0,none⟩)) rfl hS0 ?_
  refine y0 1 (some 10) (.pointer (some ⟨T.t,0,none⟩)) rfl hS0 ?_
  refine y0 2 (some 11) (.pointer (some ⟨T.t,0,none⟩)) rfl hS0 ?_
  refine y1 3 (some 12) (.map (some T.m)) rfl (fun X hX=>Ag 162 isAgg162 rfl rfl (hX.1.tab) rfl) hS0 ?_
  refine y1 4 (some 13) (k.agg) rfl (fun X hX=>Am (vs:=k.cs) 45 2 Gm Jr rfl rfl (hX.2.get 0 rfl) rfl rfl) hS0 ?_
  refine y1 5 (some 14) (.tuple #[pv (none), .bool false]) rfl (fun X hX=>Mm (r:=none) rfl rfl rfl hX.1.map hk (by rw[hf];rfl)) hS0 ?_
  refine y0 6 (some 8) (.tuple #[pv (none), .bool false]) rfl hS0 ?_
  refine y0 7 (some 15) (pv (none)) rfl hS0 ?_
  refine y0 9 (some 6) (pv (none)) rfl hS0 ?_
  refine y0 8 (some 16) (.bool false) rfl hS0 ?_
  refine y0 10 (some 7) (.bool false) rfl hS0 ?_
  refine dn ?_
  try simp only[nn]
  replace HT:=Ab hS0.1
  replace LL:=Ab hS0.2
  clear hS0
  unfold pv
  go_wp2_with (first|go_skip|((refine st (vs:=Ar.cs) 1 48 (by rfl) rfl rfl rfl rfl (by simp[Ar,zeroV,DD.cs,VV.cs,Value.oneCell']) Oj (Aa LL) rfl (by simp[Pe]) (Or.inr (Aa hB2)) ?_);intro w3 L3 hf3 hs3;replace LL:=Ab L3;clear L3 hf3 hs3;simp only[nn]))
  refine ret_ct (d:=Ar) (r:=4) (q:=5) (b:=w.heap.size+1) rfl rfl rfl rfl ((Aa LL).get 1 rfl) rfl ⟨?_,(Aa LL).fr.below⟩
  unfold getD
  rw[hf]
  rfl
 |some r=>
  have HT:=Ab (hT.on (Lx w k.cs.toArray Ar.cs.toArray 45 48))
  have LL:=Ab (Hq.two w [] k.cs Ar.cs 45 48 (Nat.succ_pos _) (Nat.succ_pos _))
  have hB2:Hid (w.heap.size<=w.heap.size+1):=Ab (Nat.le_succ _)
  clear hT
  rw[show k.agg= .agg k.cs.toArray from rfl]
  go_enter func88,ntmps88
  go_wp2
  refine wp_region_held_drew (P:=prog) (S:=fun X=>T.Is X/\Hq w X [] [(w.heap.size,k.cs),(w.heap.size+1,Ar.cs)]) (by kernel_rfl) ⟨(Aa HT).drew,(Aa LL).drew⟩ (fun hS0=> ?_)
  refine y0 0 (some 9) (.pointer (some ⟨T.t,0,none⟩)) rfl hS0 ?_
  refine y0 1 (some 10) (.pointer (some ⟨T.t,0,none⟩)) rfl hS0 ?_
  refine y0 2 (some 11) (.pointer (some ⟨T.t,0,none⟩)) rfl hS0 ?_
  refine y1 3 (some 12) (.map (some T.m)) rfl (fun X hX=>Ag 162 isAgg162 rfl rfl (hX.1.tab) rfl) hS0 ?_
  refine y1 4 (some 13) (k.agg) rfl (fun X hX=>Am (vs:=k.cs) 45 2 Gm Jr rfl rfl (hX.2.get 0 rfl) rfl rfl) hS0 ?_
  refine y1 5 (some 14) (.tuple #[pv (some r.b), .bool true]) rfl (fun X hX=>Mm (r:=some r.b) rfl rfl rfl hX.1.map hk (by rw[hf];rfl)) hS0 ?_
  refine y0 6 (some 8) (.tuple #[pv (some r.b), .bool true]) rfl hS0 ?_
  refine y0 7 (some 15) (pv (some r.b)) rfl hS0 ?_
  refine y0 9 (some 6) (pv (some r.b)) rfl hS0 ?_
  refine y0 8 (some 16) (.bool true) rfl hS0 ?_
  refine y0 10 (some 7) (.bool true) rfl hS0 ?_
  refine dn ?_
  try simp only[nn]
  replace HT:=Ab hS0.1
  replace LL:=Ab hS0.2
  clear hS0
  have HR:=Ab ((Aa HT).rows r (T.find_mem hf).1)
  unfold pv
  go_wp2_with (first|go_skip|(refine rd rfl (Am (vs:=r.d.cs) 48 18 Vl Oj rfl rfl (Aa HR) rfl rfl) ?_)|((refine st (vs:=r.d.cs) 1 48 (by rfl) rfl rfl rfl rfl (by simp[DD.cs,VV.cs,Value.oneCell']) Oj (Aa LL) rfl (by simp[Pe]) (Or.inr (Aa hB2)) ?_);intro w3 L3 hf3 hs3;replace LL:=Ab L3;clear L3 hf3 hs3;simp only[nn]))
  refine ret_ct (d:=r.d) (r:=4) (q:=5) (b:=w.heap.size+1) rfl rfl rfl rfl ((Aa LL).get 1 rfl) rfl ⟨?_,(Aa LL).fr.below⟩
  unfold getD
  rw[hf]
  rfl
end
section
open Go Go.Proofs Go.RowKit Go.Sort Tryz
theorem bl_any (n:Nat) (h:n<=1500000):Lib.bitLen n<=21:=by
 rcases Nat.lt_or_ge n 8 with h8|h8
 ·have: ∀m:Fin 8,Lib.bitLen m.val<=21:=by decide+kernel
  exact this ⟨n,h8⟩
 ·exact(bl_le n h8 h).2.2
theorem sort31 (blk cap:Nat) (d:Array Nat) (w:World) (hL:LiesU w blk d) (hsz:d.size<=1500000):
  Calls prog 190 #[.slice (some ⟨blk,0,none⟩) d.size cap] w fun e w'=>e= .returned (.tuple #[])/\ ∃d',d'.toList=d.toList.mergeSort (fun x y=> !ltN y x)/\LiesU w' blk d'/\w.grownBy w' (some blk):=by
 have HC:=Ab (Tryz.bits_Len (d.size:Int) w (by omega) (by omega))
 rw[Int.toNat_natCast] at HC
 have HP:=Ab (ZcY blk (d.size+1) cap 0 d.size (Lib.bitLen d.size) d w (by omega) hL (by omega) (Nat.le_refl _) hsz (by have:=bl_any d.size hsz;omega) (.inl rfl))
 generalize Lib.bitLen d.size=k at *
 clear hL
 have z1:IntKind.u64.wrap (d.size:Int)=(d.size:Int):=by simp[IntKind.wrap,IntKind.bits,IntKind.signed];omega
 go_enter func190,ntmps190
 go_wp2_with fail
 refine(Aa HC).mono ?_
 rintro e w' ⟨rfl,rfl⟩
 go_wp2_with fail
 refine(Aa HP).mono ?_
 rintro e w1 ⟨rfl,d',hP,hS,hL1,hG1⟩
 have HF:=Ab (And.intro hL1 (And.intro hG1 (sorted_unique_holds (lt:=ltN) ZdA (fun x y h1 h2=>by simp[ltN] at *;omega) d d' hP hS)))
 clear hL1 hG1 hP hS
 go_wp2
 go_end0
 exact⟨rfl,d',(Aa HF).2.2,(Aa HF).1,(Aa HF).2.1⟩
theorem Un (w:World):Calls prog 198 #[.slice none 0 0, .int .i64 0, .int .i64 0] w fun e w'=>e= .returned (.tuple #[])/\w.grownBy w' none:=by
 go_enter func198,ntmps198
 go_wp2_with fail
 go_loopg [6] 1 (fun g s6 wr=>s6= .int .i64 1/\Hid (w.grownBy wr none))
 case atStart=>exact⟨by go_num,Ab (Jk _ _)⟩
 case round=>
  obtain⟨rfl,hGk⟩:=hrel
  go_wp2_with fail
  go_end0
  exact⟨rfl,Aa hGk⟩
theorem ZdJ (k:Nat) (w:World):Calls prog 194 #[.slice none 0 0, .int .i64 0, .int .i64 0, .int .i64 k] w fun e w'=>e= .returned (.tuple #[])/\w.grownBy w' none:=by
 have HI:=Ab (fun w=>Un w)
 go_enter func194,ntmps194
 go_wp2_with fail
 go_loopg [1,2,3,8,9] 1 (fun g s1 s2 s3 s8 s9 wr=>s1= .int .i64 0/\s2= .int .i64 0/\s3= .int .i64 k/\s8= .bool true/\s9= .bool true/\Hid (w.grownBy wr none))
 case atStart=>exact⟨rfl,rfl,rfl,rfl,rfl,Ab (Jk _ _)⟩
 case round=>
  obtain⟨rfl,rfl,rfl,rfl,rfl,hG⟩:=hrel
  go_wp2_with fail
  refine((Aa HI) _).mono ?_
  rintro e w1 ⟨rfl,hG1⟩
  have HF:=Ab (Bt (Aa hG) hG1)
  clear hG1
  go_wp2
  (try simp only[Exit.inBlock,Exit.then])
  refine bodyPost_ret (results_none rfl _ _ _) rfl ?_
  exact⟨rfl,Aa HF⟩
theorem Zcc (w:World):Calls prog 190 #[.slice none 0 0] w fun e w'=>e= .returned (.tuple #[])/\w.grownBy w' none:=by
 have HC:=Ab (Tryz.bits_Len (0:Int) w (by omega) (by omega))
 have HP:=Ab (fun k=>ZdJ k w)
 generalize Lib.bitLen (0:Int).toNat=k at *
 go_enter func190,ntmps190
 go_wp2_with fail
 refine(Aa HC).mono ?_
 rintro e w' ⟨rfl,rfl⟩
 go_wp2_with fail
 refine((Aa HP) k).mono ?_
 rintro e w1 ⟨rfl,hG1⟩
 have HF:=Ab hG1
 clear hG1
 go_wp2
 go_end0
 exact⟨rfl,Aa HF⟩
end
section
open Go Go.Proofs Go.RowKit Tryz
theorem Jp (w:World) (base:Nat) (t ty e:TypeId) (i:TypeInfo) (z:Value) (size bytes:Nat) (ht:prog.underlying t=some (.slice e)) (hi:prog.info? e=some i) (hz:i.zero=some z)
  (hsize:i.size=size) (hby:i.bytes=bytes) (hzs:z.cells.size=size) (hsz:0<size) (v:Value) (n:Nat) (xs:List Value) (hown:w.ownsRow base e size v n xs)
  (a:Addr) (m c:Nat) (news:List Value) (hl:news.length=m * size) (hnews: ∀j u,news[j]? =some u->w.cell? (a.add j)=some u) (h1: ∀u∈news,u.oneCell'=true)
  (h63:n+m<=maxLen) (hbytes:(n+m) * bytes<=140737488355328) (hbase:base<=w.heap.size):
  ∃v' w',(Builtin.append_ #[t,t] ty #[v, .slice (some a) m c]).run prog w= .ok v' w'/\w'.ownsRow base e size v' (n+m) (xs++news)/\w.grownBy w' v.ownBlock/\(v'.ownBlock=v.ownBlock∨v'.ownBlock=some w.heap.size):=by
 obtain⟨v',w',hr,ho,hg,hiff⟩:=run_append_own w base t ty e i z size bytes ht hi hz hsize hby hzs hsz v n xs hown a m c news hl hnews h1 h63 hbytes hbase
 refine⟨v',w',hr,ho,hg, ?_⟩
 have hm:n+m<=9223372036854775807:=by simp only[maxLen] at h63;omega
 have inj: ∀{v2:Value} {w2:World},(Builtin.append_ #[t,t] ty #[v, .slice (some a) m c]).run prog w= .ok v2 w2->v'=v2:=fun h2=>by
  rw[hr] at h2
  injection h2
 subst hsize
 subst hby
 rcases hown.2 with ⟨rfl,rfl⟩|⟨g,cap,cur,rfl,hbg,hgg,hnc,hcm,hcs,htake⟩
 ·by_cases h0:m=0
  ·exact Or.inl (by rw[hiff.2 ⟨rfl,h0⟩])
  ·right
   have hb:=hbytes
   rw[Nat.zero_add] at hb
   rw[inj (run_append_nil w t ty e i z ht hi hz a m c news hl hnews (by omega) (by omega) (by omega))]
   rfl
 ·by_cases hroom:n+m<=cap
  ·left
   have hfit:n * i.size+news.length<=cur.size:=by rw[hl,hcs,←Nat.add_mul];exact Nat.mul_le_mul_right _ hroom
   rw[inj (run_append_room w t ty e i ht hi g n cap cur hgg a m c news hl hnews h1 hroom hfit)]
   rfl
  ·right
   rw[inj (run_append_grow w t ty e i z ht hi hz ⟨g,0,none⟩ n cap xs hown.1 (hown.cells (g:=g) rfl) a m c news hl hnews (by omega) (by omega) (growslice_fits (by omega) hbytes))]
   rfl
def Lq (w:World) (v v':Value):Prop:=v'.ownBlock=v.ownBlock∨v'.ownBlock=some w.heap.size
section
variable {ops : Array Oper} {rest : List Oper} {o : Oper} {a : Act} {w : World} {Q : Exit → Act → World → Prop} {s x : Operand} {base : Nat} {l m : List KK} {v u : Value}
theorem Zal {K:Act->World->Prop} (ho:o.op= .call {callee:= .builtin .append,args:= #[s,x],argTypes:= #[62,62]}) (hs:a.eval s=v) (hx:a.eval x=u) (hown:OwnK w base v l) (hu:Mo w u m) (hcap: ∀c,u= .slice none 0 c->c=0)
  (hn:l.length+m.length<=6000000) (hbase:base<=w.heap.size)
  (h: ∀v' w',OwnK w' base v' (l++m)->w.grownBy w' v.ownBlock->Lq w v v'->K (a.put o.dst v') w'):o.wp prog a w K Q:=by
 obtain⟨i0,hi,hz0,hz1,hz2⟩:=info_parts Jj
 have main: ∀ad c,u= .slice (some ad) m.length c->(∀j u,(flatK m)[j]? =some u->w.cell? (ad.add j)=some u)->o.wp prog a w K Q:=fun ad c hu' hc=>by
  obtain⟨v',w',hrun,h1,h2,h3⟩:=Jp w base 62 o.type 45 i0 _ 2 24 underlying62 hi hz0 hz1 hz2 rfl (by decide) v l.length (flatK l) hown ad m.length c (flatK m) (Gp m) hc (Mj m) (by unfold maxLen;omega) (by omega) hbase
  have hK:=h v' w' (by unfold OwnK;rw[Kn,List.length_append];exact h1) h2 h3
  subst hu'
  unfold Oper.wp
  simp[execOp,ho,resolve,invoke,builtin,hs,hx,hrun,Result.andThen]
  exact hK
 rcases hu with ⟨A,c,rfl,rfl⟩|⟨b,off,cap,rfl,hlt,hc⟩
 ·cases A with
  |none=>
   obtain rfl:=hcap c rfl
   have hrun:=run_append_owned_none (P:=prog) (w:=w) base 62 o.type 45 i0 2 underlying62 hi v l.length (flatK l) hown
   have hK:=h v w (by simpa using hown) ⟨rfl,rfl,rfl,Nat.le_refl _,fun _ _ _=>rfl⟩ (Or.inl rfl)
   unfold Oper.wp
   simp[execOp,ho,resolve,invoke,builtin,hs,hx,hrun,Result.andThen]
   exact hK
  |some ad=>exact main ad c rfl (fun j u hu=>by simp[flatK] at hu)
 ·exact main _ cap rfl (fun j u hu=>by
   have:=Nu.1 hc j u hu
   by_cases e:j=0
   ·subst e;simpa [Addr.add] using this
   ·simpa [Addr.add,e] using this)
theorem Ep (hgd:o.guard=none) (ho:o.op= .call {callee:= .builtin .append,args:= #[s,x],argTypes:= #[62,62]}) (hs:a.eval s=v) (hx:a.eval x=u) (hown:OwnK w base v l) (hu:Mo w u m) (hcap: ∀c,u= .slice none 0 c->c=0)
  (hn:l.length+m.length<=6000000) (hbase:base<=w.heap.size)
  (h: ∀v' w',OwnK w' base v' (l++m)->w.grownBy w' v.ownBlock->Lq w v v'->wpList prog ops Q rest (a.put o.dst v') w'):wpList prog ops Q (o::rest) a w:=
 wpList_plain hgd fun _ hK=>Zal ho hs hx hown hu hcap hn hbase (fun v' w' h1 h2 h3=>hK _ _ (h v' w' h1 h2 h3))
def OwnU (w:World) (base:Nat) (v:Value) (d:List Nat):Prop:=w.ownsRow base 193 1 v d.length (d.map ZcB)
theorem Zc8:(prog.info? 193).map (fun i=>(i.zero,i.size,i.bytes))=some (some (.int .u32 0),1,4):=by kernel_rfl
theorem Zeo {d:List Nat} {n:Nat} {B:Nat} (hgd:o.guard=none) (ho:o.op= .call {callee:= .builtin .append,args:= #[s,x],argTypes:= #[262,262]}) (hs:a.eval s=v) (hx:a.eval x= .slice (some ⟨B,0,none⟩) 1 1) (hown:OwnU w base v d) (hB:w.cell? ⟨B,0,none⟩=some (.int .u32 (n:Nat)))
  (hn:d.length<=6000000) (hbase:base<=w.heap.size)
  (h: ∀v' w',OwnU w' base v' (d++ [n])->w.grownBy w' v.ownBlock->Lq w v v'->wpList prog ops Q rest (a.put o.dst v') w'):wpList prog ops Q (o::rest) a w:=by
 obtain⟨i0,hi,hz0,hz1,hz2⟩:=info_parts Zc8
 refine wpList_plain hgd fun K hK=> ?_
 obtain⟨v',w',hrun,h1,h2,h3⟩:=Jp w base 262 o.type 193 i0 _ 1 4 underlying262 hi hz0 hz1 hz2 rfl (by decide) v d.length (d.map ZcB) hown ⟨B,0,none⟩ 1 1 [.int .u32 (n:Nat)] rfl (fun j u hj=>by
  obtain rfl:j=0:=by
   have:=(List.getElem?_eq_some_iff.1 hj).1
   simpa using this
  have e:Value.int .u32 (n:Nat)=u:=by simpa using hj
  subst e
  simpa [Addr.add] using hB) (fun u hu=>by
  obtain rfl:u= .int .u32 (n:Nat):=by simpa using hu
  rfl) (by unfold maxLen;omega) (by omega) hbase
 have hP:=hK _ _ (h v' w' (by unfold OwnU;rw[List.length_append,List.map_append];exact h1) h2 h3)
 unfold Oper.wp
 simp[execOp,ho,resolve,invoke,builtin,hs,hx,hrun,Result.andThen]
 exact hP
theorem kbuildU {n:Nat} (hw:Region.wanted o (yielded ops a.tmps)=true) (ho:o.op= .buildSlice 262 1 #[(0,x)]) (hx:a.eval x= .int .u32 (n:Nat))
  (h: ∀X,X.cell? ⟨w.heap.size,0,none⟩=some (.int .u32 (n:Nat))->X.heap.size=w.heap.size+1->Below w.heap.size w X->wpList prog ops Q rest (a.put o.dst (.slice (some ⟨w.heap.size,0,none⟩) 1 1)) X):wpList prog ops Q (o::rest) a w:=by
 refine BigFrame.wpList_want hw fun K hK=> ?_
 obtain⟨i0,hi,hz0,hz1,hz2⟩:=info_parts Zc8
 refine wp_buildSlice 262 193 1 _ ho #[.int .u32 (n:Nat)] i0 _ underlying262 hi hz0 (by rw[hz1];decide) (by rw[hz1];decide) ?_ (hK _ _ (h _ (by simp[go_sem]) (by simp) ((Below.refl _ _).alloc (Nat.le_refl _) _)))
 rw[hz1]
 simp only[List.map_toArray,List.map_cons,List.map_nil,hx]
 kernel_rfl
end
theorem OwnU.own {w:World} {base:Nat} {v:Value} {l:List Nat} (h:OwnU w base v l): ∀g,v.ownBlock=some g->base<=g/\g<w.heap.size:=World.ownsRow.lt h
theorem OwnU.block {w w':World} {base:Nat} {v:Value} {l:List Nat} (h:OwnU w base v l) (he: ∀g,v.ownBlock=some g->w'.heap[g]? =w.heap[g]?):OwnU w' base v l:=by
 refine⟨h.1, ?_⟩
 rcases h.2 with h|⟨g',c',cur,rfl,h1,h2,h3⟩
 ·exact .inl h
 ·exact .inr ⟨_,c',cur,rfl,h1,(he g' rfl).trans h2,h3⟩
def Apart (v u:Value):Prop:= ∀g,v.ownBlock=some g->u.ownBlock≠some g
theorem Apart.symm {v u:Value} (h:Apart v u):Apart u v:=fun g hu hv=>h g hv hu
theorem Apart.fresh {w:World} {v v' u:Value} (h:Apart v u) (hf:Lq w v v') (hu: ∀g,u.ownBlock=some g->g<w.heap.size):Apart v' u:=by
 intro g hg he
 rcases hf with e|e
 ·exact h g (e▸hg) he
 ·rw[e] at hg
  have h1:=hu g he
  have h2:w.heap.size=g:=by simpa using hg
  omega
structure R3 (w W:World) (v3 v4 v5:Value) (d:List Nat) (ks ys:List KK):Prop where
 below:Below w.heap.size w W
 o3:OwnU W w.heap.size v3 d
 o4:OwnK W w.heap.size v4 ks
 o5:OwnK W w.heap.size v5 ys
 a34:Apart v3 v4
 a35:Apart v3 v5
 a45:Apart v4 v5
theorem R3.nil (w:World):R3 w w (.slice none 0 0) (.slice none 0 0) (.slice none 0 0) [] [] []:=
 ⟨Below.refl _ _,⟨rfl, .inl ⟨rfl,rfl⟩⟩,OwnK.nil _ _,OwnK.nil _ _,(fun g h=>by cases h),(fun g h=>by cases h),(fun g h=>by cases h)⟩
section
variable {w W W' : World} {v3 v4 v5 v' : Value} {d : List Nat} {ks ys : List KK}
theorem R3.on (h:R3 w W v3 v4 v5 d ks ys) (hb:Below W.heap.size W W'):R3 w W' v3 v4 v5 d ks ys:=
 ⟨h.below.trans (hb.mono h.below.size),h.o3.block (fun g hg=>hb.block g (h.o3.own g hg).2),h.o4.on hb,h.o5.on hb,h.a34,h.a35,h.a45⟩
theorem R3.put3 {n:Nat} (h:R3 w W v3 v4 v5 d ks ys) (ho:OwnU W' w.heap.size v' (d++ [n])) (hg:W.grownBy W' v3.ownBlock) (hf:Lq W v3 v'):R3 w W' v' v4 v5 (d++ [n]) ks ys:=
 ⟨h.below.grown hg h.below.size (fun k hk=>(h.o3.own k hk).1),ho,h.o4.block (fun g hg'=>hg.block g (h.o4.own g hg').2 (fun e=>h.a34 g e.symm hg')),h.o5.block (fun g hg'=>hg.block g (h.o5.own g hg').2 (fun e=>h.a35 g e.symm hg')),
  h.a34.fresh hf (fun g hg=>(h.o4.own g hg).2),h.a35.fresh hf (fun g hg=>(h.o5.own g hg).2),h.a45⟩
theorem R3.put4 {n:List KK} (h:R3 w W v3 v4 v5 d ks ys) (ho:OwnK W' w.heap.size v' (ks++n)) (hg:W.grownBy W' v4.ownBlock) (hf:Lq W v4 v'):R3 w W' v3 v' v5 d (ks++n) ys:=
 ⟨h.below.grown hg h.below.size (fun k hk=>(h.o4.own k hk).1),h.o3.block (fun g hg'=>hg.block g (h.o3.own g hg').2 (fun e=>h.a34 g hg' e.symm)),ho,h.o5.block (fun g hg'=>hg.block g (h.o5.own g hg').2 (fun e=>h.a45 g e.symm hg')),
  (h.a34.symm.fresh hf (fun g hg=>(h.o3.own g hg).2)).symm,h.a35,h.a45.fresh hf (fun g hg=>(h.o5.own g hg).2)⟩
theorem R3.put5 {n:List KK} (h:R3 w W v3 v4 v5 d ks ys) (ho:OwnK W' w.heap.size v' (ys++n)) (hg:W.grownBy W' v5.ownBlock) (hf:Lq W v5 v'):R3 w W' v3 v4 v' d ks (ys++n):=
 ⟨h.below.grown hg h.below.size (fun k hk=>(h.o5.own k hk).1),h.o3.block (fun g hg'=>hg.block g (h.o3.own g hg').2 (fun e=>h.a35 g hg' e.symm)),h.o4.block (fun g hg'=>hg.block g (h.o4.own g hg').2 (fun e=>h.a45 g hg' e.symm)),ho,
  h.a34,(h.a35.symm.fresh hf (fun g hg=>(h.o3.own g hg).2)).symm,(h.a45.symm.fresh hf (fun g hg=>(h.o4.own g hg).2)).symm⟩
end
theorem ret23 {fn:Func} {R:Ending->World->Prop} {a:Act} {w:World} {b r:Nat} {d:KK} (hr:fn.results= #[.cell r 45]) (hdf:a.defers= [])
  (hx:a.tmps.getD r undef= .pointer (some ⟨b,0,none⟩)) (hc:KLies w b d) (h:R (.returned (d.agg)) w):bodyPost prog fn R .ret a w:=by
 obtain⟨t,hu,hd⟩:=ZaC
 have hl:=run_loadVar_mid (P:=prog) w b 0 45 _ t hc.range hu hd ZaD
 refine⟨hdf,_, ?_,h⟩
 simp only[Array.getD_eq_getD_getElem?] at hx
 unfold results
 simp[hr,hx,hl,asAddr]
 try rfl
theorem Ue (u:Nat) (hu:u<=4294967295) (w:World) (htab:TabP w):Calls prog 191 #[.int .u32 (u:Nat)] w fun e w'=>e= .returned (KK.agg ⟨Qu u,0⟩)/\Below w.heap.size w w':=by
 have H46:=Ab (fun w hT=>fmt46 u (by omega) w hT)
 have HT:=Ab htab
 clear htab
 have wu:IntKind.u64.wrap (u:Int)=u:=by rw[IntKind.wrap_u64];omega
 have LL:=Ab (Kq.nil w)
 generalize Qu u=s at *
 go_enter func191,ntmps191
 go_wp2_with (first|go_skip|((with_reducible apply Ld);(case ho|hw=>rfl);(case hL=>exact Aa LL);(intro X LX hbX;simp only[nn];simp only[List.cons_append,List.nil_append] at LX;replace LL:=Ab LX;clear LX hbX))|((with_reducible apply La (u:=⟨s,0⟩) (l:= []) (d:=Gv));(case ho|hw=>rfl);(case hL=>exact Aa LL);(case hx|hy|hm=>rfl);(case hne=>exact fun q hq=>by cases hq);(intro X LX hgX hsX;simp only[nn];simp only[List.cons_append,List.nil_append] at LX;replace LL:=Ab LX;clear LX hgX hsX)))
 refine(Aa H46 _ ((Aa HT).on (Aa LL).below)).mono ?_
 rintro _ w1 ⟨rfl,hb⟩
 replace LL:=Ab ((Aa LL).on hb)
 clear hb
 go_wp2_with (first|go_skip|((with_reducible apply Ld);(case ho|hw=>rfl);(case hL=>exact Aa LL);(intro X LX hbX;simp only[nn];simp only[List.cons_append,List.nil_append] at LX;replace LL:=Ab LX;clear LX hbX))|((with_reducible apply La (u:=⟨s,0⟩) (l:= []) (d:=Gv));(case ho|hw=>rfl);(case hL=>exact Aa LL);(case hx|hy|hm=>rfl);(case hne=>exact fun q hq=>by cases hq);(intro X LX hgX hsX;simp only[nn];simp only[List.cons_append,List.nil_append] at LX;replace LL:=Ab LX;clear LX hgX hsX)))
 refine ret23 rfl rfl rfl ((Aa LL).get 0 rfl) ?_
 exact⟨rfl,(Aa LL).below⟩
end
section
open Go Go.Proofs Go.Maps Go.RowKit Tryz
section
variable {md : Region.Mode} {ops : Array Oper} {rest : List Oper} {Q : Exit → Act → World → Prop} {S : World → Prop} {w w0 : World} {fuel : Nat} {listed : Array Bool} {a : Act} {o : Oper}
theorem Jf {w:World} {base e size n:Nat} {v:Value} {xs:List Value} (h:w.ownsRow base e size v n xs): ∃A c,v= .slice A n c:=by
 rcases h.2 with ⟨rfl,rfl⟩|⟨g,cap,cur,rfl, -⟩
 ·exact⟨_,_,rfl⟩
 ·exact⟨_,_,rfl⟩
theorem Pg {t e:TypeId} {size bytes n m c B base:Nat} {z v:Value} {xs news:List Value} {s x:Operand} (hgd:o.guard=none) (ho:o.op= .call {callee:= .builtin .append,args:= #[s,x],argTypes:= #[t,t]}) (hs:a.eval s=v) (hx:a.eval x= .slice (some ⟨B,0,none⟩) m c)
  (ht:prog.underlying t=some (.slice e)) (hi:(prog.info? e).map (fun i=>(i.zero,i.size,i.bytes))=some (some z,size,bytes)) (hz:z.cells.size=size) (hsz:0<size) (hown:w.ownsRow base e size v n xs) (hB:Holds w B news) (hl:news.length=m * size) (h1: ∀u∈news,u.oneCell'=true)
  (hn:n+m<=4000000) (hby:bytes<=10000) (hbase:base<=w.heap.size)
  (h: ∀A c w',w'.ownsRow base e size (.slice A (n+m) c) (n+m) (xs++news)->w.grownBy w' v.ownBlock->Lq w v (.slice A (n+m) c)->wpList prog ops Q rest (a.put o.dst (.slice A (n+m) c)) w'):wpList prog ops Q (o::rest) a w:=by
 obtain⟨i0,hi,hz0,hz1,hz2⟩:=info_parts hi
 refine wpList_plain hgd fun K hK=> ?_
 obtain⟨v',w',hrun,h2,h3,h4⟩:=Jp w base t o.type e i0 _ size bytes ht hi hz0 hz1 hz2 hz hsz v n xs hown ⟨B,0,none⟩ m c news hl (fun j u hj=>by
  rw[Addr.add_mid]
  exact hB.2 j u hj) h1 (by unfold maxLen;omega) (Nat.le_trans (Nat.mul_le_mul hn hby) (by decide)) hbase
 obtain⟨A',c',rfl⟩:=Jf h2
 have hP:=hK _ _ (h A' c' w' h2 h3 h4)
 unfold Oper.wp
 simp[execOp,ho,resolve,invoke,builtin,hs,hx,hrun,Result.andThen]
 exact hP
theorem ZbI (off:Nat): ∀(vs:List Value) (j:Nat) (z:Array Value),off+j+vs.length<=z.size->
  ((vs.zipIdx j).foldl (fun cs (c,j)=>cs.setIfInBounds (off+j) c) z).toList=z.toList.take (off+j)++vs++z.toList.drop (off+j+vs.length)
 | [],j,z,h=>by simp
 |v::vs,j,z,h=>by
  simp only[List.length_cons] at h
  rw[List.zipIdx_cons,List.foldl_cons,ZbI off vs (j+1) (z.setIfInBounds (off+j) v) (by simp;omega)]
  have hj:off+j<z.toList.length:=by simp;omega
  have e1:(z.setIfInBounds (off+j) v).toList=z.toList.set (off+j) v:=by simp
  rw[e1,show off+(j+1)=off+j+1 by omega]
  rw[List.take_set,List.drop_set_of_lt (by omega),List.take_succ_eq_append_getElem hj]
  simp only[List.length_cons]
  rw[show off+j+1+vs.length=off+j+(vs.length+1) by omega]
  rw[List.set_append_right _ _ (by simp;omega)]
  have e2:off+j - (z.toList.take (off+j)).length=0:=by simp;omega
  rw[e2]
  simp
theorem ZbM (size:Nat) (z:Array Value) (v:Value) (hz:z.size=size) (hv:v.cells.size=size):Instr.fill (fun i=>some (i * size,size)) z [(0,v)]=some v.cells:=by
 have e:=ZbI 0 v.cells.toList 0 z (by simp;omega)
 unfold Instr.fill
 simp only[Nat.zero_mul]
 rw[if_neg (by simp;omega)]
 unfold Instr.fill
 congr 1
 apply Array.toList_inj.1
 have e3:v.cells.zipIdx.foldl (fun cs (c,j)=>cs.setIfInBounds (0+j) c) z=(v.cells.toList.zipIdx 0).foldl (fun cs (c,j)=>cs.setIfInBounds (0+j) c) z:=by
  rw[←Array.foldl_toList,Array.toList_zipIdx]
 rw[e3,e]
 simp
 omega
theorem Zai {t e:TypeId} {size bytes:Nat} {z v:Value} {cs:List Value} {x:Operand} {E:List Nat} {L:List (Nat×List Value)} (hw:Region.wanted o (yielded ops a.tmps)=true) (ho:o.op= .buildSlice t 1 #[(0,x)]) (hx:a.eval x=v)
  (ht:prog.underlying t=some (.slice e)) (hi:(prog.info? e).map (fun i=>(i.zero,i.size,i.bytes))=some (some z,size,bytes)) (hs1:size<=100) (hv:v.cells.toList=cs) (hc:cs.length=size) (h0:0<size) (hL:Hq w0 w E L)
  (h: ∀X B,B=w.heap.size->Hq w0 X E (L++ [(B,cs)])->Below w.heap.size w X->wpList prog ops Q rest (a.put o.dst (.slice (some ⟨B,0,none⟩) 1 1)) X):wpList prog ops Q (o::rest) a w:=by
 refine BigFrame.wpList_want hw fun K hK=> ?_
 obtain⟨i0,hi,hz0,hz1,hz2⟩:=info_parts hi
 have ev:v.cells=cs.toArray:=by rw[←hv]
 have es:v.cells.size=size:=by rw[ev];simpa using hc
 refine wp_buildSlice t e 1 _ ho cs.toArray i0 _ ht hi hz0 (by rw[hz1];omega) (by rw[hz1];omega) ?_ (hK _ _ (h _ _ rfl (hL.new cs e (by omega)) ((Below.refl _ _).alloc (Nat.le_refl _) _)))
 rw[hz1,←ev]
 simp only[List.map_toArray,List.map_cons,List.map_nil,hx]
 exact ZbM size _ v (by simp) es
theorem Zd (i:Nat) (dst:Option Tmp) {V:Value} {X:World} {rs:List Nat} (hi:ops[i]? =some o) (hd:o.dst=dst) (hw:Region.wanted o (yielded ops a.tmps)=true) (he:(execOp a.eval o).run prog w= .ok (.value V) X) (hSX:S X)
  (h:wpAnyH prog md ops Q S fuel (listed.setIfInBounds i true) (a.put dst V) X) (hs:AllReadyH prog md ops Q S fuel listed a w rs):AllReadyH prog md ops Q S fuel listed a w (i::rs):=by
 subst hd
 refine AllReadyH.cons hi (fun K hK=> ?_) hs
 rw[if_pos hw]
 unfold Oper.wp
 rw[he]
 exact hK.out _ _ hSX (fun _=>h)
theorem Qj (i:Nat) (dst:Option Tmp) {X:World} {rs:List Nat} (hi:ops[i]? =some o) (hd:o.dst=dst) (hw:Region.wanted o (yielded ops a.tmps)=true) (he:(execOp a.eval o).run prog w= .ok .skip X) (hSX:S X)
  (h:wpAnyH prog md ops Q S fuel (listed.setIfInBounds i true) (a.put dst undef) X) (hs:AllReadyH prog md ops Q S fuel listed a w rs):AllReadyH prog md ops Q S fuel listed a w (i::rs):=by
 subst hd
 refine AllReadyH.cons hi (fun K hK=> ?_) hs
 rw[if_pos hw]
 unfold Oper.wp
 rw[he]
 exact hK.out _ _ hSX (fun _=>h)
theorem ex_box {v:Value} {x:Operand} (t:TypeId) (cs:List Value) (ho:o.op= .box t x) (hx:a.eval x=v) (hv:v.cells.toList=cs):(execOp a.eval o).run prog w= .ok (.value (.pointer (some ⟨w.heap.size,0,none⟩))) (w.alloc (Obj.cells cs.toArray t)):=by
 have e:v.cells=cs.toArray:=by rw[←hv]
 have e2:(Instr.box t v).run prog w= .ok (.pointer (some ⟨w.heap.size,0,none⟩)) (w.alloc (Obj.cells cs.toArray t)):=by rw[←e];rfl
 unfold execOp
 simp only[ho,hx]
 simp[e2]
theorem ex_upd {m x y:Operand} {b n sz r:Nat} {F:KK->Option Nat} {k:KK} (ho:o.op= .mapUpdate 162 m x y) (hm:a.eval m= .map (some b)) (hx:a.eval x=k.agg) (hy:a.eval y=pv (some r)) (h:MapIs w b n sz F) (hk:OkK k) (hn:n<maxLen):
  ∃X,(execOp a.eval o).run prog w= .ok .skip X/\MapIs X b (n+1) (if (F k).isSome then sz else sz+1) (Oc F k (some r))/\Fr w X [b]:=by
 obtain⟨X,h1,h2,h3⟩:=h.store hk hn r
 refine⟨X, ?_,h2,Fr.grown h3.grown⟩
 unfold execOp
 simp only[ho,hm,hx,hy]
 simp[h1]
end
end
section
open Go Go.Proofs Go.Maps Go.RowKit
theorem Zba: ∀(l:List RR) (lo hi:Nat),l.Pairwise (fun a b=>a.n<b.n)->(∀r∈l,lo<=r.n/\r.n<=hi)->lo<=hi+1->lo+l.length<=hi+1
 | [],lo,hi,_,_,h=>by simpa using h
 |r::l,lo,hi,hp,hr,h=>by
  obtain⟨h1,h2⟩:=List.pairwise_cons.1 hp
  have h3:=hr r (by simp)
  have:=Zba l (r.n+1) hi h2 (fun q hq=>⟨h1 q hq,(hr q (by simp[hq])).2⟩) (by omega)
  simp only[List.length_cons]
  omega
theorem TT.Is.len {T:TT} {W:World} (h:T.Is W):T.rows.length<=T.last:=by
 have:=Zba T.rows 1 T.last h.rise h.num (by omega)
 omega
def TT.added (T:TT) (rv:Value) (R:Nat) (k:KK) (d:DD):TT:=⟨T.t,T.m,rv,T.rows++ [⟨R,k,d,T.last+1,false⟩],T.last+1⟩
theorem TT.added_live (T:TT) (rv:Value) (R:Nat) (k:KK) (d:DD):(T.added rv R k d).live=T.live++ [⟨R,k,d,T.last+1,false⟩]:=by
 simp[TT.added,TT.live]
theorem TT.added_find (T:TT) (rv:Value) (R:Nat) (k:KK) (d:DD) (hn:T.find k=none):(fun q=>((T.added rv R k d).find q).map (·.b))=Oc (fun q=>(T.find q).map (·.b)) k (some R):=by
 funext q
 unfold TT.find at *
 rw[TT.added_live,List.find?_append]
 by_cases e:q=k
 ·subst e
  rw[hn,Lz]
  simp
 ·rw[Kx e]
  have e2:([⟨R,k,d,T.last+1,false⟩]:List RR).find? (fun r=>decide (r.k=q))=none:=by
   simp
   exact fun h=>e h.symm
  rw[e2]
  simp
structure TT.Mid (T:TT) (W:World):Prop where
 map:MapIs W T.m T.last T.live.length (fun k=>(T.find k).map (·.b))
 own:OwnP W T.rv (T.rows.map (·.b))
 rows: ∀r∈T.rows,Holds W r.b r.cs
theorem TT.Is.mid {T:TT} {W:World} (h:T.Is W):T.Mid W:=⟨h.map,h.own,h.rows⟩
def TT.Part (T:TT) (b:Nat):Prop:=b=T.m∨T.rv.ownBlock=some b∨b∈T.rows.map (·.b)
theorem TT.Part.mem {T:TT} {b:Nat} (h:T.Part b):b∈T.blocks:=by
 simp only[TT.blocks,List.mem_cons,List.mem_append]
 rcases h with h|h|h
 ·exact .inr (.inl h)
 ·exact .inr (.inr (.inl (by rw[h];simp)))
 ·exact .inr (.inr (.inr h))
theorem TT.Part.ne {T:TT} {b:Nat} (h:T.Part b) (hnd:T.blocks.Nodup):b≠T.t:=by
 intro e
 subst e
 have h1:=(List.nodup_cons.1 hnd).1
 apply h1
 have:=h.mem
 simp only[List.mem_cons,List.mem_append]
 rcases h with h|h|h
 ·exact .inl h
 ·exact .inr (.inl (by rw[h];simp))
 ·exact .inr (.inr h)
theorem TT.Mid.block {T:TT} {W W':World} (h:T.Mid W) (he: ∀b,T.Part b->W'.heap[b]? =W.heap[b]?):T.Mid W':=
 ⟨h.map.block (he _ (.inl rfl)),h.own.block (fun g hg=>he g (.inr (.inl hg))),fun r hr=>(h.rows r hr).block (he _ (.inr (.inr (List.mem_map.2 ⟨r,hr,rfl⟩))))⟩
theorem TT.Mid.lt {T:TT} {W:World} (h:T.Mid W): ∀b,T.Part b->b<W.heap.size:=by
 intro b hb
 rcases hb with rfl|hb|hb
 ·exact h.map.lt
 ·exact h.own.lt b hb
 ·obtain⟨r,hr,rfl⟩:=List.mem_map.1 hb
  exact(h.rows r hr).lt (by simp[Dz])
theorem TT.Mid.fr {T:TT} {W W':World} {E:List Nat} (h:T.Mid W) (hf:Fr W W' E) (hE: ∀b,T.Part b->b ∉ E):T.Mid W':=h.block (fun b hb=>hf.block b (h.lt b hb) (hE b hb))
theorem TT.Mid.on {T:TT} {W W':World} (h:T.Mid W) (hb:Below W.heap.size W W'):T.Mid W':=h.block (fun b hb'=>hb.block b (h.lt b hb'))
theorem TT.Mid.drew {T:TT} {W:World} (h:T.Mid W):T.Mid W.drew:=h.block (fun _ _=>rfl)
theorem TT.Is.added {T:TT} {w X:World} {rv:Value} {R:Nat} {k:KK} {d:DD} (hT:T.Is w) (hn:T.find k=none) (hg:goodK k=true)
  (tab:Holds X T.t [.map (some T.m),rv, .int .u64 ((T.last+1:Nat):Int)]) (map:MapIs X T.m (T.last+1) (T.live.length+1) (Oc (fun q=>(T.find q).map (·.b)) k (some R))) (own:OwnP X rv (T.rows.map (·.b)++ [R]))
  (rows: ∀r∈T.rows,Holds X r.b r.cs) (new:Holds X R (RR.mk R k d (T.last+1) false).cs) (hR:w.heap.size<=R) (hrv: ∀g,rv.ownBlock=some g->(T.rv.ownBlock=some g∨w.heap.size<=g)/\g≠R):(T.added rv R k d).Is X:=by
 have hlt:=hT.lt
 refine⟨tab, ?_, ?_, ?_, ?_, ?_, ?_, ?_, ?_⟩
 ·rw[TT.added_find T rv R k d hn,TT.added_live,List.length_append]
  exact map
 ·simpa [TT.added] using own
 ·intro r hr
  rcases List.mem_append.1 (show r∈T.rows++ [_] from hr) with hr|hr
  ·exact rows r hr
  ·obtain rfl:r=⟨R,k,d,T.last+1,false⟩:=by simpa using hr
   exact new
 ·have hnd:=hT.nd
  unfold TT.blocks TT.added
  simp only[TT.blocks,List.nodup_cons,List.mem_cons,List.mem_append,List.nodup_append,List.map_append,List.map_cons,List.map_nil,not_or] at hnd ⊢
  obtain⟨⟨h1,h2,h3⟩,⟨h4,h5⟩,h6,h7,h8⟩:=hnd
  have l1:T.t<w.heap.size:=hlt _ (by simp[TT.blocks])
  have l2:T.m<w.heap.size:=hlt _ (by simp[TT.blocks])
  have l3: ∀b∈T.rows.map (·.b),b<w.heap.size:=fun b hb=>hlt _ (TT.Part.mem (.inr (.inr hb)))
  have hrv': ∀b∈rv.ownBlock.toList,(T.rv.ownBlock=some b∨w.heap.size<=b)/\b≠R:=fun b hb=>hrv b (by simpa using hb)
  refine⟨⟨h1,fun hb=> ?_,h3, ?_⟩,⟨fun hb=> ?_,h5, ?_⟩, ?_,⟨h7,by simp, ?_⟩, ?_⟩
  ·rcases (hrv' _ hb).1 with h|h
   ·exact h2 (by rw[h];simp)
   ·omega
  ·simp;omega
  ·rcases (hrv' _ hb).1 with h|h
   ·exact h4 (by rw[h];simp)
   ·omega
  ·simp;omega
  ·cases rv.ownBlock<;>simp
  ·intro a ha b hb
   have:=l3 a ha
   obtain rfl:b=R:=by simpa using hb
   omega
  ·intro a ha b hb
   rcases hb with hb|hb
   ·rcases (hrv' _ ha).1 with h|h
    ·exact h8 a (by rw[h];simp) b hb
    ·have:=l3 b hb;omega
   ·obtain rfl:b=R:=by simpa using hb
    exact(hrv' _ ha).2
 ·show (T.rows++ [_]).Pairwise _
  rw[List.pairwise_append]
  refine⟨hT.rise,by simp,fun a ha b hb=> ?_⟩
  obtain rfl:b=⟨R,k,d,T.last+1,false⟩:=by simpa using hb
  have:=(hT.num a ha).2
  show a.n<T.last+1
  omega
 ·intro r hr
  rcases List.mem_append.1 (show r∈T.rows++ [_] from hr) with hr|hr
  ·have:=hT.num r hr
   show 1<=r.n/\r.n<=T.last+1
   omega
  ·obtain rfl:r=⟨R,k,d,T.last+1,false⟩:=by simpa using hr
   show 1<=T.last+1/\T.last+1<=T.last+1
   omega
 ·rw[TT.added_live,List.pairwise_append]
  refine⟨hT.keys,by simp,fun a ha b hb=> ?_⟩
  obtain rfl:b=⟨R,k,d,T.last+1,false⟩:=by simpa using hb
  have:=List.find?_eq_none.1 hn a ha
  simpa using this
 ·rw[TT.added_live]
  intro r hr
  rcases List.mem_append.1 hr with hr|hr
  ·exact hT.good r hr
  ·obtain rfl:r=⟨R,k,d,T.last+1,false⟩:=by simpa using hr
   exact hg
end
section
open Go Go.Proofs Go.Maps Go.RowKit Tryz
theorem rv_new {T:TT} {w X:World} {v:Value} {R:Nat} (hT:T.Is w) (hf:Lq X T.rv v) (hR:w.heap.size<=R) (hR2:R<X.heap.size) (hs:w.heap.size<=X.heap.size): ∀g,v.ownBlock=some g->(T.rv.ownBlock=some g∨w.heap.size<=g)/\g≠R:=by
 intro g hg
 rcases hf with h|h
 ·rw[hg] at h
  have:=hT.lt g (TT.Part.mem (.inr (.inl h.symm)))
  exact⟨.inl h.symm,by omega⟩
 ·rw[hg] at h
  have:=Option.some.inj h
  exact⟨.inr (by omega),by omega⟩
theorem not_rv {T:TT} {w:World} (hT:T.Is w) {b:Nat} (hb:b=T.t∨w.heap.size<=b):b ∉ T.rv.ownBlock.toList:=by
 intro hm
 have hp:T.Part b:= .inr (.inl (by simpa using hm))
 rcases hb with hb|hb
 ·exact hp.ne hT.nd hb
 ·have:=hT.lt b hp.mem;omega
theorem not_m {T:TT} {w:World} (hT:T.Is w) {b:Nat} (hb:b=T.t∨w.heap.size<=b):b ∉ [T.m]:=by
 intro hm
 have hp:T.Part b:= .inl (by simpa using hm)
 rcases hb with hb|hb
 ·exact hp.ne hT.nd hb
 ·have:=hT.lt b hp.mem;omega
theorem four {T:TT} {n R B:Nat} {c1 c2 c3 c4:List Value} {q:Nat×List Value} (hq:q∈ [(T.t,c1),(n,c2),(R,c3),(B,c4)]) (hR:n<=R) (hB:n<=B):q.1=T.t∨n<=q.1:=by
 simp only[List.mem_cons,List.not_mem_nil,or_false] at hq
 rcases hq with rfl|rfl|rfl|rfl
 ·exact .inl rfl
 ·exact .inr (Nat.le_refl _)
 ·exact .inr hR
 ·exact .inr hB
def TT.Mid2 (T:TT) (v:Value) (R:Nat) (W:World):Prop:=MapIs W T.m T.last T.live.length (fun k=>(T.find k).map (·.b))/\OwnP W v (T.rows.map (·.b)++ [R])/\ ∀r∈T.rows,Holds W r.b r.cs
theorem TT.nd_rv {T:TT} (hnd:T.blocks.Nodup):(∀b,T.rv.ownBlock=some b->b≠T.m/\b ∉ T.rows.map (·.b)):=by
 intro b hb
 simp only[TT.blocks,List.nodup_cons,List.mem_cons,List.mem_append,List.nodup_append,not_or] at hnd
 obtain⟨⟨h1,h2,h3⟩,⟨h4,h5⟩,h6,h7,h8⟩:=hnd
 refine⟨fun e=>h4 (by rw[←e,hb];simp),fun hm=>h8 b (by rw[hb];simp) b hm rfl⟩
theorem TT.Mid.app {T:TT} {W W':World} {v:Value} {R:Nat} (h:T.Mid W) (hnd:T.blocks.Nodup) (hf:Fr W W' T.rv.ownBlock.toList) (ho:W'.ownsRow 0 195 1 v ((T.rows.map (·.b)).length+1) (My (T.rows.map (·.b))++ [.pointer (some ⟨R,0,none⟩)])):T.Mid2 v R W':=by
 have hn:=TT.nd_rv hnd
 refine⟨h.map.block (hf.block _ (h.lt _ (.inl rfl)) (fun hm=>(hn T.m (by simpa using hm)).1 rfl)), ?_,fun r hr=>(h.rows r hr).block (hf.block _ (h.lt _ (.inr (.inr (List.mem_map.2 ⟨r,hr,rfl⟩)))) (fun hm=>(hn r.b (by simpa using hm)).2 (List.mem_map.2 ⟨r,hr,rfl⟩)))⟩
 unfold OwnP
 rw[List.length_append]
 simpa [My] using ho
theorem TT.Mid2.block {T:TT} {v:Value} {R:Nat} {W W':World} (h:T.Mid2 v R W) (he: ∀b,(b=T.m∨v.ownBlock=some b∨b∈T.rows.map (·.b))->W'.heap[b]? =W.heap[b]?):T.Mid2 v R W':=
 ⟨h.1.block (he _ (.inl rfl)),h.2.1.block (fun g hg=>he g (.inr (.inl hg))),fun r hr=>(h.2.2 r hr).block (he _ (.inr (.inr (List.mem_map.2 ⟨r,hr,rfl⟩))))⟩
theorem TT.Mid2.drew {T:TT} {v:Value} {R:Nat} {W:World} (h:T.Mid2 v R W):T.Mid2 v R W.drew:=h.block (fun _ _=>rfl)
theorem TT.Mid2.lt {T:TT} {v:Value} {R:Nat} {W:World} (h:T.Mid2 v R W): ∀b,(b=T.m∨v.ownBlock=some b∨b∈T.rows.map (·.b))->b<W.heap.size:=by
 intro b hb
 rcases hb with rfl|hb|hb
 ·exact h.1.lt
 ·exact h.2.1.lt b hb
 ·obtain⟨r,hr,rfl⟩:=List.mem_map.1 hb
  exact(h.2.2 r hr).lt (by simp[Dz])
theorem TT.Mid2.fr {T:TT} {v:Value} {R:Nat} {w W W':World} (h:T.Mid2 v R W) (hf:Fr W W' [T.t]) (hT:T.Is w) (hv: ∀g,v.ownBlock=some g->(T.rv.ownBlock=some g∨w.heap.size<=g)/\g≠R):T.Mid2 v R W':=by
 refine h.block (fun b hb=>hf.block b (h.lt b hb) ?_)
 intro hm
 obtain rfl:b=T.t:=by simpa using hm
 rcases hb with hb|hb|hb
 ·exact TT.Part.ne (.inl hb) hT.nd rfl
 ·rcases (hv _ hb).1 with h1|h1
  ·exact TT.Part.ne (.inr (.inl h1)) hT.nd rfl
  ·have:=hT.lt T.t (by simp[TT.blocks]);omega
 ·exact TT.Part.ne (.inr (.inr hb)) hT.nd rfl
theorem TT.Mid2.fin {T:TT} {v:Value} {R:Nat} {w W X:World} (h:T.Mid2 v R W) (hf:Fr W X [T.m]) (hT:T.Is w) (hv: ∀g,v.ownBlock=some g->(T.rv.ownBlock=some g∨w.heap.size<=g)/\g≠R):OwnP X v (T.rows.map (·.b)++ [R])/\ ∀r∈T.rows,Holds X r.b r.cs:=by
 have hn:=TT.nd_rv hT.nd
 have hm:T.m ∉ T.rows.map (·.b):=by
  have hnd:=hT.nd
  simp only[TT.blocks,List.nodup_cons,List.mem_cons,List.mem_append,not_or] at hnd
  exact hnd.2.1.2
 refine⟨h.2.1.block (fun g hg=>hf.block g (h.lt g (.inr (.inl hg))) ?_),fun r hr=>(h.2.2 r hr).block (hf.block r.b (h.lt _ (.inr (.inr (List.mem_map.2 ⟨r,hr,rfl⟩)))) ?_)⟩
 ·intro e
  obtain rfl:g=T.m:=by simpa using e
  rcases (hv _ hg).1 with h1|h1
  ·exact(hn _ h1).1 rfl
  ·have:=hT.lt T.m (by simp[TT.blocks]);omega
 ·intro e
  have e2:r.b=T.m:=by simpa using e
  exact hm (e2▸List.mem_map.2 ⟨r,hr,rfl⟩)
theorem MapIs.drew {w:World} {b n sz:Nat} {F:KK->Option Nat} (h:MapIs w b n sz F):MapIs w.drew b n sz F:=h.block rfl
theorem gupd {md:Region.Mode} {ops:Array Oper} {Q:Exit->Act->World->Prop} {S:World->Prop} {w:World} {fuel:Nat} {listed:Array Bool} {a:Act} {o:Oper} (i:Nat) {m x y:Operand} {b n sz r:Nat} {F:KK->Option Nat} {k:KK} {rs:List Nat} (hi:ops[i]? =some o) (hd:o.dst=none) (hw:Region.wanted o (yielded ops a.tmps)=true)
  (ho:o.op= .mapUpdate 162 m x y) (hm:a.eval m= .map (some b)) (hx:a.eval x=k.agg) (hy:a.eval y=pv (some r)) (h:MapIs w b n sz F) (hk:OkK k) (hn:n<maxLen) (hon: ∀X,Fr w X [b]->S X)
  (hh: ∀X,MapIs X b (n+1) (if (F k).isSome then sz else sz+1) (Oc F k (some r))->Fr w X [b]->wpAnyH prog md ops Q S fuel (listed.setIfInBounds i true) (a.put none undef) X) (hs:AllReadyH prog md ops Q S fuel listed a w rs):AllReadyH prog md ops Q S fuel listed a w (i::rs):=by
 obtain⟨X,h1,h2,h3⟩:=ex_upd ho hm hx hy h hk hn
 exact Qj i none hi hd hw h1 (hon X h3) (hh X h2 h3) hs
theorem Xn:(prog.info? 195).map (fun i=>(i.zero,i.size,i.bytes))=some (some (.pointer none),1,8):=by kernel_rfl
theorem siz71:(prog.info? 105).map (·.size)=some 1:=by kernel_rfl
theorem siz70:(prog.info? 163).map (·.size)=some 1:=by kernel_rfl
theorem ZaM {o:Oper} {a:Act} {w:World} {x:Operand} {n:Nat} (ho:o.op= .binOp .add 105 x (.const (.int .u64 1)) 105) (hx:a.eval x= .int .u64 (n:Nat)) (hc:a.eval (.const (.int .u64 1))= .int .u64 1) (hn:n<4000000):(execOp a.eval o).run prog w= .ok (.value (.int .u64 ((n:Int)+1))) w:=by
 unfold execOp
 simp only[ho,hx,hc]
 have e:IntKind.u64.wrap ((n:Int)+1)=(n:Int)+1:=by
  rw[IntKind.wrap_u64]
  omega
 simp[go_sem,eqGuard,underlying105,e]
theorem add34 (T:TT) (k:KK) (d:DD) (w:World) (hT:T.Is w) (hk:OkK k) (hg:goodK k=true) (hn:T.find k=none) (hl:T.last<4000000):Calls prog 115 #[.pointer (some ⟨T.t,0,none⟩), .agg (k.cs++d.cs).toArray] w fun e w'=>e= .returned (.tuple #[])/\ ∃rv R,(T.added rv R k d).Is w'/\Fr w w' T.blocks/\w.heap.size<=R/\(∀g,rv.ownBlock=some g->T.rv.ownBlock=some g∨w.heap.size<=g):=by
 have hlen:=hT.len
 have hlt:=hT.lt
 have LL:=Ab (((Hq.nil w T.blocks).add hT.tab (Nat.succ_pos _) (fun q hq=>by cases hq)).new (k.cs++d.cs) 50 (Nat.succ_pos _))
 have MM:=Ab (hT.mid.on ((Below.refl _ _).alloc (Nat.le_refl _) (Obj.cells (k.cs++d.cs).toArray 50)))
 have hl2:Hid (T.last<4000000):=Ab hl
 have HH:=Ab hT
 have hnd:=Ab hT.nd
 have hlen2:=Ab hlen
 have hlt2:=Ab hlt
 have hk2:=Ab hk
 have hn2:=Ab hn
 have hg2:=Ab hg
 clear hT hlen hlt hl hk hn hg
 go_enter func115,ntmps115
 go_wp2_with (first|go_skip|(refine rd rfl (Ag 105 isAgg105 rfl rfl ((Aa LL).get 0 rfl) rfl) ?_)|(refine rd rfl (ZaM rfl rfl rfl (Aa hl2)) ?_)|((refine st (vs:= [.int .u64 ((T.last:Int)+1)]) 0 105 (by rfl) rfl rfl rfl rfl (by simp[Value.oneCell']) siz71 (Aa LL) rfl (by simp[TT.cs,Bz]) (Or.inl (List.mem_cons_self ..)) ?_);intro w3 L3 hf3 hs3;replace LL:=Ab L3;replace MM:=Ab ((Aa MM).fr hf3 (fun b hb=>by simpa using hb.ne (Aa hnd)));clear L3 hf3 hs3;simp only[nn]))
 obtain⟨R,hRe⟩: ∃R,R=w3.drew.heap.size:=⟨_,rfl⟩
 refine wp_region_held_drew (P:=prog) (S:=fun X=>Hq w X T.blocks [(T.t, [.map (some T.m),T.rv, .int .u64 ((T.last:Int)+1)]),(w.heap.size,(k.cs++d.cs))]/\T.Mid X) (by kernel_rfl) ⟨(Aa LL).drew,(Aa MM).drew⟩ (fun hS0=> ?_)
 refine y1 0 (some 12) (.agg (k.cs++d.cs).toArray) rfl (fun X hX=>Am (vs:=(k.cs++d.cs)) 50 20 row58 siz58 rfl rfl (hX.1.get 1 rfl) rfl rfl) hS0 ?_
 refine y0 1 (some 13) (.pointer (some ⟨T.t,0,none⟩)) rfl hS0 ?_
 refine y0 2 (some 14) (.pointer (some ⟨T.t,0,none⟩)) rfl hS0 ?_
 refine y0 3 (some 15) (.pointer (some ⟨T.t,2,none⟩)) rfl hS0 ?_
 refine y1 4 (some 16) (.int .u64 ((T.last:Int)+1)) rfl (fun X hX=>Ag 105 isAgg105 rfl rfl (hX.1.get 0 rfl) rfl) hS0 ?_
 refine y0 5 (some 17) (.agg (RR.mk R k d (T.last+1) false).cs.toArray) rfl hS0 ?_
 have bl:=(Below.refl w3.drew.heap.size w3.drew).alloc (Nat.le_refl _) (Obj.cells (RR.mk R k d (T.last+1) false).cs.toArray 198)
 have L2:=hS0.1.new (RR.mk R k d (T.last+1) false).cs 198 (Nat.succ_pos _)
 refine wpAnyH_ready (rs:= [6]) (by kernel_rfl) (by simp) (Zd 6 (some 18) rfl (by kernel_rfl) (by kernel_rfl) (ex_box 198 (RR.mk R k d (T.last+1) false).cs rfl rfl rfl) (And.intro (hS0.1.on bl) (hS0.2.on bl)) ?_ AllReadyH.nil)
 have hR:=Ab (Nat.le_trans hS0.1.fr.size (Nat.le_of_eq hRe.symm))
 replace hS0:=And.intro (hS0.1.on bl) (hS0.2.on bl)
 simp only[nn]
 rw[←hRe] at L2 ⊢
 clear bl
 generalize w3.drew.alloc (Obj.cells (RR.mk R k d (T.last+1) false).cs.toArray 198)=w4 at *
 clear hRe
 refine y0 7 (some 4) (.pointer (some ⟨R,0,none⟩)) rfl hS0 ?_
 refine dn ?_
 try simp only[nn]
 replace MM:=Ab hS0.2
 replace LL:=Ab L2
 clear hS0 L2
 go_wp2_with (first|go_skip|(refine rd rfl (Ag 163 isAgg163 rfl rfl ((Aa LL).get 0 rfl) rfl) ?_)|((refine Zai (t:=163) (e:=195) (size:=1) (bytes:=8) (z:= .pointer none) (cs:= [.pointer (some ⟨R,0,none⟩)]) (by rfl) rfl rfl underlying163 Xn (by decide) rfl rfl (by decide) (Aa LL) ?_);intro w5 B5 hB5 L5 hb5;have hB5:=Ab (Nat.le_trans (Aa LL).fr.size (Nat.le_of_eq hB5.symm));replace LL:=Ab L5;replace MM:=Ab ((Aa MM).on hb5);clear L5 hb5;simp only[nn])|((refine Pg (v:=T.rv) rfl rfl rfl rfl underlying163 Xn rfl (by decide) (Aa MM).own ((Aa LL).get 3 rfl) rfl (by simp[Value.oneCell']) (by have h1:=Aa hlen2;have h2:=Aa hl2;simp;omega) (by decide) (Nat.zero_le _) ?_);intro A6 c6 w6 ho6 hg6 hf6;have V6:=Ab (rv_new (Aa HH) hf6 (Aa hR) ((Aa LL).lt (R,RR.cs ⟨R,k,d,T.last+1,false⟩) (by simp)) (Aa LL).fr.size);have M6:=Ab ((Aa MM).app (Aa hnd) (Fr.grown hg6) ho6);replace LL:=Ab ((Aa LL).step (Fr.grown hg6) (fun b hb=>Or.inl (TT.Part.mem (.inr (.inl (by simpa using hb))))) (fun q hq=>not_rv (Aa HH) (four hq (Aa hR) (Aa hB5))));clear MM ho6 hg6 hf6;simp only[nn])|((refine st (vs:= [.slice A6 _ c6]) 0 163 (by rfl) rfl rfl rfl rfl (by simp[Value.oneCell']) siz70 (Aa LL) rfl (by simp[TT.cs,Bz]) (Or.inl (List.mem_cons_self ..)) ?_);intro w7 L7 hf7 hs7;replace LL:=Ab L7;replace M6:=Ab ((Aa M6).fr hf7 (Aa HH) (Aa V6));clear L7 hf7 hs7;simp only[nn]))
 rw[List.length_map] at LL M6 V6 ⊢
 refine wp_region_held_drew (P:=prog) (S:=fun X=>Hq w X T.blocks [(T.t, [.map (some T.m), .slice A6 (T.rows.length+1) c6, .int .u64 ((T.last:Int)+1)]),(w.heap.size,(k.cs++d.cs)),(R,(RR.mk R k d (T.last+1) false).cs),(B5, [.pointer (some ⟨R,0,none⟩)])]) (by kernel_rfl) (Aa LL).drew (fun hS0=> ?_)
 refine y0 0 (some 29) (.pointer (some ⟨T.t,0,none⟩)) rfl hS0 ?_
 refine y0 1 (some 30) (.pointer (some ⟨T.t,0,none⟩)) rfl hS0 ?_
 refine y0 2 (some 31) (.pointer (some ⟨T.t,0,none⟩)) rfl hS0 ?_
 refine y1 3 (some 32) (.map (some T.m)) rfl (fun X hX=>Ag 162 isAgg162 rfl rfl (hX.get 0 rfl) rfl) hS0 ?_
 refine y0 4 (some 33) (.pointer (some ⟨w.heap.size,0,none⟩)) rfl hS0 ?_
 refine y1 5 (some 34) (k.agg) rfl (fun X hX=>Am (vs:=k.cs) 45 2 Gm Jr rfl rfl (hX.get 1 rfl) rfl rfl) hS0 ?_
 refine y0 6 (some 35) (.pointer (some ⟨R,0,none⟩)) rfl hS0 ?_
 refine wpAnyH_ready (rs:= [7]) (by kernel_rfl) (by simp) (gupd (r:=R) 7 rfl (by kernel_rfl) (by kernel_rfl) rfl rfl rfl rfl (Aa M6).1.drew (Aa hk2) (by have h2:=Aa hl2;unfold maxLen;omega) (fun X hX=>hS0.step hX (fun b hb=>Or.inl (by obtain rfl:b=T.m:=(by simpa using hb);exact TT.Part.mem (.inl rfl))) (fun q hq=>not_m (Aa HH) (four hq (Aa hR) (Aa hB5)))) ?_ AllReadyH.nil)
 intro X hM hX
 replace hS0:=hS0.step hX (fun b hb=>Or.inl (by obtain rfl:b=T.m:=(by simpa using hb);exact TT.Part.mem (.inl rfl))) (fun q hq=>not_m (Aa HH) (four hq (Aa hR) (Aa hB5)))
 have hM2:Hid (MapIs X T.m (T.last+1) (T.live.length+1) (Oc (fun q=>(T.find q).map (·.b)) k (some R))):=by
  have e:=Aa hn2
  have:=hM
  simp only[e,Option.map_none,Option.isSome_none] at this
  exact Ab this
 have hF:=Ab ((Aa M6).drew.fin hX (Aa HH) (Aa V6))
 clear hM hX M6
 simp only[nn]
 refine dn ?_
 try simp only[nn]
 have LS:=Ab hS0
 clear hS0 LL
 go_wp2
 go_end0
 refine⟨rfl, .slice A6 (T.rows.length+1) c6,R, ?_,(Aa LS).fr,Aa hR,fun g hg=>((Aa V6) g hg).1⟩
 exact TT.Is.added (Aa HH) (Aa hn2) (Aa hg2) ((Aa LS).get 0 rfl) (Aa hM2) (Aa hF).1 (Aa hF).2 ((Aa LS).get 2 rfl) (Aa hR) (Aa V6)
end
section
open Go Go.Proofs Go.Maps Go.RowKit
def Oo (b:Nat) (d:DD) (r:RR):RR:=if r.b=b then {r with d:=d} else r
theorem Lr (b:Nat) (d:DD) (r:RR):(Oo b d r).b=r.b/\(Oo b d r).k=r.k/\(Oo b d r).n=r.n/\(Oo b d r).gone=r.gone:=by
 unfold Oo
 split<;>simp
def TT.upd (T:TT) (b:Nat) (d:DD):TT:={T with rows:=T.rows.map (Oo b d)}
theorem TT.upd_live (T:TT) (b:Nat) (d:DD):(T.upd b d).live=T.live.map (Oo b d):=by
 unfold TT.live TT.upd
 simp only[List.filter_map]
 congr 1
 apply List.filter_congr
 intro r _
 simp[(Lr b d r).2.2.2]
theorem TT.upd_find (T:TT) (b:Nat) (d:DD) (k:KK):(T.upd b d).find k=(T.find k).map (Oo b d):=by
 unfold TT.find
 rw[TT.upd_live,List.find?_map]
 congr 1
 congr 1
 funext r
 simp[(Lr b d r).2.1]
theorem TT.upd_bs (T:TT) (b:Nat) (d:DD):(T.upd b d).rows.map (·.b)=T.rows.map (·.b):=by
 unfold TT.upd
 simp only[List.map_map]
 apply List.map_congr_left
 intro r _
 exact(Lr b d r).1
theorem TT.upd_blocks (T:TT) (b:Nat) (d:DD):(T.upd b d).blocks=T.blocks:=by
 unfold TT.blocks
 rw[TT.upd_bs]
 rfl
theorem TT.Is.upd {T:TT} {w X:World} {r:RR} {d:DD} (hT:T.Is w) (hr:r∈T.rows) (hf:Fr w X [r.b]) (hn:Holds X r.b (r.k.cs++(d.cs++ [.int .u64 r.n, .bool r.gone]))):(T.upd r.b d).Is X:=by
 have hnd:=hT.nd
 simp only[TT.blocks,List.nodup_cons,List.mem_cons,List.mem_append,List.nodup_append,not_or] at hnd
 obtain⟨⟨h1,h2,h3⟩,⟨h4,h5⟩,h6,h7,h8⟩:=hnd
 have hm:r.b∈T.rows.map (·.b):=List.mem_map.2 ⟨r,hr,rfl⟩
 have hlt:=hT.lt
 have part: ∀b∈T.blocks,b≠r.b->X.heap[b]? =w.heap[b]? :=fun b hb hne=>hf.block b (hlt b hb) (by simpa using hne)
 refine⟨?_, ?_, ?_, ?_, ?_, ?_, ?_, ?_, ?_⟩
 ·exact hT.tab.block (part _ (by simp[TT.blocks]) (fun e=>h3 (e▸hm)))
 ·have e:(fun k=>((T.upd r.b d).find k).map (·.b))=fun k=>(T.find k).map (·.b):=by
   funext k
   rw[TT.upd_find]
   cases T.find k with
   |none=>rfl
   |some q=>simp[(Lr r.b d q).1]
  rw[e,TT.upd_live,List.length_map]
  exact hT.map.block (part _ (by simp[TT.blocks]) (fun e=>h5 (by rw[show T.m=r.b from e];exact hm)))
 ·rw[TT.upd_bs]
  exact hT.own.block (fun g hg=>part _ (TT.Part.mem (.inr (.inl hg))) (fun e=>h8 g (by rw[hg];simp) r.b hm e))
 ·intro q hq
  obtain⟨p,hp,rfl⟩:=List.mem_map.1 (show q∈T.rows.map (Oo r.b d) from hq)
  by_cases e:p.b=r.b
  ·have hpr:p=r:=by
    have:=hT.rise
    rcases List.getElem?_of_mem hp with ⟨i,hi⟩
    rcases List.getElem?_of_mem hr with ⟨j,hj⟩
    have e1:(T.rows.map (·.b))[i]? =some r.b:=by simp[hi,e]
    have e2:(T.rows.map (·.b))[j]? =some r.b:=by simp[hj]
    have hij:=(List.getElem?_inj (by simpa using (List.getElem?_eq_some_iff.1 hi).1) h7).1 (e1.trans e2.symm)
    subst hij
    rw[hi] at hj
    exact Option.some.inj hj
   subst hpr
   unfold Oo
   rw[if_pos rfl]
   exact hn
  ·unfold Oo
   rw[if_neg e]
   exact(hT.rows p hp).block (part _ (TT.Part.mem (.inr (.inr (List.mem_map.2 ⟨p,hp,rfl⟩)))) e)
 ·rw[TT.upd_blocks]
  exact hT.nd
 ·show (T.rows.map (Oo r.b d)).Pairwise _
  rw[List.pairwise_map]
  exact hT.rise.imp (fun {a b} h=>by rw[(Lr r.b d a).2.2.1,(Lr r.b d b).2.2.1];exact h)
 ·intro q hq
  obtain⟨p,hp,rfl⟩:=List.mem_map.1 (show q∈T.rows.map (Oo r.b d) from hq)
  rw[(Lr r.b d p).2.2.1]
  exact hT.num p hp
 ·rw[TT.upd_live,List.pairwise_map]
  exact hT.keys.imp (fun {a b} h=>by rw[(Lr r.b d a).2.1,(Lr r.b d b).2.1];exact h)
 ·rw[TT.upd_live]
  intro q hq
  obtain⟨p,hp,rfl⟩:=List.mem_map.1 hq
  rw[(Lr r.b d p).2.1]
  exact hT.good p hp
end
section
open Go Go.Proofs Go.Maps Go.RowKit Tryz
theorem isNaN82 (x:Nat) (w:World):Calls prog 196 #[.int .u64 x] w fun e w'=>e= .returned (.bool false)/\w'=w:=by
 go_enter func196,ntmps196
 go_wp2
 go_ret
 simp
theorem cmp71 (x y:Nat) (w:World):Calls prog 192 #[.int .u64 x, .int .u64 y] w fun e w'=>e= .returned (.int .i64 (if x<y then -1 else if y<x then 1 else 0))/\w'=w:=by
 have H1:=Ab (fun z:Nat=>isNaN82 z w)
 by_cases h1:x<y
 ·rw[if_pos h1]
  have h1':(x:Int)<(y:Int):=by omega
  go_enter func192,ntmps192
  go_wp2_with fail
  refine((Aa H1) x).mono ?_
  rintro _ _ ⟨rfl,rfl⟩
  go_wp2_with fail
  refine((Aa H1) y).mono ?_
  rintro _ _ ⟨rfl,rfl⟩
  go_wp2
  go_ret
  exact⟨rfl,rfl⟩
 ·rw[if_neg h1]
  have h1': ¬(x:Int)<(y:Int):=by omega
  by_cases h2:y<x
  ·rw[if_pos h2]
   have h2':(y:Int)<(x:Int):=by omega
   go_enter func192,ntmps192
   go_wp2_with fail
   refine((Aa H1) x).mono ?_
   rintro _ _ ⟨rfl,rfl⟩
   go_wp2_with fail
   refine((Aa H1) y).mono ?_
   rintro _ _ ⟨rfl,rfl⟩
   go_wp2
   go_ret
   exact⟨rfl,rfl⟩
  ·rw[if_neg h2]
   have h2': ¬(y:Int)<(x:Int):=by omega
   go_enter func192,ntmps192
   go_wp2_with fail
   refine((Aa H1) x).mono ?_
   rintro _ _ ⟨rfl,rfl⟩
   go_wp2_with fail
   refine((Aa H1) y).mono ?_
   rintro _ _ ⟨rfl,rfl⟩
   go_wp2
   go_ret
   exact⟨rfl,rfl⟩
def cu (x y:Nat):Int:=if x<y then -1 else if y<x then 1 else 0
theorem Ys (r:RR) (y:Nat) (w:World) (h:Holds w r.b r.cs):Calls prog 187 #[.pointer (some ⟨r.b,0,none⟩), .int .u64 y] w fun e w'=>e= .returned (.int .i64 (cu r.n y))/\w'=w:=by
 have H1:Hid (Calls prog 192 #[.int .u64 r.n, .int .u64 y] w fun e w'=>e= .returned (.int .i64 (cu r.n y))/\w'=w):=Ab (cmp71 r.n y w)
 generalize cu r.n y=c at *
 have HR:=Ab h
 clear h
 go_enter func187,ntmps187
 go_wp2_with (first|go_skip|(refine rd rfl (Ag 105 isAgg105 rfl rfl (Aa HR) rfl) ?_))
 refine(Aa H1).mono ?_
 rintro _ _ ⟨rfl,rfl⟩
 go_wp2
 go_ret
 exact⟨rfl,rfl⟩
