import Derived.Test.YthcmamjpfigdfaaGreatDoorQn
import Derived.Test.YthcmamjpfigdfaaGreatDoorQr
import Derived.Test.YthcmamjpfigdfaaGreatDoorQs
import Derived.Carry
set_option linter.all false
namespace Go.Proofs.YthcmamjpfigdfaaGreatDoor
set_option maxRecDepth 100000
set_option maxHeartbeats 0
section
open Go Go.Proofs Go.Maps Go.RowKit
structure Fr (w X:World) (E:List Nat):Prop where
 os:X.os=w.os
 tape:X.tape=w.tape
 output:X.output=w.output
 size:w.heap.size<=X.heap.size
 block: ∀b,b<w.heap.size->b ∉ E->X.heap[b]? =w.heap[b]?
theorem Fr.refl (w:World) (E:List Nat):Fr w w E:=⟨rfl,rfl,rfl,Nat.le_refl _,fun _ _ _=>rfl⟩
theorem Fr.trans {w X Y:World} {E E':List Nat} (h:Fr w X E) (k:Fr X Y E') (hE: ∀b∈E',b∈E∨w.heap.size<=b):Fr w Y E:=
 ⟨k.os.trans h.os,k.tape.trans h.tape,k.output.trans h.output,Nat.le_trans h.size k.size,fun b hb he=>
  (k.block b (Nat.lt_of_lt_of_le hb h.size) (fun he'=>(hE b he').elim he (fun h2=>by omega))).trans (h.block b hb he)⟩
theorem Fr.of_below {w X:World} (h:Below w.heap.size w X) (E:List Nat):Fr w X E:=⟨h.os,h.tape,h.output,h.size,fun b hb _=>h.block b hb⟩
theorem Fr.below {w X:World} (h:Fr w X []):Below w.heap.size w X:=⟨h.os,h.tape,h.output,h.size,fun b hb=>h.block b hb (by simp)⟩
theorem Fr.on {w X Y:World} {E:List Nat} (h:Fr w X E) (k:Below X.heap.size X Y):Fr w Y E:=h.trans (Fr.of_below k []) (by simp)
theorem Fr.mono {w X:World} {E E':List Nat} (h:Fr w X E) (hE: ∀b∈E,b∈E'∨w.heap.size<=b):Fr w X E':=(Fr.refl w E').trans h hE
theorem Fr.drew {w X:World} {E:List Nat} (h:Fr w X E):Fr w X.drew E:=⟨h.os,h.tape,h.output,h.size,h.block⟩
theorem Jl (b:Nat): ∀(vs:List Value) (o:Nat) (X:World),(X.setCells b o vs).os=X.os/\(X.setCells b o vs).tape=X.tape/\(X.setCells b o vs).output=X.output
 | [],_,_=>⟨rfl,rfl,rfl⟩
 |v::vs,o,X=>by
  obtain⟨h1,h2,h3⟩:=Jl b vs (o+1) (X.setCell ⟨b,o,none⟩ v)
  rw[World.setCells]
  exact⟨h1,h2,h3⟩
theorem Fr.setCells (X:World) (b p:Nat) (vs:List Value):Fr X (X.setCells b p vs) [b]:=
 ⟨(Jl b vs p X).1,(Jl b vs p X).2.1,(Jl b vs p X).2.2,by rw[Eu];exact Nat.le_refl _,fun g _ hg=>Gj b vs p X g (by simpa using hg)⟩
theorem Fr.grown {X Y:World} {row:Option Nat} (h:X.grownBy Y row):Fr X Y row.toList:=
 ⟨h.os,h.tape,h.output,h.size,fun b hb hE=>h.block b hb (fun e=>hE (by rw[←e];simp))⟩
structure Hq (w X:World) (E:List Nat) (L:List (Nat×List Value)):Prop where
 fr:Fr w X E
 all: ∀q∈L,Holds X q.1 q.2/\0<q.2.length
 nd:(L.map (·.1)).Nodup
theorem Hq.nil (w:World) (E:List Nat):Hq w w E []:=⟨Fr.refl _ _,(fun q hq=>by cases hq),by simp⟩
theorem Hq.lt {w X:World} {E:List Nat} {L:List (Nat×List Value)} (h:Hq w X E L): ∀q∈L,q.1<X.heap.size:=fun q hq=>(h.all q hq).1.lt (h.all q hq).2
theorem Hq.get {w X:World} {E:List Nat} {L:List (Nat×List Value)} (h:Hq w X E L) (i:Nat) {b:Nat} {cs:List Value} (hi:L[i]? =some (b,cs)):Holds X b cs:=(h.all _ (List.mem_of_getElem? hi)).1
theorem Hq.drew {w X:World} {E:List Nat} {L:List (Nat×List Value)} (h:Hq w X E L):Hq w X.drew E L:=⟨h.fr.drew,fun q hq=>⟨(h.all q hq).1.block rfl,(h.all q hq).2⟩,h.nd⟩
theorem Hq.on {w X Y:World} {E:List Nat} {L:List (Nat×List Value)} (h:Hq w X E L) (k:Below X.heap.size X Y):Hq w Y E L:=
 ⟨h.fr.on k,fun q hq=>⟨(h.all q hq).1.block (k.block _ (h.lt q hq)),(h.all q hq).2⟩,h.nd⟩
theorem Hq.step {w X Y:World} {E E':List Nat} {L:List (Nat×List Value)} (h:Hq w X E L) (k:Fr X Y E') (hE: ∀b∈E',b∈E∨w.heap.size<=b) (hL: ∀q∈L,q.1 ∉ E'):Hq w Y E L:=
 ⟨h.fr.trans k hE,fun q hq=>⟨(h.all q hq).1.block (k.block _ (h.lt q hq) (hL q hq)),(h.all q hq).2⟩,h.nd⟩
theorem Hq.add {w X:World} {E:List Nat} {L:List (Nat×List Value)} (h:Hq w X E L) {b:Nat} {cs:List Value} (hb:Holds X b cs) (hc:0<cs.length) (hn: ∀q∈L,q.1≠b):Hq w X E (L++ [(b,cs)]):=by
 refine⟨h.fr,fun q hq=> ?_, ?_⟩
 ·rcases List.mem_append.1 hq with hq|hq
  ·exact h.all q hq
  ·obtain rfl:q=(b,cs):=by simpa using hq
   exact⟨hb,hc⟩
 ·rw[List.map_append,List.nodup_append]
  refine⟨h.nd,by simp,fun x hx y hy=> ?_⟩
  obtain⟨q,hq,rfl⟩:=List.mem_map.1 hx
  obtain rfl:y=b:=by simpa using hy
  exact hn q hq
theorem Hq.new {w X:World} {E:List Nat} {L:List (Nat×List Value)} (h:Hq w X E L) (cs:List Value) (t:TypeId) (hc:0<cs.length):Hq w (X.alloc (Obj.cells cs.toArray t)) E (L++ [(X.heap.size,cs)]):=
 (h.on ((Below.refl _ _).alloc (Nat.le_refl _) _)).add (Holds.new X cs t) hc (fun q hq=>Nat.ne_of_lt (h.lt q hq))
theorem Hq.put {w X:World} {E:List Nat} {L:List (Nat×List Value)} (h:Hq w X E L) (i:Nat) {b:Nat} {cs:List Value} (hi:L[i]? =some (b,cs)) (p:Nat) (vs:List Value) (hp:p+vs.length<=cs.length) (hE:b∈E∨w.heap.size<=b):Hq w (X.setCells b p vs) E (L.set i (b,Bt cs p vs)):=by
 have hil:=(List.getElem?_eq_some_iff.1 hi).1
 have hie:=(List.getElem?_eq_some_iff.1 hi).2
 have hH:=h.get i hi
 have hlen:(Bt cs p vs).length=cs.length:=by simp[Bt];omega
 refine⟨h.fr.trans (Fr.setCells X b p vs) (by simpa using hE),fun q hq=> ?_, ?_⟩
 ·rcases List.getElem?_of_mem hq with ⟨j,hj⟩
  rw[List.getElem?_set] at hj
  split at hj
  ·rename_i e
   subst e
   obtain rfl:=Option.some.inj hj
   have h1:=(h.all _ (List.mem_of_getElem? hi)).2
   exact⟨hH.put p vs hp,by simpa [hlen] using h1⟩
  ·rename_i e
   have hm:=List.mem_of_getElem? hj
   refine⟨(h.all q hm).1.block (Gj b vs p X q.1 ?_),(h.all q hm).2⟩
   intro eb
   have hjl:=(List.getElem?_eq_some_iff.1 hj).1
   have h1:(L.map (·.1))[i]? =some b:=by simp[hi]
   have h2:(L.map (·.1))[j]? =some b:=by simp[hj,eb]
   have:=(List.getElem?_inj (by simpa using hil) h.nd).1 (h1.trans h2.symm)
   exact e this
 ·have e:(L.set i (b,Bt cs p vs)).map (·.1)=L.map (·.1):=by
   rw[List.map_set]
   apply List.ext_getElem?
   intro j
   rw[List.getElem?_set]
   split
   ·rename_i e
    subst e
    simp[hil,hie]
   ·rfl
  rw[e]
  exact h.nd
end
section
open Go Go.Proofs Go.Maps Go.RowKit Tryz
instance decK:DecidableEq KK:=fun a b=>decidable_of_iff (a.s=b.s/\a.n=b.n) ⟨fun h=>KK.ext' h.1 h.2,fun h=>h▸⟨rfl,rfl⟩⟩
structure RR where
 b:Nat
 k:KK
 d:DD
 n:Nat
 gone:Bool
def RR.cs (r:RR):List Value:=r.k.cs++(r.d.cs++ [.int .u64 r.n, .bool r.gone])
theorem Uo (d:DD):d.cs.length=18:=rfl
theorem Ed (r:RR):r.cs.length=22:=rfl
def Pq (l:List Nat):List Value:=l.map (fun b=> .pointer (some ⟨b,0,none⟩))
def OwnP (W:World) (v:Value) (l:List Nat):Prop:=W.ownsRow 0 203 1 v l.length (Pq l)
theorem OwnP.nil (W:World):OwnP W (.slice none 0 0) []:=⟨rfl, .inl ⟨rfl,rfl⟩⟩
theorem OwnP.lt {W:World} {v:Value} {l:List Nat} (h:OwnP W v l): ∀g,v.ownBlock=some g->g<W.heap.size:=fun g hg=>(World.ownsRow.lt h g hg).2
theorem OwnP.block {W W':World} {v:Value} {l:List Nat} (h:OwnP W v l) (he: ∀g,v.ownBlock=some g->W'.heap[g]? =W.heap[g]?):OwnP W' v l:=by
 obtain⟨h1,h2⟩:=h
 refine⟨h1, ?_⟩
 rcases h2 with h2|⟨g,cap,cur,rfl,h3,h4,h5⟩
 ·exact .inl h2
 ·exact .inr ⟨g,cap,cur,rfl,h3,(he g rfl).trans h4,h5⟩
structure TT where
 t:Nat
 m:Nat
 rv:Value
 rows:List RR
 last:Nat
def TT.live (T:TT):List RR:=T.rows.filter (fun r=> !r.gone)
def TT.find (T:TT) (k:KK):Option RR:=T.live.find? (fun r=>decide (r.k=k))
def TT.blocks (T:TT):List Nat:=T.t::T.m::(T.rv.ownBlock.toList++T.rows.map (·.b))
def TT.cs (T:TT):List Value:= [.map (some T.m),T.rv, .int .u64 T.last]
structure TT.Is (T:TT) (W:World):Prop where
 tab:Holds W T.t T.cs
 map:MapIs W T.m T.last T.live.length (fun k=>(T.find k).map (·.b))
 own:OwnP W T.rv (T.rows.map (·.b))
 rows: ∀r∈T.rows,Holds W r.b r.cs
 nd:T.blocks.Nodup
 rise:T.rows.Pairwise (fun a b=>a.n<b.n)
 num: ∀r∈T.rows,1<=r.n/\r.n<=T.last
 keys:T.live.Pairwise (fun a b=>a.k≠b.k)
 good: ∀r∈T.live,goodK r.k=true
theorem TT.Is.lt {T:TT} {W:World} (h:T.Is W): ∀b∈T.blocks,b<W.heap.size:=by
 intro b hb
 simp only[TT.blocks,List.mem_cons,List.mem_append,List.mem_map] at hb
 rcases hb with rfl|rfl|hb|⟨r,hr,rfl⟩
 ·exact h.tab.lt (by simp[TT.cs])
 ·exact h.map.lt
 ·exact h.own.lt b (by simpa using hb)
 ·exact(h.rows r hr).lt (by simp[Ed])
theorem TT.Is.block {T:TT} {W W':World} (h:T.Is W) (he: ∀b∈T.blocks,W'.heap[b]? =W.heap[b]?):T.Is W':=
 ⟨h.tab.block (he _ (by simp[TT.blocks])),h.map.block (he _ (by simp[TT.blocks])),h.own.block (fun g hg=>he g (by simp[TT.blocks,hg])),fun r hr=>(h.rows r hr).block (he _ (by
  simp only[TT.blocks,List.mem_cons,List.mem_append,List.mem_map]
  exact .inr (.inr (.inr ⟨r,hr,rfl⟩)))),h.nd,h.rise,h.num,h.keys,h.good⟩
theorem TT.Is.on {T:TT} {W W':World} (h:T.Is W) (hb:Below W.heap.size W W'):T.Is W':=h.block (fun b hb'=>hb.block b (h.lt b hb'))
theorem TT.Is.drew {T:TT} {W:World} (h:T.Is W):T.Is W.drew:=h.block (fun _ _=>rfl)
theorem TT.find_mem {T:TT} {k:KK} {r:RR} (h:T.find k=some r):r∈T.rows/\r.gone=false/\r.k=k:=by
 have h1:=List.mem_of_find?_eq_some h
 have h2:=List.find?_some h
 simp[TT.live] at h1 h2
 exact⟨h1.1,h1.2,h2⟩
section
variable {md:Region.Mode} {ops:Array Oper} {rest:List Oper} {Q:Exit->Act->World->Prop} {S:World->Prop} {w w0:World} {fuel:Nat} {listed:Array Bool} {a:Act} {o:Oper}
theorem gsem (i:Nat) (dst:Option Tmp) (v:Value) (hi:ops[i]? =some o) (hs:Region.noSelect ops=true) (hf:Region.free md ops listed i=true) (hr:(Region.ready md ops listed).contains i=true)
  (hQ: ∀c a w,Q (.panic c) (a.put dst v) w->Q (.panic c) a w) (hd:o.dst=dst) (hw:Region.wanted o (yielded ops a.tmps)=true) (hy: ∀X,S X->(execOp a.eval o).run prog X= .ok (.value v) X)
  (hS:S w) (h:wpAnyH prog md ops Q S fuel (listed.setIfInBounds i true) (a.put dst v) w):wpAnyH prog md ops Q S (fuel+1) listed a w:=by
 subst hd
 exact wpAnyH_take hi hs hf hr hQ (Or.inl ⟨hw,hy⟩) hS h
theorem y10 (i:Nat) (dst:Option Tmp) (v:Value) (hi:ops[i]? =some o) (hy: ∀X,S X->(execOp a.eval o).run prog X= .ok (.value v) X) (hS:S w) (h:wpAnyH prog md ops Q S fuel (listed.setIfInBounds i true) (a.put dst v) w) (hs:Region.noSelect ops=true:=by kernel_rfl) (hf:Region.free md ops listed i=true:=by kernel_rfl) (hr:(Region.ready md ops listed).contains i=true:=by kernel_rfl) (hQ: ∀c a w,Q (.panic c) (a.put dst v) w->Q (.panic c) a w:=by exact fun _ _ _ h=>h) (hd:o.dst=dst:=by kernel_rfl) (hw:Region.wanted o (yielded ops a.tmps)=true:=by kernel_rfl):wpAnyH prog md ops Q S (fuel+1) listed a w:=gsem i dst v hi hs hf hr hQ hd hw hy hS h
theorem y1 {aB:Act} (i:Nat) (dst:Option Tmp) (v:Value) (hi:ops[i]? =some o) (hy: ∀X,S X->(execOp a.eval o).run prog X= .ok (.value v) X) (hS:S w) (h:wpAnyH prog md ops Q S fuel (listed.setIfInBounds i true) aB w) (hb:a.put dst v=aB:=by simp only[nn]<;>rfl) (hs:Region.noSelect ops=true:=by kernel_rfl) (hf:Region.free md ops listed i=true:=by kernel_rfl) (hr:(Region.ready md ops listed).contains i=true:=by kernel_rfl) (hQ: ∀c a w,Q (.panic c) (a.put dst v) w->Q (.panic c) a w:=by exact fun _ _ _ h=>h) (hd:o.dst=dst:=by kernel_rfl) (hw:Region.wanted o (yielded ops a.tmps)=true:=by kernel_rfl):wpAnyH prog md ops Q S (fuel+1) listed a w:=y10 i dst v hi hy hS (hb▸h) hs hf hr hQ hd hw
theorem y00 (i:Nat) (dst:Option Tmp) (v:Value) (hi:ops[i]? =some o) (hS:S w) (h:wpAnyH prog md ops Q S fuel (listed.setIfInBounds i true) (a.put dst v) w) (hy: ∀X,S X->(execOp a.eval o).run prog X= .ok (.value v) X:=by intro _ _;kernel_rfl) (hs:Region.noSelect ops=true:=by kernel_rfl) (hf:Region.free md ops listed i=true:=by kernel_rfl) (hr:(Region.ready md ops listed).contains i=true:=by kernel_rfl) (hQ: ∀c a w,Q (.panic c) (a.put dst v) w->Q (.panic c) a w:=by exact fun _ _ _ h=>h) (hd:o.dst=dst:=by kernel_rfl) (hw:Region.wanted o (yielded ops a.tmps)=true:=by kernel_rfl):wpAnyH prog md ops Q S (fuel+1) listed a w:=gsem i dst v hi hs hf hr hQ hd hw hy hS h
theorem y0 {aB:Act} (i:Nat) (dst:Option Tmp) (v:Value) (hi:ops[i]? =some o) (hS:S w) (h:wpAnyH prog md ops Q S fuel (listed.setIfInBounds i true) aB w) (hb:a.put dst v=aB:=by simp only[nn]<;>rfl) (hy: ∀X,S X->(execOp a.eval o).run prog X= .ok (.value v) X:=by intro _ _;kernel_rfl) (hs:Region.noSelect ops=true:=by kernel_rfl) (hf:Region.free md ops listed i=true:=by kernel_rfl) (hr:(Region.ready md ops listed).contains i=true:=by kernel_rfl) (hQ: ∀c a w,Q (.panic c) (a.put dst v) w->Q (.panic c) a w:=by exact fun _ _ _ h=>h) (hd:o.dst=dst:=by kernel_rfl) (hw:Region.wanted o (yielded ops a.tmps)=true:=by kernel_rfl):wpAnyH prog md ops Q S (fuel+1) listed a w:=y00 i dst v hi hS (hb▸h) hy hs hf hr hQ hd hw
theorem rd0 {v:Value} (hw:Region.wanted o (yielded ops a.tmps)=true) (hy:(execOp a.eval o).run prog w= .ok (.value v) w) (h:wpList prog ops Q rest (a.put o.dst v) w):wpList prog ops Q (o::rest) a w:=by
 refine BigFrame.wpList_want hw fun K hK=> ?_
 have hP:=hK _ _ h
 unfold Oper.wp
 rw[hy]
 exact hP
theorem rd {aB:Act} {v:Value} (hw:Region.wanted o (yielded ops a.tmps)=true) (hy:(execOp a.eval o).run prog w= .ok (.value v) w) (h:wpList prog ops Q rest aB w) (hb:a.put o.dst v=aB:=by simp only[nn]<;>rfl):wpList prog ops Q (o::rest) a w:=rd0 hw hy (hb▸h)
theorem Dw (w:World) (b p:Nat) (ty:TypeId) (v:Value) (vs:List Value) (hv:v.cells.toList=vs) (ht:w.there b p vs.length) (hi:(prog.info? ty).map (·.size)=some vs.length) (h1: ∀u∈vs,u.oneCell'=true):
  (storeVar ty ⟨b,p,none⟩ v).run prog w= .ok () (w.setCells b p vs):=by
 have:=run_storeCells_cells (P:=prog) b p vs 0 w (fun j hj=>by simpa using (ht j hj).1) (fun j hj=>by simpa using (ht j hj).2) h1
 cases hq:prog.info? ty with
 |none=>simp[hq] at hi
 |some i=>
  have hs:v.cells.size=i.size:=by
   have e:v.cells.size=vs.length:=by rw[←hv];simp
   simp[hq] at hi;omega
  simp only[Nat.add_zero] at this
  simp[storeVar,sizeOf,typeInfo,hq,hs,hv,this]
theorem st {E:List Nat} {L:List (Nat×List Value)} {b p:Nat} {cs vs:List Value} {v:Value} {x y:Operand} (i:Nat) (t:TypeId) (hw:Region.wanted o (yielded ops a.tmps)=true) (ho:o.op= .store t x y) (hx:a.eval x= .pointer (some ⟨b,p,none⟩)) (hy:a.eval y=v)
  (hv:v.cells.toList=vs) (h1: ∀u∈vs,u.oneCell'=true) (hi:(prog.info? t).map (·.size)=some vs.length) (hL:Hq w0 w E L) (hg:L[i]? =some (b,cs)) (hp:p+vs.length<=cs.length) (hE:b∈E∨w0.heap.size<=b)
  (h: ∀X,Hq w0 X E (L.set i (b,Bt cs p vs))->Fr w X [b]->X.heap.size=w.heap.size->wpList prog ops Q rest (a.put o.dst undef) X):wpList prog ops Q (o::rest) a w:=by
 refine BigFrame.wpList_want hw fun K hK=> ?_
 have hP:=hK _ _ (h _ (hL.put i hg p vs hp hE) (Fr.setCells w b p vs) (Eu _ _ _))
 unfold Oper.wp execOp
 simp only[ho,hx,hy,Instr.storeAt,Instr.sureAddr,Sem.run_bind,Sem.run_pure,Result.andThen_ok,Dw w b p t v vs hv ((hL.get i hg).there p vs.length hp) hi h1]
 exact hP
theorem bx {E:List Nat} {L:List (Nat×List Value)} {v:Value} {x:Operand} (t:TypeId) (cs:List Value) (hw:Region.wanted o (yielded ops a.tmps)=true) (ho:o.op= .box t x) (hx:a.eval x=v) (hv:v.cells.toList=cs) (hc:0<cs.length) (hL:Hq w0 w E L)
  (h: ∀X B,B=w.heap.size->Hq w0 X E (L++ [(B,cs)])->Below w.heap.size w X->wpList prog ops Q rest (a.put o.dst (.pointer (some ⟨B,0,none⟩))) X):wpList prog ops Q (o::rest) a w:=by
 refine BigFrame.wpList_want hw fun K hK=> ?_
 have e:v.cells=cs.toArray:=by rw[←hv]
 have hP:=hK _ _ (h _ _ rfl (hL.new cs t hc) ((Below.refl _ _).alloc (Nat.le_refl _) _))
 have e2:(Instr.box t v).run prog w= .ok (.pointer (some ⟨w.heap.size,0,none⟩)) (w.alloc (Obj.cells cs.toArray t)):=by rw[←e];rfl
 unfold Oper.wp execOp
 simp only[ho,hx]
 simp[e2]
 exact hP
end
theorem new10 (w:World):Calls prog 88 #[] w fun e w'=> ∃T:TT,e= .returned (.pointer (some ⟨T.t,0,none⟩))/\T.Is w'/\T.rows= []/\T.last=0/\(∀b∈T.blocks,w.heap.size<=b)/\Below w.heap.size w w':=by
 have hmm:= @run_makeMap prog
 go_enter func88,ntmps88
 go_wp2
 go_ret
 have hN:=Holds.new (w.alloc (Obj.map #[] 0)) [.map (some w.heap.size), .slice none 0 0, .int .u64 0] 193
 have hM:=MapIs.made w
 have hz:(w.alloc (Obj.map #[] 0)).heap.size=w.heap.size+1:=by simp
 rw[hz] at hN
 have hb:Below w.heap.size w ((w.alloc (Obj.map #[] 0)).alloc (Obj.cells #[Value.map (some w.heap.size),Value.slice none 0 0,Value.int IntKind.u64 0] 193)):=((Below.refl _ _).alloc (Nat.le_refl _) _).alloc (by simp) _
 refine⟨⟨w.heap.size+1,w.heap.size, .slice none 0 0, [],0⟩,rfl,⟨hN, ?_,OwnP.nil _,(fun r hr=>by cases hr),by simp[TT.blocks,Value.ownBlock],by simp,(fun r hr=>by cases hr),by simp[TT.live],(fun r hr=>by simp[TT.live] at hr)⟩,rfl,rfl, ?_,hb⟩
 ·refine MapIs.block (w:=w.alloc (Obj.map #[] 0)) ?_ (Below.heap_alloc _ _ _ (by simp))
  exact hM
 ·intro b hb
  simp[TT.blocks,Value.ownBlock] at hb
  rcases hb with rfl|rfl<;>simp
theorem Zew {o:Oper} {a:Act} {w:World} {m:Operand} {b n sz:Nat} {F:KK->Option Nat} (ho:o.op= .call {callee:= .builtin .len,args:= #[m],argTypes:= #[190]}) (hm:a.eval m= .map (some b)) (h:MapIs w b n sz F):(execOp a.eval o).run prog w= .ok (.value (.int .i64 sz)) w:=by
 simp[execOp,ho,resolve,invoke,builtin,hm,h.len o.type,Result.andThen]
theorem len30 (T:TT) (w:World) (hT:T.Is w):Calls prog 130 #[.pointer (some ⟨T.t,0,none⟩)] w fun e w'=>e= .returned (.int .i64 T.live.length)/\w'=w:=by
 have HT:=Ab hT
 clear hT
 go_enter func130,ntmps130
 go_wp2_with (first|go_skip|(refine rd rfl (Ad 190 isAgg190 rfl rfl (Aa HT).tab rfl) ?_)|(refine rd rfl (Zew rfl rfl (Aa HT).map) ?_))
 go_ret
 exact⟨rfl,rfl⟩
theorem TT.live_le (T:TT):T.live.length<=T.rows.length:=List.length_filter_le _ _
theorem ex_lenS {o:Oper} {a:Act} {w:World} {m:Operand} {v:Value} {l:List RR} (ho:o.op= .call {callee:= .builtin .len,args:= #[m],argTypes:= #[191]}) (hm:a.eval m=v) (h:OwnP w v (l.map (·.b))):(execOp a.eval o).run prog w= .ok (.value (.int .i64 (l.length:Nat))) w:=by
 have hv: ∃A c,v= .slice A l.length c:=by
  rcases h.2 with ⟨h1,h2⟩|⟨g,cap,cur,h1,h2⟩
  ·exact⟨none,0,by rw[h1];simp at h2;simp[h2]⟩
  ·exact⟨_,_,by rw[h1];simp;exact⟨rfl,rfl⟩⟩
 obtain⟨A,c,rfl⟩:=hv
 simp[execOp,ho,resolve,invoke,builtin,hm,Builtin.len_,Result.andThen,goInt,underlying191,run_underlying underlying191]
theorem ex_sub {o:Oper} {a:Act} {w:World} {x y:Operand} {m n:Nat} (ho:o.op= .binOp .sub 3 x y 3) (hx:a.eval x= .int .i64 (m:Nat)) (hy:a.eval y= .int .i64 (n:Nat)) (h:n<=m) (hm:m<=4000000):(execOp a.eval o).run prog w= .ok (.value (.int .i64 ((m - n:Nat):Int))) w:=by
 have e:((m - n:Nat):Int)=(m:Int) - (n:Int):=by omega
 rw[e]
 unfold execOp
 simp only[ho,hx,hy]
 have hs:=subI (m:Int) (n:Int) (by omega) (by omega) w
 simp[go_sem,eqGuard,hs,Result.andThen]
 rw[IntKind.wrap_i64]
 omega
theorem gaps38 (T:TT) (w:World) (hT:T.Is w) (hl:T.rows.length<=4000000):Calls prog 220 #[.pointer (some ⟨T.t,0,none⟩)] w fun e w'=>e= .returned (.int .i64 ((T.rows.length - T.live.length:Nat):Int))/\Below w.heap.size w w':=by
 have HT:=Ab hT
 clear hT
 go_enter func220,ntmps220
 go_wp2
 refine wp_region_held_drew (P:=prog) (S:=fun X=>T.Is X) (by kernel_rfl) (Aa HT).drew (fun hS0=> ?_)
 refine y0 0 (some 3) (.pointer (some ⟨T.t,0,none⟩)) rfl hS0 ?_
 refine y0 1 (some 4) (.pointer (some ⟨T.t,0,none⟩)) rfl hS0 ?_
 refine y0 2 (some 5) (.pointer (some ⟨T.t,1,none⟩)) rfl hS0 ?_
 refine y1 3 (some 6) (T.rv) rfl (fun X hX=>Ad 191 isAgg191 rfl rfl (hX.tab) rfl) hS0 ?_
 refine y1 4 (some 7) (.int .i64 (T.rows.length:Nat)) rfl (fun X hX=>ex_lenS rfl rfl hX.own) hS0 ?_
 refine y0 5 (some 8) (.pointer (some ⟨T.t,0,none⟩)) rfl hS0 ?_
 refine y0 6 (some 9) (.pointer (some ⟨T.t,0,none⟩)) rfl hS0 ?_
 refine y0 7 (some 10) (.pointer (some ⟨T.t,0,none⟩)) rfl hS0 ?_
 refine y1 8 (some 11) (.map (some T.m)) rfl (fun X hX=>Ad 190 isAgg190 rfl rfl (hX.tab) rfl) hS0 ?_
 refine y1 9 (some 12) (.int .i64 (T.live.length:Nat)) rfl (fun X hX=>Zew rfl rfl hX.map) hS0 ?_
 refine y1 10 (some 13) (.int .i64 ((T.rows.length - T.live.length:Nat):Int)) rfl (fun X hX=>ex_sub rfl rfl rfl (by have:=T.live_le;omega) hl) hS0 ?_
 refine y0 11 (some 2) (.int .i64 ((T.rows.length - T.live.length:Nat):Int)) rfl hS0 ?_
 refine dn ?_
 try simp only[nn]
 go_wp2
 go_ret
 exact⟨rfl,(Below.refl _ _).drew⟩
