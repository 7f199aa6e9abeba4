import Derived.Test.YtlpdllcedgnaaaaGreatDoorQy
import Derived.Test.YtlpdllcedgnaaaaGreatDoorQn
import Derived.Test.YtlpdllcedgnaaaaGreatDoorQv
import Derived.Carry
import Derived.Laws.StructEq
import Derived.Lib.ItoaMem
import Derived.Lib.AppendIntMem
import Derived.Sort.Lot0
set_option linter.all false
namespace Go.Proofs.YtlpdllcedgnaaaaGreatDoor
set_option maxRecDepth 100000
set_option maxHeartbeats 0
section
open Go Go.Proofs Go.Maps Go.RowKit
structure Fr (w X:World) (E:List Nat):Prop where
 os:X.os=w.os
 tape:X.tape=w.tape
 output:X.output=w.output
 size:w.heap.size<=X.heap.size
 block: ∀b,b<w.heap.size->b ∉ E->X.heap[b]? =w.heap[b]?
theorem Fr.refl (w:World) (E:List Nat):Fr w w E:=⟨rfl,rfl,rfl,Nat.le_refl _,fun _ _ _=>rfl⟩
theorem Fr.trans {w X Y:World} {E E':List Nat} (h:Fr w X E) (k:Fr X Y E') (hE: ∀b∈E',b∈E∨w.heap.size<=b):Fr w Y E:=
 ⟨k.os.trans h.os,k.tape.trans h.tape,k.output.trans h.output,Nat.le_trans h.size k.size,fun b hb he=>
  (k.block b (Nat.lt_of_lt_of_le hb h.size) (fun he'=>(hE b he').elim he (fun h2=>by omega))).trans (h.block b hb he)⟩
theorem Fr.of_below {w X:World} (h:Below w.heap.size w X) (E:List Nat):Fr w X E:=⟨h.os,h.tape,h.output,h.size,fun b hb _=>h.block b hb⟩
theorem Fr.below {w X:World} (h:Fr w X []):Below w.heap.size w X:=⟨h.os,h.tape,h.output,h.size,fun b hb=>h.block b hb (by simp)⟩
theorem Fr.on {w X Y:World} {E:List Nat} (h:Fr w X E) (k:Below X.heap.size X Y):Fr w Y E:=h.trans (Fr.of_below k []) (by simp)
theorem Fr.mono {w X:World} {E E':List Nat} (h:Fr w X E) (hE: ∀b∈E,b∈E'∨w.heap.size<=b):Fr w X E':=(Fr.refl w E').trans h hE
theorem Fr.drew {w X:World} {E:List Nat} (h:Fr w X E):Fr w X.drew E:=⟨h.os,h.tape,h.output,h.size,h.block⟩
theorem Kh (b:Nat): ∀(vs:List Value) (o:Nat) (X:World),(X.setCells b o vs).os=X.os/\(X.setCells b o vs).tape=X.tape/\(X.setCells b o vs).output=X.output
 | [],_,_=>⟨rfl,rfl,rfl⟩
 |v::vs,o,X=>by
  obtain⟨h1,h2,h3⟩:=Kh b vs (o+1) (X.setCell ⟨b,o,none⟩ v)
  rw[World.setCells]
  exact⟨h1,h2,h3⟩
theorem Fr.setCells (X:World) (b p:Nat) (vs:List Value):Fr X (X.setCells b p vs) [b]:=
 ⟨(Kh b vs p X).1,(Kh b vs p X).2.1,(Kh b vs p X).2.2,by rw[En];exact Nat.le_refl _,fun g _ hg=>Eo b vs p X g (by simpa using hg)⟩
theorem Fr.grown {X Y:World} {row:Option Nat} (h:X.grownBy Y row):Fr X Y row.toList:=
 ⟨h.os,h.tape,h.output,h.size,fun b hb hE=>h.block b hb (fun e=>hE (by rw[←e];simp))⟩
structure Hq (w X:World) (E:List Nat) (L:List (Nat×List Value)):Prop where
 fr:Fr w X E
 all: ∀q∈L,Holds X q.1 q.2/\0<q.2.length
 nd:(L.map (·.1)).Nodup
theorem Hq.nil (w:World) (E:List Nat):Hq w w E []:=⟨Fr.refl _ _,(fun q hq=>by cases hq),by simp⟩
theorem Hq.lt {w X:World} {E:List Nat} {L:List (Nat×List Value)} (h:Hq w X E L): ∀q∈L,q.1<X.heap.size:=fun q hq=>(h.all q hq).1.lt (h.all q hq).2
theorem Hq.get {w X:World} {E:List Nat} {L:List (Nat×List Value)} (h:Hq w X E L) (i:Nat) {b:Nat} {cs:List Value} (hi:L[i]? =some (b,cs)):Holds X b cs:=(h.all _ (List.mem_of_getElem? hi)).1
theorem Hq.drew {w X:World} {E:List Nat} {L:List (Nat×List Value)} (h:Hq w X E L):Hq w X.drew E L:=⟨h.fr.drew,fun q hq=>⟨(h.all q hq).1.block rfl,(h.all q hq).2⟩,h.nd⟩
theorem Hq.on {w X Y:World} {E:List Nat} {L:List (Nat×List Value)} (h:Hq w X E L) (k:Below X.heap.size X Y):Hq w Y E L:=
 ⟨h.fr.on k,fun q hq=>⟨(h.all q hq).1.block (k.block _ (h.lt q hq)),(h.all q hq).2⟩,h.nd⟩
theorem Hq.step {w X Y:World} {E E':List Nat} {L:List (Nat×List Value)} (h:Hq w X E L) (k:Fr X Y E') (hE: ∀b∈E',b∈E∨w.heap.size<=b) (hL: ∀q∈L,q.1 ∉ E'):Hq w Y E L:=
 ⟨h.fr.trans k hE,fun q hq=>⟨(h.all q hq).1.block (k.block _ (h.lt q hq) (hL q hq)),(h.all q hq).2⟩,h.nd⟩
theorem Hq.add {w X:World} {E:List Nat} {L:List (Nat×List Value)} (h:Hq w X E L) {b:Nat} {cs:List Value} (hb:Holds X b cs) (hc:0<cs.length) (hn: ∀q∈L,q.1≠b):Hq w X E (L++ [(b,cs)]):=by
 refine⟨h.fr,fun q hq=> ?_, ?_⟩
 ·rcases List.mem_append.1 hq with hq|hq
  ·exact h.all q hq
  ·obtain rfl:q=(b,cs):=by simpa using hq
   exact⟨hb,hc⟩
 ·rw[List.map_append,List.nodup_append]
  refine⟨h.nd,by simp,fun x hx y hy=> ?_⟩
  obtain⟨q,hq,rfl⟩:=List.mem_map.1 hx
  obtain rfl:y=b:=by simpa using hy
  exact hn q hq
theorem Hq.new {w X:World} {E:List Nat} {L:List (Nat×List Value)} (h:Hq w X E L) (cs:List Value) (t:TypeId) (hc:0<cs.length):Hq w (X.alloc (Obj.cells cs.toArray t)) E (L++ [(X.heap.size,cs)]):=
 (h.on ((Below.refl _ _).alloc (Nat.le_refl _) _)).add (Holds.new X cs t) hc (fun q hq=>Nat.ne_of_lt (h.lt q hq))
theorem Hq.put {w X:World} {E:List Nat} {L:List (Nat×List Value)} (h:Hq w X E L) (i:Nat) {b:Nat} {cs:List Value} (hi:L[i]? =some (b,cs)) (p:Nat) (vs:List Value) (hp:p+vs.length<=cs.length) (hE:b∈E∨w.heap.size<=b):Hq w (X.setCells b p vs) E (L.set i (b,Dh cs p vs)):=by
 have hil:=(List.getElem?_eq_some_iff.1 hi).1
 have hie:=(List.getElem?_eq_some_iff.1 hi).2
 have hH:=h.get i hi
 have hlen:(Dh cs p vs).length=cs.length:=by simp[Dh];omega
 refine⟨h.fr.trans (Fr.setCells X b p vs) (by simpa using hE),fun q hq=> ?_, ?_⟩
 ·rcases List.getElem?_of_mem hq with ⟨j,hj⟩
  rw[List.getElem?_set] at hj
  split at hj
  ·rename_i e
   subst e
   obtain rfl:=Option.some.inj hj
   have h1:=(h.all _ (List.mem_of_getElem? hi)).2
   exact⟨hH.put p vs hp,by simpa [hlen] using h1⟩
  ·rename_i e
   have hm:=List.mem_of_getElem? hj
   refine⟨(h.all q hm).1.block (Eo b vs p X q.1 ?_),(h.all q hm).2⟩
   intro eb
   have hjl:=(List.getElem?_eq_some_iff.1 hj).1
   have h1:(L.map (·.1))[i]? =some b:=by simp[hi]
   have h2:(L.map (·.1))[j]? =some b:=by simp[hj,eb]
   have:=(List.getElem?_inj (by simpa using hil) h.nd).1 (h1.trans h2.symm)
   exact e this
 ·have e:(L.set i (b,Dh cs p vs)).map (·.1)=L.map (·.1):=by
   rw[List.map_set]
   apply List.ext_getElem?
   intro j
   rw[List.getElem?_set]
   split
   ·rename_i e
    subst e
    simp[hil,hie]
   ·rfl
  rw[e]
  exact h.nd
end
section
open Go Go.Proofs Go.RowKit
def goodK (k:KK):Bool:=(Mx k.s k.n).good
theorem ZaQ (k:KK):goodK k=if k.n=0 then decide (k.s.size<=1048576) && vS k.s else decide (1<=k.n) && decide (k.n<=65536) && k.s.toList.isEmpty:=by
 unfold goodK Mx
 by_cases h:k.n=0
 ·rw[if_pos h,if_pos h]
  simp[VV.good,Gi,inG,Ni,Gh,vS]
 ·rw[if_neg h,if_neg h]
  simp[VV.good,Gi,inG,Ni]
  cases k.s.toList.isEmpty<;>simp
theorem Nn {k:KK} (h:goodK k=true):k.s.size<=1048576:=Zdr h
theorem goodK_n {k:KK} (h:goodK k=true):0<=k.n/\k.n<=65536:=by
 rw[ZaQ] at h
 by_cases hn:k.n=0
 ·omega
 ·rw[if_neg hn] at h
  simp at h
  omega
theorem subI (x y:Int) (hx: -1099511627776<=x/\x<=1099511627776) (hy: -1099511627776<=y/\y<=1099511627776) (w:World):(binOp .sub 3 (.int .i64 x) (.int .i64 y)).run Tryz.prog w= .ok (.int .i64 (x - y)) w:=by
 have e:IntKind.i64.wrap (x - y)=x - y:=by
  rw[IntKind.wrap_i64]
  omega
 simp[binOp,go_sem,e]
theorem kd_range (s:ByteArray) (n:Int):0<=Vr s n/\Vr s n<=2:=by
 unfold Vr
 split
 ·split<;>omega
 ·omega
theorem kn_le (s:ByteArray) (n:Int):Ze s n<=4294967294:=by
 unfold Ze
 split
 ·cases h:Me (Az s) with
  |none=>simp
  |some m=>simpa using Zct _ _ h
 ·omega
end
section
open Go Go.Proofs Go.Maps Go.RowKit Tryz
instance decK:DecidableEq KK:=fun a b=>decidable_of_iff (a.s=b.s/\a.n=b.n) ⟨fun h=>KK.ext' h.1 h.2,fun h=>h▸⟨rfl,rfl⟩⟩
structure RR where
 b:Nat
 k:KK
 d:DD
 n:Nat
 gone:Bool
def RR.cs (r:RR):List Value:=r.k.cs++(r.d.cs++ [.int .u64 r.n, .bool r.gone])
theorem Ns (d:DD):d.cs.length=18:=rfl
theorem Ds (r:RR):r.cs.length=22:=rfl
def Ly (l:List Nat):List Value:=l.map (fun b=> .pointer (some ⟨b,0,none⟩))
def OwnP (W:World) (v:Value) (l:List Nat):Prop:=W.ownsRow 0 188 1 v l.length (Ly l)
theorem OwnP.nil (W:World):OwnP W (.slice none 0 0) []:=⟨rfl, .inl ⟨rfl,rfl⟩⟩
theorem OwnP.lt {W:World} {v:Value} {l:List Nat} (h:OwnP W v l): ∀g,v.ownBlock=some g->g<W.heap.size:=fun g hg=>(World.ownsRow.lt h g hg).2
theorem OwnP.block {W W':World} {v:Value} {l:List Nat} (h:OwnP W v l) (he: ∀g,v.ownBlock=some g->W'.heap[g]? =W.heap[g]?):OwnP W' v l:=by
 obtain⟨h1,h2⟩:=h
 refine⟨h1, ?_⟩
 rcases h2 with h2|⟨g,cap,cur,rfl,h3,h4,h5⟩
 ·exact .inl h2
 ·exact .inr ⟨g,cap,cur,rfl,h3,(he g rfl).trans h4,h5⟩
structure TT where
 t:Nat
 m:Nat
 rv:Value
 rows:List RR
 last:Nat
def TT.live (T:TT):List RR:=T.rows.filter (fun r=> !r.gone)
def TT.find (T:TT) (k:KK):Option RR:=T.live.find? (fun r=>decide (r.k=k))
def TT.blocks (T:TT):List Nat:=T.t::T.m::(T.rv.ownBlock.toList++T.rows.map (·.b))
def TT.cs (T:TT):List Value:= [.map (some T.m),T.rv, .int .u64 T.last]
structure TT.Is (T:TT) (W:World):Prop where
 tab:Holds W T.t T.cs
 map:MapIs W T.m T.last T.live.length (fun k=>(T.find k).map (·.b))
 own:OwnP W T.rv (T.rows.map (·.b))
 rows: ∀r∈T.rows,Holds W r.b r.cs
 nd:T.blocks.Nodup
 rise:T.rows.Pairwise (fun a b=>a.n<b.n)
 num: ∀r∈T.rows,1<=r.n/\r.n<=T.last
 keys:T.live.Pairwise (fun a b=>a.k≠b.k)
 good: ∀r∈T.live,goodK r.k=true
theorem TT.Is.lt {T:TT} {W:World} (h:T.Is W): ∀b∈T.blocks,b<W.heap.size:=by
 intro b hb
 simp only[TT.blocks,List.mem_cons,List.mem_append,List.mem_map] at hb
 rcases hb with rfl|rfl|hb|⟨r,hr,rfl⟩
 ·exact h.tab.lt (by simp[TT.cs])
 ·exact h.map.lt
 ·exact h.own.lt b (by simpa using hb)
 ·exact(h.rows r hr).lt (by simp[Ds])
theorem TT.Is.block {T:TT} {W W':World} (h:T.Is W) (he: ∀b∈T.blocks,W'.heap[b]? =W.heap[b]?):T.Is W':=
 ⟨h.tab.block (he _ (by simp[TT.blocks])),h.map.block (he _ (by simp[TT.blocks])),h.own.block (fun g hg=>he g (by simp[TT.blocks,hg])),fun r hr=>(h.rows r hr).block (he _ (by
  simp only[TT.blocks,List.mem_cons,List.mem_append,List.mem_map]
  exact .inr (.inr (.inr ⟨r,hr,rfl⟩)))),h.nd,h.rise,h.num,h.keys,h.good⟩
theorem TT.Is.on {T:TT} {W W':World} (h:T.Is W) (hb:Below W.heap.size W W'):T.Is W':=h.block (fun b hb'=>hb.block b (h.lt b hb'))
theorem TT.Is.drew {T:TT} {W:World} (h:T.Is W):T.Is W.drew:=h.block (fun _ _=>rfl)
theorem TT.find_mem {T:TT} {k:KK} {r:RR} (h:T.find k=some r):r∈T.rows/\r.gone=false/\r.k=k:=by
 have h1:=List.mem_of_find?_eq_some h
 have h2:=List.find?_some h
 simp[TT.live] at h1 h2
 exact⟨h1.1,h1.2,h2⟩
section
variable {md : Region.Mode} {ops : Array Oper} {rest : List Oper} {Q : Exit → Act → World → Prop} {S : World → Prop} {w w0 : World} {fuel : Nat} {listed : Array Bool} {a : Act} {o : Oper}
theorem gsem (i:Nat) (dst:Option Tmp) (v:Value) (hi:ops[i]? =some o) (hs:Region.noSelect ops=true) (hf:Region.free md ops listed i=true) (hr:(Region.ready md ops listed).contains i=true)
  (hQ: ∀c a w,Q (.panic c) (a.put dst v) w->Q (.panic c) a w) (hd:o.dst=dst) (hw:Region.wanted o (yielded ops a.tmps)=true) (hy: ∀X,S X->(execOp a.eval o).run prog X= .ok (.value v) X)
  (hS:S w) (h:wpAnyH prog md ops Q S fuel (listed.setIfInBounds i true) (a.put dst v) w):wpAnyH prog md ops Q S (fuel+1) listed a w:=by
 subst hd
 exact wpAnyH_take hi hs hf hr hQ (Or.inl ⟨hw,hy⟩) hS h
theorem y10 (i:Nat) (dst:Option Tmp) (v:Value) (hi:ops[i]? =some o) (hy: ∀X,S X->(execOp a.eval o).run prog X= .ok (.value v) X) (hS:S w) (h:wpAnyH prog md ops Q S fuel (listed.setIfInBounds i true) (a.put dst v) w) (hs:Region.noSelect ops=true:=by kernel_rfl) (hf:Region.free md ops listed i=true:=by kernel_rfl) (hr:(Region.ready md ops listed).contains i=true:=by kernel_rfl) (hQ: ∀c a w,Q (.panic c) (a.put dst v) w->Q (.panic c) a w:=by exact fun _ _ _ h=>h) (hd:o.dst=dst:=by kernel_rfl) (hw:Region.wanted o (yielded ops a.tmps)=true:=by kernel_rfl):wpAnyH prog md ops Q S (fuel+1) listed a w:=gsem i dst v hi hs hf hr hQ hd hw hy hS h
theorem y1 {aB:Act} (i:Nat) (dst:Option Tmp) (v:Value) (hi:ops[i]? =some o) (hy: ∀X,S X->(execOp a.eval o).run prog X= .ok (.value v) X) (hS:S w) (h:wpAnyH prog md ops Q S fuel (listed.setIfInBounds i true) aB w) (hb:a.put dst v=aB:=by simp only[nn]<;>rfl) (hs:Region.noSelect ops=true:=by kernel_rfl) (hf:Region.free md ops listed i=true:=by kernel_rfl) (hr:(Region.ready md ops listed).contains i=true:=by kernel_rfl) (hQ: ∀c a w,Q (.panic c) (a.put dst v) w->Q (.panic c) a w:=by exact fun _ _ _ h=>h) (hd:o.dst=dst:=by kernel_rfl) (hw:Region.wanted o (yielded ops a.tmps)=true:=by kernel_rfl):wpAnyH prog md ops Q S (fuel+1) listed a w:=y10 i dst v hi hy hS (hb▸h) hs hf hr hQ hd hw
theorem y00 (i:Nat) (dst:Option Tmp) (v:Value) (hi:ops[i]? =some o) (hS:S w) (h:wpAnyH prog md ops Q S fuel (listed.setIfInBounds i true) (a.put dst v) w) (hy: ∀X,S X->(execOp a.eval o).run prog X= .ok (.value v) X:=by intro _ _;kernel_rfl) (hs:Region.noSelect ops=true:=by kernel_rfl) (hf:Region.free md ops listed i=true:=by kernel_rfl) (hr:(Region.ready md ops listed).contains i=true:=by kernel_rfl) (hQ: ∀c a w,Q (.panic c) (a.put dst v) w->Q (.panic c) a w:=by exact fun _ _ _ h=>h) (hd:o.dst=dst:=by kernel_rfl) (hw:Region.wanted o (yielded ops a.tmps)=true:=by kernel_rfl):wpAnyH prog md ops Q S (fuel+1) listed a w:=gsem i dst v hi hs hf hr hQ hd hw hy hS h
theorem y0 {aB:Act} (i:Nat) (dst:Option Tmp) (v:Value) (hi:ops[i]? =some o) (hS:S w) (h:wpAnyH prog md ops Q S fuel (listed.setIfInBounds i true) aB w) (hb:a.put dst v=aB:=by simp only[nn]<;>rfl) (hy: ∀X,S X->(execOp a.eval o).run prog X= .ok (.value v) X:=by intro _ _;kernel_rfl) (hs:Region.noSelect ops=true:=by kernel_rfl) (hf:Region.free md ops listed i=true:=by kernel_rfl) (hr:(Region.ready md ops listed).contains i=true:=by kernel_rfl) (hQ: ∀c a w,Q (.panic c) (a.put dst v) w->Q (.panic c) a w:=by exact fun _ _ _ h=>h) (hd:o.dst=dst:=by kernel_rfl) (hw:Region.wanted o (yielded ops a.tmps)=true:=by kernel_rfl):wpAnyH prog md ops Q S (fuel+1) listed a w:=y00 i dst v hi hS (hb▸h) hy hs hf hr hQ hd hw
theorem rd0 {v:Value} (hw:Region.wanted o (yielded ops a.tmps)=true) (hy:(execOp a.eval o).run prog w= .ok (.value v) w) (h:wpList prog ops Q rest (a.put o.dst v) w):wpList prog ops Q (o::rest) a w:=by
 refine BigFrame.wpList_want hw fun K hK=> ?_
 have hP:=hK _ _ h
 unfold Oper.wp
 rw[hy]
 exact hP
theorem rd {aB:Act} {v:Value} (hw:Region.wanted o (yielded ops a.tmps)=true) (hy:(execOp a.eval o).run prog w= .ok (.value v) w) (h:wpList prog ops Q rest aB w) (hb:a.put o.dst v=aB:=by simp only[nn]<;>rfl):wpList prog ops Q (o::rest) a w:=rd0 hw hy (hb▸h)
theorem Ee (w:World) (b p:Nat) (ty:TypeId) (v:Value) (vs:List Value) (hv:v.cells.toList=vs) (ht:w.there b p vs.length) (hi:(prog.info? ty).map (·.size)=some vs.length) (h1: ∀u∈vs,u.oneCell'=true):
  (storeVar ty ⟨b,p,none⟩ v).run prog w= .ok () (w.setCells b p vs):=by
 have:=run_storeCells_cells (P:=prog) b p vs 0 w (fun j hj=>by simpa using (ht j hj).1) (fun j hj=>by simpa using (ht j hj).2) h1
 cases hq:prog.info? ty with
 |none=>simp[hq] at hi
 |some i=>
  have hs:v.cells.size=i.size:=by
   have e:v.cells.size=vs.length:=by rw[←hv];simp
   simp[hq] at hi;omega
  simp only[Nat.add_zero] at this
  simp[storeVar,sizeOf,typeInfo,hq,hs,hv,this]
theorem st {E:List Nat} {L:List (Nat×List Value)} {b p:Nat} {cs vs:List Value} {v:Value} {x y:Operand} (i:Nat) (t:TypeId) (hw:Region.wanted o (yielded ops a.tmps)=true) (ho:o.op= .store t x y) (hx:a.eval x= .pointer (some ⟨b,p,none⟩)) (hy:a.eval y=v)
  (hv:v.cells.toList=vs) (h1: ∀u∈vs,u.oneCell'=true) (hi:(prog.info? t).map (·.size)=some vs.length) (hL:Hq w0 w E L) (hg:L[i]? =some (b,cs)) (hp:p+vs.length<=cs.length) (hE:b∈E∨w0.heap.size<=b)
  (h: ∀X,Hq w0 X E (L.set i (b,Dh cs p vs))->Fr w X [b]->X.heap.size=w.heap.size->wpList prog ops Q rest (a.put o.dst undef) X):wpList prog ops Q (o::rest) a w:=by
 refine BigFrame.wpList_want hw fun K hK=> ?_
 have hP:=hK _ _ (h _ (hL.put i hg p vs hp hE) (Fr.setCells w b p vs) (En _ _ _))
 unfold Oper.wp execOp
 simp only[ho,hx,hy,Instr.storeAt,Instr.sureAddr,Sem.run_bind,Sem.run_pure,Result.andThen_ok,Ee w b p t v vs hv ((hL.get i hg).there p vs.length hp) hi h1]
 exact hP
end
theorem ZaE (w:World):Calls prog 66 #[] w fun e w'=> ∃T:TT,e= .returned (.pointer (some ⟨T.t,0,none⟩))/\T.Is w'/\T.rows= []/\T.last=0/\(∀b∈T.blocks,w.heap.size<=b)/\Below w.heap.size w w':=by
 have hmm:= @run_makeMap prog
 go_enter func66,ntmps66
 go_wp2
 go_ret
 have hN:=Holds.new (w.alloc (Obj.map #[] 0)) [.map (some w.heap.size), .slice none 0 0, .int .u64 0] 166
 have hM:=MapIs.made w
 have hz:(w.alloc (Obj.map #[] 0)).heap.size=w.heap.size+1:=by simp
 rw[hz] at hN
 have hb:Below w.heap.size w ((w.alloc (Obj.map #[] 0)).alloc (Obj.cells #[Value.map (some w.heap.size),Value.slice none 0 0,Value.int IntKind.u64 0] 166)):=((Below.refl _ _).alloc (Nat.le_refl _) _).alloc (by simp) _
 refine⟨⟨w.heap.size+1,w.heap.size, .slice none 0 0, [],0⟩,rfl,⟨hN, ?_,OwnP.nil _,(fun r hr=>by cases hr),by simp[TT.blocks,Value.ownBlock],by simp,(fun r hr=>by cases hr),by simp[TT.live],(fun r hr=>by simp[TT.live] at hr)⟩,rfl,rfl, ?_,hb⟩
 ·refine MapIs.block (w:=w.alloc (Obj.map #[] 0)) ?_ (Below.heap_alloc _ _ _ (by simp))
  exact hM
 ·intro b hb
  simp[TT.blocks,Value.ownBlock] at hb
  rcases hb with rfl|rfl<;>simp
theorem ZbK {o:Oper} {a:Act} {w:World} {m:Operand} {b n sz:Nat} {F:KK->Option Nat} (ho:o.op= .call {callee:= .builtin .len,args:= #[m],argTypes:= #[163]}) (hm:a.eval m= .map (some b)) (h:MapIs w b n sz F):(execOp a.eval o).run prog w= .ok (.value (.int .i64 sz)) w:=by
 simp[execOp,ho,resolve,invoke,builtin,hm,h.len o.type,Result.andThen]
theorem len30 (T:TT) (w:World) (hT:T.Is w):Calls prog 177 #[.pointer (some ⟨T.t,0,none⟩)] w fun e w'=>e= .returned (.int .i64 T.live.length)/\w'=w:=by
 have HT:=Ab hT
 clear hT
 go_enter func177,ntmps177
 go_wp2_with (first|go_skip|(refine rd rfl (Ad 163 isAgg163 rfl rfl (Aa HT).tab rfl) ?_)|(refine rd rfl (ZbK rfl rfl (Aa HT).map) ?_))
 go_ret
 exact⟨rfl,rfl⟩
theorem TT.live_le (T:TT):T.live.length<=T.rows.length:=List.length_filter_le _ _
theorem ex_lenS {o:Oper} {a:Act} {w:World} {m:Operand} {v:Value} {l:List RR} (ho:o.op= .call {callee:= .builtin .len,args:= #[m],argTypes:= #[164]}) (hm:a.eval m=v) (h:OwnP w v (l.map (·.b))):(execOp a.eval o).run prog w= .ok (.value (.int .i64 (l.length:Nat))) w:=by
 have hv: ∃A c,v= .slice A l.length c:=by
  rcases h.2 with ⟨h1,h2⟩|⟨g,cap,cur,h1,h2⟩
  ·exact⟨none,0,by rw[h1];simp at h2;simp[h2]⟩
  ·exact⟨_,_,by rw[h1];simp;exact⟨rfl,rfl⟩⟩
 obtain⟨A,c,rfl⟩:=hv
 simp[execOp,ho,resolve,invoke,builtin,hm,Builtin.len_,Result.andThen,goInt,underlying164,run_underlying underlying164]
theorem ex_sub {o:Oper} {a:Act} {w:World} {x y:Operand} {m n:Nat} (ho:o.op= .binOp .sub 3 x y 3) (hx:a.eval x= .int .i64 (m:Nat)) (hy:a.eval y= .int .i64 (n:Nat)) (h:n<=m) (hm:m<=4000000):(execOp a.eval o).run prog w= .ok (.value (.int .i64 ((m - n:Nat):Int))) w:=by
 have e:((m - n:Nat):Int)=(m:Int) - (n:Int):=by omega
 rw[e]
 unfold execOp
 simp only[ho,hx,hy]
 have hs:=subI (m:Int) (n:Int) (by omega) (by omega) w
 simp[go_sem,eqGuard,hs,Result.andThen]
 rw[IntKind.wrap_i64]
 omega
theorem gaps38 (T:TT) (w:World) (hT:T.Is w) (hl:T.rows.length<=4000000):Calls prog 176 #[.pointer (some ⟨T.t,0,none⟩)] w fun e w'=>e= .returned (.int .i64 ((T.rows.length - T.live.length:Nat):Int))/\Below w.heap.size w w':=by
 have HT:=Ab hT
 clear hT
 go_enter func176,ntmps176
 go_wp2
 refine wp_region_held_drew (P:=prog) (S:=fun X=>T.Is X) (by kernel_rfl) (Aa HT).drew (fun hS0=> ?_)
 refine y0 0 (some 3) (.pointer (some ⟨T.t,0,none⟩)) rfl hS0 ?_
 refine y0 1 (some 4) (.pointer (some ⟨T.t,0,none⟩)) rfl hS0 ?_
 refine y0 2 (some 5) (.pointer (some ⟨T.t,1,none⟩)) rfl hS0 ?_
 refine y1 3 (some 6) (T.rv) rfl (fun X hX=>Ad 164 isAgg164 rfl rfl (hX.tab) rfl) hS0 ?_
 refine y1 4 (some 7) (.int .i64 (T.rows.length:Nat)) rfl (fun X hX=>ex_lenS rfl rfl hX.own) hS0 ?_
 refine y0 5 (some 8) (.pointer (some ⟨T.t,0,none⟩)) rfl hS0 ?_
 refine y0 6 (some 9) (.pointer (some ⟨T.t,0,none⟩)) rfl hS0 ?_
 refine y0 7 (some 10) (.pointer (some ⟨T.t,0,none⟩)) rfl hS0 ?_
 refine y1 8 (some 11) (.map (some T.m)) rfl (fun X hX=>Ad 163 isAgg163 rfl rfl (hX.tab) rfl) hS0 ?_
 refine y1 9 (some 12) (.int .i64 (T.live.length:Nat)) rfl (fun X hX=>ZbK rfl rfl hX.map) hS0 ?_
 refine y1 10 (some 13) (.int .i64 ((T.rows.length - T.live.length:Nat):Int)) rfl (fun X hX=>ex_sub rfl rfl rfl (by have:=T.live_le;omega) hl) hS0 ?_
 refine y0 11 (some 2) (.int .i64 ((T.rows.length - T.live.length:Nat):Int)) rfl hS0 ?_
 refine wpAnyH_done (by kernel_rfl) ?_ _
 try simp only[nn]
 go_wp2
 go_ret
 exact⟨rfl,(Below.refl _ _).drew⟩
theorem Kx (w:World) (a b:Array Value) (s t:TypeId):Below w.heap.size w ((w.alloc (Obj.cells a s)).alloc (Obj.cells b t)):=((Below.refl _ _).alloc (Nat.le_refl _) _).alloc (by simp) _
theorem Hq.two (w:World) (E:List Nat) (a b:List Value) (s t:TypeId) (ha:0<a.length) (hb:0<b.length):Hq w ((w.alloc (Obj.cells a.toArray s)).alloc (Obj.cells b.toArray t)) E [(w.heap.size,a),(w.heap.size+1,b)]:=by
 have h:=((Hq.nil w E).new a s ha).new b t hb
 rw[show (w.alloc (Obj.cells a.toArray s)).heap.size=w.heap.size+1 by simp] at h
 exact h
def getD (T:TT) (k:KK):DD:=((T.find k).map (·.d)).getD Al
theorem Ga: ∃d,prog.underlying 40=some d/\d.isRow=true:=⟨_,underlying40,rfl⟩
theorem Rp: ∃d,prog.underlying 43=some d/\d.isRow=true:=⟨_,underlying43,rfl⟩
theorem row58: ∃d,prog.underlying 45=some d/\d.isRow=true:=⟨_,underlying45,rfl⟩
theorem Gw:(prog.info? 40).map (·.size)=some 2:=by kernel_rfl
theorem Nb:(prog.info? 43).map (·.size)=some 18:=by kernel_rfl
theorem siz58:(prog.info? 45).map (·.size)=some 20:=by kernel_rfl
theorem Lq {o:Oper} {a:Act} {w:World} {m x:Operand} {b n sz:Nat} {F:KK->Option Nat} {k:KK} {r:Option Nat} (ho:o.op= .lookup 163 m x true) (hm:a.eval m= .map (some b)) (hx:a.eval x=k.agg) (h:MapIs w b n sz F) (hk:OkK k) (hr:F k=r):(execOp a.eval o).run prog w= .ok (.value (.tuple #[pv r, .bool r.isSome])) w:=by
 subst hr
 simp[execOp,ho,hm,hx,h.look hk,Result.andThen]
theorem ret_ct {fn:Func} {R:Ending->World->Prop} {a:Act} {w:World} {b r q:Nat} {d:DD} {v:Value} {cs:List Value} (hr:fn.results= #[.cell r 43, .tmp q]) (hdf:a.defers= [])
  (hx:a.tmps.getD r undef= .pointer (some ⟨b,0,none⟩)) (hq:a.tmps.getD q undef=v) (hc:Holds w b cs) (hcs:(cs.drop 0).take 18=d.cs) (h:R (.returned (.tuple #[d.agg,v])) w):bodyPost prog fn R .ret a w:=by
 obtain⟨t,hu,hd⟩:=Rp
 have h0:=hc.mid 0 18
 rw[hcs] at h0
 have hl:=run_loadVar_mid (P:=prog) w b 0 43 _ t h0 hu hd Nb
 refine⟨hdf,_, ?_,h⟩
 simp only[Array.getD_eq_getD_getElem?] at hx hq
 unfold results
 simp[hr,hx,hq,hl,asAddr]
 try rfl
theorem Uo (T:TT) (k:KK) (w:World) (hT:T.Is w) (hk:OkK k):Calls prog 90 #[.pointer (some ⟨T.t,0,none⟩),k.agg] w fun e w'=>e= .returned (.tuple #[(getD T k).agg, .bool (T.find k).isSome])/\Below w.heap.size w w':=by
 cases hf:T.find k with
 |none=>
  have HT:=Ab (hT.on (Kx w k.cs.toArray Al.cs.toArray 40 43))
  have LL:=Ab (Hq.two w [] k.cs Al.cs 40 43 (Nat.succ_pos _) (Nat.succ_pos _))
  have hB2:Hid (w.heap.size<=w.heap.size+1):=Ab (Nat.le_succ _)
  clear hT
  rw[show k.agg= .agg k.cs.toArray from rfl]
  go_enter func90,ntmps90
  go_wp2
  refine wp_region_held_drew (P:=prog) (S:=fun X=>T.Is X/\Hq w X [] [(w.heap.size,k.cs),(w.heap.size+1,Al.cs)]) (by kernel_rfl) ⟨(Aa HT).drew,(Aa LL).drew⟩ (fun hS0=> ?_)
  refine y0 0 (some 9) (.pointer (some ⟨T.t,0,none⟩)) rfl hS0 ?_
  refine y0 1 (some 10) (.pointer (some ⟨T.t,0,none⟩)) rfl hS0 ?_
  refine y0 2 (some 11) (.pointer (some ⟨T.t,0,none⟩)) rfl hS0 ?_
  refine y1 3 (some 12) (.map (some T.m)) rfl (fun X hX=>Ad 163 isAgg163 rfl rfl (hX.1.tab) rfl) hS0 ?_
  refine y1 4 (some 13) (k.agg) rfl (fun X hX=>Aj (vs:=k.cs) 40 2 Ga Gw rfl rfl (hX.2.get 0 rfl) rfl rfl) hS0 ?_
  refine y1 5 (some 14) (.tuple #[pv (none), .bool false]) rfl (fun X hX=>Lq (r:=none) rfl rfl rfl hX.1.map hk (by rw[hf];rfl)) hS0 ?_
  refine y0 6 (some 8) (.tuple #[pv (none), .bool false]) rfl hS0 ?_
  refine y0 7 (some 15) (pv (none)) rfl hS0 ?_
  refine y0 9 (some 6) (pv (none)) rfl hS0 ?_
  refine y0 8 (some 16) (.bool false) rfl hS0 ?_
  refine y0 10 (some 7) (.bool false) rfl hS0 ?_
  refine wpAnyH_done (by kernel_rfl) ?_ _
  try simp only[nn]
  replace HT:=Ab hS0.1
  replace LL:=Ab hS0.2
  clear hS0
  unfold pv
  go_wp2_with (first|go_skip|((refine st (vs:=Al.cs) 1 43 (by rfl) rfl rfl rfl rfl (by simp[Al,Bh,DD.cs,VV.cs,Value.oneCell']) Nb (Aa LL) rfl (by simp[Ns]) (Or.inr (Aa hB2)) ?_);intro w3 L3 hf3 hs3;replace LL:=Ab L3;clear L3 hf3 hs3;simp only[nn]))
  refine ret_ct (d:=Al) (r:=4) (q:=5) (b:=w.heap.size+1) rfl rfl rfl rfl ((Aa LL).get 1 rfl) rfl ⟨?_,(Aa LL).fr.below⟩
  unfold getD
  rw[hf]
  rfl
 |some r=>
  have HT:=Ab (hT.on (Kx w k.cs.toArray Al.cs.toArray 40 43))
  have LL:=Ab (Hq.two w [] k.cs Al.cs 40 43 (Nat.succ_pos _) (Nat.succ_pos _))
  have hB2:Hid (w.heap.size<=w.heap.size+1):=Ab (Nat.le_succ _)
  clear hT
  rw[show k.agg= .agg k.cs.toArray from rfl]
  go_enter func90,ntmps90
  go_wp2
  refine wp_region_held_drew (P:=prog) (S:=fun X=>T.Is X/\Hq w X [] [(w.heap.size,k.cs),(w.heap.size+1,Al.cs)]) (by kernel_rfl) ⟨(Aa HT).drew,(Aa LL).drew⟩ (fun hS0=> ?_)
  refine y0 0 (some 9) (.pointer (some ⟨T.t,0,none⟩)) rfl hS0 ?_
  refine y0 1 (some 10) (.pointer (some ⟨T.t,0,none⟩)) rfl hS0 ?_
  refine y0 2 (some 11) (.pointer (some ⟨T.t,0,none⟩)) rfl hS0 ?_
  refine y1 3 (some 12) (.map (some T.m)) rfl (fun X hX=>Ad 163 isAgg163 rfl rfl (hX.1.tab) rfl) hS0 ?_
  refine y1 4 (some 13) (k.agg) rfl (fun X hX=>Aj (vs:=k.cs) 40 2 Ga Gw rfl rfl (hX.2.get 0 rfl) rfl rfl) hS0 ?_
  refine y1 5 (some 14) (.tuple #[pv (some r.b), .bool true]) rfl (fun X hX=>Lq (r:=some r.b) rfl rfl rfl hX.1.map hk (by rw[hf];rfl)) hS0 ?_
  refine y0 6 (some 8) (.tuple #[pv (some r.b), .bool true]) rfl hS0 ?_
  refine y0 7 (some 15) (pv (some r.b)) rfl hS0 ?_
  refine y0 9 (some 6) (pv (some r.b)) rfl hS0 ?_
  refine y0 8 (some 16) (.bool true) rfl hS0 ?_
  refine y0 10 (some 7) (.bool true) rfl hS0 ?_
  refine wpAnyH_done (by kernel_rfl) ?_ _
  try simp only[nn]
  replace HT:=Ab hS0.1
  replace LL:=Ab hS0.2
  clear hS0
  have HR:=Ab ((Aa HT).rows r (T.find_mem hf).1)
  unfold pv
  go_wp2_with (first|go_skip|(refine rd rfl (Aj (vs:=r.d.cs) 43 18 Rp Nb rfl rfl (Aa HR) rfl rfl) ?_)|((refine st (vs:=r.d.cs) 1 43 (by rfl) rfl rfl rfl rfl (by simp[DD.cs,VV.cs,Value.oneCell']) Nb (Aa LL) rfl (by simp[Ns]) (Or.inr (Aa hB2)) ?_);intro w3 L3 hf3 hs3;replace LL:=Ab L3;clear L3 hf3 hs3;simp only[nn]))
  refine ret_ct (d:=r.d) (r:=4) (q:=5) (b:=w.heap.size+1) rfl rfl rfl rfl ((Aa LL).get 1 rfl) rfl ⟨?_,(Aa LL).fr.below⟩
  unfold getD
  rw[hf]
  rfl
end
section
open Go Go.Proofs Go.RowKit
theorem all_take {l:List KK} {j:Nat} (h:j<l.length):(l.take (j+1)).all goodK=((l.take j).all goodK && goodK l[j]):=by
 rw[List.take_succ_eq_append_getElem h,List.all_append]
 simp
theorem all_not {l:List KK} {j:Nat} (h:j<l.length) (hg:goodK l[j]=false):l.all goodK=false:=by
 rw[List.all_eq_false]
 exact⟨l[j],List.getElem_mem h,by rw[hg];decide⟩
theorem neq23 (k:KK) (w:World):(binOp .neq 40 k.agg k.agg).run Tryz.prog w= .ok (.bool false) w:=by
 unfold KK.agg
 have ht:Tryz.prog.underlying 40=some (.struct (Tryz.prog.fieldsOf 40)):=by kernel_rfl
 rw[run_neq_struct,show (10000:Nat)=9998+1+1 from rfl,run_equalIn_struct _ _ _ _ _ ht (by kernel_rfl)]
 have hf:Tryz.prog.fieldsOf 40=(match Tryz.prog.underlying 40 with|some (.struct f)=>f|_=> #[]):=by kernel_rfl
 rw[hf,Tryz.underlying40]
 simp[Op.eqFields,go_sem,part]
theorem small72 (u:Nat) (h:u<100) (w:World):Calls Tryz.prog 81 #[.int .u64 (u:Nat), .int .i64 10] w fun e w'=>e= .returned (.string ⟨(Lib.decDigits u).toArray⟩)/\w'=w:=by
 have z:(u:Int)<100:=by omega
 have HS:=Ab (fun w=>Tryz.internal_strconv_small u h w)
 generalize Lib.decDigits u=d at *
 go_enter Tryz.func81,Tryz.ntmps81
 go_wp2_with fail
 refine(Aa HS _).mono ?_
 rintro e w1 ⟨rfl,rfl⟩
 go_wp2
 go_ret
 exact⟨rfl,rfl⟩
end
section
open Go Go.Proofs Go.RowKit Go.Sort Tryz
def TabP (w : World) : Prop := Lib.TabIs prog w "internal/strconv.uint64pow10" .u64 Lib.pow10Tab
theorem TabP.on {w w':World} (h:TabP w) (hb:Below w.heap.size w w'):TabP w':=by
 unfold TabP Lib.TabIs World.var? at *
 cases hg : prog.globalNamed "internal/strconv.uint64pow10" with
 |none=>simp[hg] at h
 |some g=>
  simp only[hg,Option.bind_some] at h ⊢
  have hlt:g<w.heap.size:=by
   rcases Nat.lt_or_ge g w.heap.size with h'|h'
   ·exact h'
   ·rw[Array.getElem?_eq_none h'] at h;simp at h
  rw[hb.block g hlt]
  exact h
theorem holds0 (w:World) (T:TypeId) (nd:Nat) (hs:nd<=24):Sort.Holds (fun (b:UInt8)=>Value.int .u8 (b.toNat:Int)) (w.alloc (.cells Lib.zeros24 T)) w.heap.size 0 (Array.replicate nd (0:UInt8)):=fun j hj=>by
 have hj':j<nd:=by simpa using hj
 refine⟨?_,World.frozen?_alloc_new _ _ _ _⟩
 rw[World.cell?_alloc_new,Lib.zeros24_at _ (by omega),getElem!_pos _ j hj]
 simp
theorem fin0 (w:World) (o:Obj) (dk:Array UInt8) (k:Nat): ∃os,(Sort.putRow (fun (b:UInt8)=>Value.int .u8 (b.toNat:Int)) (w.alloc o) w.heap.size 0 dk).drewN k=Sort.grow (w.drewN k) os:=by
 rw[Sort.alloc_eq_grow]
 obtain⟨os',_,e⟩:=Sort.putRow_grow_new (fun (b:UInt8)=>Value.int .u8 (b.toNat:Int)) w #[o] w.heap.size 0 dk (Nat.le_refl _)
 exact⟨os',by rw[e];rfl⟩
theorem fmt72 (u:Nat) (h100:100<=u) (hu64:u<18446744073709551616) (w:World) (htab:TabP w):Calls prog 81 #[.int .u64 (u:Nat), .int .i64 10] w fun e w'=>e= .returned (.string ⟨(Lib.decDigits u).toArray⟩)/\Below w.heap.size w w':=by
 have z: ¬(u:Int)<100:=by omega
 have hu1:1<=u:=by omega
 have hnd20:Lib.nDigits u<=20:=by have:=Lib.numDigits_eq u hu1 hu64;split at this<;>omega
 have hal:prog.arrayLen 182=24:=by kernel_rfl
 have hsl: ∀W,(Instr.sliceAt 182 (.pointer (some ⟨w.heap.size,0,none⟩)) none (some (.int .i64 (Lib.nDigits u:Int))) none).run prog W= .ok (.slice (some ⟨w.heap.size,0,none⟩) (Lib.nDigits u) 24) W:=fun W=>by
  rw[run_sliceAt_array_h W 182 ⟨w.heap.size,0,none⟩ (by kernel_rfl) .i64 (Lib.nDigits u:Int) (by omega) (by rw[hal];omega)]
  go_simp
 have hH0:=holds0 w 182 (Lib.nDigits u) (by omega)
 have hfmt:=Tryz.internal_strconv_formatBase10 w.heap.size 0 24 u (Array.replicate (Lib.nDigits u) 0) (w.alloc (.cells Lib.zeros24 182)) hH0 (by rw[Array.size_replicate];exact Lib.lt_pow_nDigits u) hu64 (by rw[Array.size_replicate];omega)
 rw[Array.size_replicate] at hfmt
 have HH0:=Ab hH0
 have HF0:=Ab hfmt
 have HT:=Ab htab
 clear hH0 hal htab hfmt
 go_enter func81,ntmps81
 go_wp2_with fail
 refine(Tryz.internal_strconv_numDigits u hu1 hu64 _ (Lib.tabIs_alloc (Aa HT) _)).mono ?_
 rintro e w' ⟨rfl,rfl⟩
 go_wp2_with fail
 refine(Aa HF0).mono ?_
 rintro e w' ⟨rfl,k,v',dk,rfl,hF⟩
 have hcv:(convert 102 9 (.slice (some ⟨w.heap.size,0,none⟩) (Lib.nDigits u) 24)).run prog ((putRow (fun (b:UInt8)=>Value.int .u8 (b.toNat:Int)) (w.alloc (.cells Lib.zeros24 182)) w.heap.size 0 dk).drewN k)= .ok (.string ⟨(Lib.decDigits u).toArray⟩) ((putRow (fun (b:UInt8)=>Value.int .u8 (b.toNat:Int)) (w.alloc (.cells Lib.zeros24 182)) w.heap.size 0 dk).drewN k):=by
  have h:=run_convert_bytes_back (P:=prog) ((putRow (fun (b:UInt8)=>Value.int .u8 (b.toNat:Int)) (w.alloc (.cells Lib.zeros24 182)) w.heap.size 0 dk).drewN k) 102 9 5 ⟨w.heap.size,0,none⟩ 24 (Lib.decDigits u) underlying102 underlying5 underlying9 (fun j hj=>by
   rw[Lib.row_is_numeral hF j hj,Lib.add_plain,World.cell?_drewN]
   exact cell?_putRow (fun (b:UInt8)=>Value.int .u8 (b.toNat:Int)) _ w.heap.size 0 _ dk (Aa HH0) (by rw[hF.size,Array.size_replicate]) j (by rw[hF.size];rw[Lib.decDigits_length] at hj;exact hj))
  rw[Lib.decDigits_length] at h
  exact h
 go_wp2
 go_ret
 obtain⟨os,eo⟩:=fin0 w (.cells Lib.zeros24 182) dk k
 refine⟨rfl, ?_⟩
 rw[eo]
 exact Lib.below_grow _ _ (Nat.le_refl _) _ _

def Kv (u:Nat):ByteArray:=⟨(Lib.decDigits u).toArray⟩
theorem fmt46 (u:Nat) (hu:u<18446744073709551616) (w:World) (htab:TabP w):Calls prog 55 #[.int .u64 (u:Nat), .int .i64 10] w fun e w'=>e= .returned (.string (Kv u))/\Below w.heap.size w w':=by
 have H72:Hid (∀w,TabP w->Calls prog 81 #[.int .u64 (u:Nat), .int .i64 10] w fun e w'=>e= .returned (.string (Kv u))/\Below w.heap.size w w'):=Ab (fun w hT=>by
  by_cases h:u<100
  ·exact(small72 u h w).mono (fun e w' h=>⟨h.1,h.2▸Below.refl _ _⟩)
  ·exact fmt72 u (by omega) hu w hT)
 have HT:=Ab htab
 clear htab
 generalize Kv u=s at *
 go_enter func55,ntmps55
 go_wp2_with fail
 refine(Aa H72 _ (Aa HT)).mono ?_
 rintro _ w1 ⟨rfl,hb⟩
 go_wp2
 go_ret
 exact⟨rfl,hb⟩
end
section
open Go Go.Proofs Go.RowKit Go.Sort
theorem Yt (hi first:Nat): ∀(n root:Nat) (d:Array Nat),hi - root<=n->(siftDown ltN hi first root d).size=d.size:=by
 intro n
 induction n with
 |zero=>
  intro root d h
  rw[Ys _ _ _ _ (by omega)]
 |succ n ih=>
  intro root d h
  by_cases hs:2 * root+1≥hi
  ·rw[Ys _ _ _ _ hs]
  ·by_cases h1:2 * root+1+1<hi/\ltN d[first+(2 * root+1)]! d[first+(2 * root+1)+1]! =true
   ·rw[sd_two _ _ _ _ hs h1.1 h1.2]
    split
    ·rw[ih _ _ (by omega),De]
    ·rfl
   ·rw[Zbs _ _ _ _ hs h1]
    split
    ·rw[ih _ _ (by omega),De]
    ·rfl
theorem heap62 (blk cap a b:Nat) (d:Array Nat) (w:World) (hL:LiesU w blk d) (hab:a<b) (hb:b<=d.size) (hsz:d.size<=1500000):
  Calls Tryz.prog 198 #[.slice (some ⟨blk,0,none⟩) d.size cap, .int .i64 a, .int .i64 b] w fun e w'=>e= .returned (.tuple #[])/\LiesU w' blk (heapSort ltN d a b)/\w.grownBy w' (some blk):=by
 have HL:=Ab hL
 clear hL
 obtain⟨h,hh⟩: ∃h,h=b - a:=⟨_,rfl⟩
 have z1:IntKind.i64.wrap ((b:Int) - a)=(h:Int):=by rw[IntKind.wrap_i64];omega
 obtain⟨u,hu⟩: ∃u,u=h - 1:=⟨_,rfl⟩
 obtain⟨v,hv⟩: ∃v,v=u / 2:=⟨_,rfl⟩
 have z2:IntKind.i64.wrap ((h:Int) - 1)=(u:Int):=by rw[IntKind.wrap_i64];omega
 have z3:(u:Int).tdiv 2=(v:Int):=by rw[Int.tdiv_eq_ediv_of_nonneg (by omega)];omega
 have z3':(u:Int) / 2=(v:Int):=by omega
 have z4:IntKind.i64.wrap (v:Int)=(v:Int):=by rw[IntKind.wrap_i64];omega
 have hdef:heapSort ltN d a b=heapPop ltN a h (heapBuild ltN h a (v+1) d):=by unfold heapSort;rw[←hh,hv,hu]
 have HD:=Ab hdef
 have HH:=Ab (And.intro hh (And.intro hu hv))
 clear hdef hh hu hv
 go_enter Tryz.func198,Tryz.ntmps198
 go_wp2_with fail
 go_loopg [9] (v+1) (fun g s9 wr=> ∃(k:Nat) (dk:Array Nat),s9= .int .i64 ((k:Int) - 1)/\k<=v+1/\k<=g/\Hid (dk.size=d.size)/\Hid (LiesU wr blk dk)/\Hid (w.grownBy wr (some blk))/\Hid (heapBuild ltN h a k dk=heapBuild ltN h a (v+1) d))
 case atStart=>exact⟨v+1,d,by congr 1;omega,Nat.le_refl _,Nat.le_refl _,Ab rfl,HL,Ab (Gt _ _),Ab rfl⟩
 case round=>
  obtain⟨k,dk,hs9,hkv,hg,hsk,hLk,hGk,hOk⟩:=hrel
  cases k with
  |succ m=>
   have e9:(((m+1:Nat):Int) - 1)=(m:Int):=by omega
   rw[e9] at hs9
   subst hs9
   clear e9
   have HC:=Ab (sift78 blk cap m h a dk wr (Aa hLk) (by have:=Aa HH;have:=Aa hsk;omega) (by have:=Aa HH;have:=Aa hsk;omega) (by have:=Aa hsk;omega))
   rw[Aa hsk] at HC
   have y1:IntKind.i64.wrap ((m:Int) - 1)=(m:Int) - 1:=by have:=Aa HH;rw[IntKind.wrap_i64];omega
   have y2:(0:Int)<=m:=by omega
   go_wp2_with fail
   refine(Aa HC).mono ?_
   rintro e w1 ⟨rfl,hL1,hG1⟩
   have HL1:=Ab hL1
   have HG1:=Ab (Bm (Aa hGk) hG1)
   clear hL1 hG1
   go_wp2
   go_roundg m
   case measure=>omega
   case rel=>exact⟨m,siftDown ltN h a m dk,rfl,by omega,Nat.le_refl _,Ab (by rw[Yt h a _ _ _ (Nat.le_refl _)];exact Aa hsk),HL1,HG1,Ab (by rw[←Aa hOk];rfl)⟩
  |zero=>
   have e9:(((0:Nat):Int) - 1)= -1:=by omega
   rw[e9] at hs9
   subst hs9
   clear e9
   have HOk:=Ab (show dk=heapBuild ltN h a (v+1) d from Aa hOk)
   clear hOk
   go_wp2_with fail
   go_loopg [10] h (fun g s10 wr=> ∃(k:Nat) (dj:Array Nat),s10= .int .i64 ((k:Int) - 1)/\k<=h/\k<=g/\Hid (dj.size=d.size)/\Hid (LiesU wr blk dj)/\Hid (w.grownBy wr (some blk))/\Hid (heapPop ltN a k dj=heapPop ltN a h dk))
   case atStart=>exact⟨h,dk,by have:=Aa HH;congr 1;omega,Nat.le_refl _,Nat.le_refl _,hsk,hLk,hGk,Ab rfl⟩
   case round=>
    obtain⟨k,dj,hs9,hkv,hg,hsj,hLj,hGj,hOj⟩:=hrel
    cases k with
    |succ m=>
     have e9:(((m+1:Nat):Int) - 1)=(m:Int):=by omega
     rw[e9] at hs9
     subst hs9
     clear e9
     have hds:=Aa hsj
     have hhh:=Aa HH
     have hlt1:a<dj.size:=by omega
     have hlt2:a+m<dj.size:=by omega
     have HC:=Ab (fun X hX=>sift78 blk cap 0 m a (swp dj a (a+m)) X hX (by omega) (by rw[De];omega) (by rw[De];omega))
     rw[De,hds] at HC
     obtain⟨c1,f1⟩:=(Aa hLj).cell a hlt1
     obtain⟨c2,f2⟩:=(Aa hLj).cell (a+m) hlt2
     have HSw:=Ab (fun n=>((Aa hLj).drew n).swap a (a+m) hlt1 hlt2)
     have y1:IntKind.i64.wrap ((m:Int) - 1)=(m:Int) - 1:=by rw[IntKind.wrap_i64];omega
     have y2:(0:Int)<=m:=by omega
     have y3:IntKind.i64.wrap ((a:Int)+m)=(a:Int)+m:=by rw[IntKind.wrap_i64];omega
     have y4:((a:Int)+m).toNat=a+m:=by omega
     have y5:(a:Int)+m<d.size:=by omega
     have y6:(0:Int)<=(a:Int)+m:=by omega
     have y7:(a:Int)<d.size:=by omega
     clear hds hhh hlt1 hlt2
     by_cases hm0:m=0
     ·subst hm0
      simp only[Nat.add_zero] at c2 f2 HSw
      generalize dj[a]! =x at *
      go_wp2_with fail
      go_region
      all_goals go_wp2_with fail
      refine(Aa HC (((wr.setCell ⟨blk,a,none⟩ (.int .u32 (x:Nat))).setCell ⟨blk,a,none⟩ (.int .u32 (x:Nat))).drew) (LiesU.grown (Aa HSw 0) rfl)).mono ?_
      rintro e w1 ⟨rfl,hL1,hG1⟩
      have HL1:=Ab hL1
      have g0:=Bm (Aa hGj) (Dk wr blk a a (.int .u32 (x:Nat)) (.int .u32 (x:Nat)))
      have HG1:=Ab (Bm g0 ⟨hG1.os,hG1.tape,hG1.output,hG1.size,hG1.block⟩)
      clear hL1 hG1 g0
      go_wp2
      go_roundg 0
      case measure=>omega
      case rel=>exact⟨0,siftDown ltN 0 a 0 (swp dj a (a+0)),rfl,by omega,Nat.le_refl _,Ab (by rw[Yt 0 a _ _ _ (Nat.le_refl _),De];exact Aa hsj),HL1,HG1,Ab (by rw[←Aa hOj];rfl)⟩
     ·have n1: ¬a+m=a:=by omega
      have n2: ¬a=a+m:=by omega
      generalize dj[a]! =x at *
      generalize dj[a+m]! =y at *
      go_wp2_with fail
      go_region
      all_goals go_wp2_with fail
      refine(Aa HC _ (Aa HSw _)).mono ?_
      rintro e w1 ⟨rfl,hL1,hG1⟩
      have HL1:=Ab hL1
      have HG1:=Ab (Bm (Bm (Dc (Aa hGj) _) (Dk _ _ _ _ _ _)) hG1)
      clear hL1 hG1
      go_wp2
      go_roundg m
      case measure=>omega
      case rel=>exact⟨m,siftDown ltN m a 0 (swp dj a (a+m)),rfl,by omega,Nat.le_refl _,Ab (by rw[Yt m a _ _ _ (Nat.le_refl _),De];exact Aa hsj),HL1,HG1,Ab (by rw[←Aa hOj];rfl)⟩
    |zero=>
     have e9:(((0:Nat):Int) - 1)= -1:=by omega
     rw[e9] at hs9
     subst hs9
     clear e9
     go_wp2
     go_end0
     refine⟨rfl, ?_,Aa hGj⟩
     rw[Aa HD,←Aa HOk,←Aa hOj]
     exact Aa hLj
theorem bl_all: ∀(f x:Nat),x<=f->1<=x->x<18446744073709551616->x<2^Lib.bitLen x/\2^Lib.bitLen x<=2 * x:=by
 intro f
 induction f with
 |zero=>intro x h1 h2;omega
 |succ f ih=>
  intro x h1 h2 h3
  rw[Lib.bitLen_half x (by omega) h3,Nat.pow_add,Nat.pow_one]
  by_cases h:x / 2=0
  ·rw[h,show Lib.bitLen 0=0 by decide+kernel]
   omega
  ·have:=ih (x / 2) (by omega) (by omega) (by omega)
   omega
theorem bl_le (n:Nat) (h0:8<=n) (h1:n<=1500000):n<2^Lib.bitLen n/\2^Lib.bitLen n<=2 * n/\Lib.bitLen n<=21:=by
 have h:=bl_all n n (Nat.le_refl _) (by omega) (by omega)
 refine⟨h.1,h.2, ?_⟩
 rcases Nat.lt_or_ge 21 (Lib.bitLen n) with hk|hk
 ·have:=Nat.pow_le_pow_right (n:=2) (by omega) hk
  simp at this
  omega
 ·exact hk
theorem pow79 (n:Nat) (h0:8<=n) (h1:n<=1500000) (w:World):Calls Tryz.prog 208 #[.int .i64 (n:Nat)] w fun e w'=>(∃m k:Nat,e= .returned (.int .u64 m)/\m=2^k/\n<m/\m<=2 * n)/\w'=w:=by
 have hb:=bl_le n h0 h1
 have HC:=Ab (Tryz.bits_Len (n:Int) w (by omega) (by omega))
 rw[Int.toNat_natCast] at HC
 have HB:=Ab hb
 obtain⟨k,hk⟩: ∃k,k=Lib.bitLen n:=⟨_,rfl⟩
 rw[←hk] at HC HB hb
 have hk12:=hb.2.2
 clear hk hb
 have z1:IntKind.u64.wrap (n:Int)=(n:Int):=by simp[IntKind.wrap,IntKind.bits,IntKind.signed];omega
 go_enter Tryz.func208,Tryz.ntmps208
 go_wp2_with fail
 refine(Aa HC).mono ?_
 rintro e w' ⟨rfl,rfl⟩
 have hcases:k=0∨k=1∨k=2∨k=3∨k=4∨k=5∨k=6∨k=7∨k=8∨k=9∨k=10∨k=11∨k=12∨k=13∨k=14∨k=15∨k=16∨k=17∨k=18∨k=19∨k=20∨k=21:=by omega
 rcases hcases with rfl|rfl|rfl|rfl|rfl|rfl|rfl|rfl|rfl|rfl|rfl|rfl|rfl|rfl|rfl|rfl|rfl|rfl|rfl|rfl|rfl|rfl
 all_goals
  go_wp2
  go_ret
  first
   |exact⟨⟨1,0,rfl,rfl,(Aa HB).1,(Aa HB).2.1⟩,rfl⟩
   |exact⟨⟨2,1,rfl,rfl,(Aa HB).1,(Aa HB).2.1⟩,rfl⟩
   |exact⟨⟨4,2,rfl,rfl,(Aa HB).1,(Aa HB).2.1⟩,rfl⟩
   |exact⟨⟨8,3,rfl,rfl,(Aa HB).1,(Aa HB).2.1⟩,rfl⟩
   |exact⟨⟨16,4,rfl,rfl,(Aa HB).1,(Aa HB).2.1⟩,rfl⟩
   |exact⟨⟨32,5,rfl,rfl,(Aa HB).1,(Aa HB).2.1⟩,rfl⟩
   |exact⟨⟨64,6,rfl,rfl,(Aa HB).1,(Aa HB).2.1⟩,rfl⟩
   |exact⟨⟨128,7,rfl,rfl,(Aa HB).1,(Aa HB).2.1⟩,rfl⟩
   |exact⟨⟨256,8,rfl,rfl,(Aa HB).1,(Aa HB).2.1⟩,rfl⟩
   |exact⟨⟨512,9,rfl,rfl,(Aa HB).1,(Aa HB).2.1⟩,rfl⟩
   |exact⟨⟨1024,10,rfl,rfl,(Aa HB).1,(Aa HB).2.1⟩,rfl⟩
   |exact⟨⟨2048,11,rfl,rfl,(Aa HB).1,(Aa HB).2.1⟩,rfl⟩
   |exact⟨⟨4096,12,rfl,rfl,(Aa HB).1,(Aa HB).2.1⟩,rfl⟩
   |exact⟨⟨8192,13,rfl,rfl,(Aa HB).1,(Aa HB).2.1⟩,rfl⟩
   |exact⟨⟨16384,14,rfl,rfl,(Aa HB).1,(Aa HB).2.1⟩,rfl⟩
   |exact⟨⟨32768,15,rfl,rfl,(Aa HB).1,(Aa HB).2.1⟩,rfl⟩
   |exact⟨⟨65536,16,rfl,rfl,(Aa HB).1,(Aa HB).2.1⟩,rfl⟩
   |exact⟨⟨131072,17,rfl,rfl,(Aa HB).1,(Aa HB).2.1⟩,rfl⟩
   |exact⟨⟨262144,18,rfl,rfl,(Aa HB).1,(Aa HB).2.1⟩,rfl⟩
   |exact⟨⟨524288,19,rfl,rfl,(Aa HB).1,(Aa HB).2.1⟩,rfl⟩
   |exact⟨⟨1048576,20,rfl,rfl,(Aa HB).1,(Aa HB).2.1⟩,rfl⟩
   |exact⟨⟨2097152,21,rfl,rfl,(Aa HB).1,(Aa HB).2.1⟩,rfl⟩
theorem and_lt (r k:Nat) (hk:k<=21) (hr:r<2^64): ∃o:Nat,o<2^k/\bits .and .u64 (r:Int) ((2^k - 1:Nat):Int)=(o:Int):=by
 have hp:2^k<=2097152:=Nat.pow_le_pow_right (n:=2) (by omega) hk
 have h0:0<2^k:=Nat.two_pow_pos k
 refine⟨r &&& (2^k - 1), ?_,u64_and_nat r _ hr (by omega)⟩
 rw[Nat.and_two_pow_sub_one_eq_mod]
 exact Nat.mod_lt _ h0
theorem break63 (blk cap a b:Nat) (d:Array Nat) (w:World) (hL:LiesU w blk d) (hab:a+8<=b) (hb:b<=d.size) (hsz:d.size<=1500000):
  Calls Tryz.prog 199 #[.slice (some ⟨blk,0,none⟩) d.size cap, .int .i64 a, .int .i64 b] w fun e w'=>e= .returned (.tuple #[])/\ ∃d',PermIn a b d d'/\LiesU w' blk d'/\w.grownBy w' (some blk):=by
 have HL:=Ab hL
 have hlt:=hL.lt
 clear hL
 obtain⟨l,hl⟩: ∃l,l=b - a:=⟨_,rfl⟩
 obtain⟨q,hq⟩: ∃q,q=l / 4:=⟨_,rfl⟩
 obtain⟨t0,ht0⟩: ∃t,t=a+2 * q - 1:=⟨_,rfl⟩
 obtain⟨t1,ht1⟩: ∃t,t=a+2 * q+1:=⟨_,rfl⟩
 obtain⟨t2,ht2⟩: ∃t,t=a+2 * q:=⟨_,rfl⟩
 have z1:IntKind.i64.wrap ((b:Int) - a)=(l:Int):=by rw[IntKind.wrap_i64];omega
 have z2:(l:Int).tdiv 4=(q:Int):=by rw[Int.tdiv_eq_ediv_of_nonneg (by omega)];omega
 have z2':(l:Int) / 4=(q:Int):=by omega
 have z3:IntKind.i64.wrap ((q:Int))=(q:Int):=by rw[IntKind.wrap_i64];omega
 have z4:IntKind.i64.wrap ((q:Int) * 2)=2 * (q:Int):=by rw[IntKind.wrap_i64];omega
 have z5:IntKind.i64.wrap ((a:Int)+2 * (q:Int))=(t2:Int):=by rw[IntKind.wrap_i64];omega
 have z6:IntKind.i64.wrap ((t2:Int) - 1)=(t0:Int):=by rw[IntKind.wrap_i64];omega
 have z7:IntKind.i64.wrap ((t2:Int)+1)=(t1:Int):=by rw[IntKind.wrap_i64];omega
 have z8:IntKind.u64.wrap (l:Int)=(l:Int):=by simp[IntKind.wrap,IntKind.bits,IntKind.signed];omega
 have z9:(8:Int)<=l:=by omega
 have HM:=Ab (pow79 l (by omega) (by omega))
 have HQ:=Ab (And.intro hl (And.intro hq (And.intro ht0 (And.intro ht1 ht2))))
 clear hl hq ht0 ht1 ht2
 go_enter Tryz.func199,Tryz.ntmps199
 go_wp2_with fail
 refine(Aa HM _).mono ?_
 rintro e w1 ⟨⟨m,k,rfl,hm,hm1,hm2⟩,rfl⟩
 have hk12:k<=21:=by
  rcases Nat.lt_or_ge 21 k with hk|hk
  ·have:=Nat.pow_le_pow_right (n:=2) (by omega) hk
   have:=Aa HQ
   simp at *
   omega
  ·exact hk
 have HMK:=Ab hm
 clear hm
 obtain⟨m1,hm1'⟩: ∃m1,m1=m - 1:=⟨_,rfl⟩
 have y0:IntKind.u64.wrap ((m:Int) - 1)=(m1:Int):=by have:=Aa HQ;simp[IntKind.wrap,IntKind.bits,IntKind.signed];omega
 have HAnd:Hid (∀r:Nat,r<2^64-> ∃o:Nat,o<m/\bits .and .u64 (r:Int) (m1:Int)=(o:Int)):=Ab (fun r hr=>by
  obtain⟨o,h1,h2⟩:=and_lt r k hk12 hr
  rw[←Aa HMK] at h1 h2
  rw[←hm1'] at h2
  exact⟨o,h1,h2⟩)
 clear hm1'
 have hR0:Rn (w.alloc (Obj.cells #[Value.int IntKind.u64 (l:Nat)] 275)) w.heap.size l:=(show (w.heap.push _)[w.heap.size]? =_ from Array.getElem?_push_size)
 have HR0:=Ab hR0
 have b0:=(Below.refl w.heap.size w).alloc (Nat.le_refl _) (Obj.cells #[Value.int IntKind.u64 (l:Nat)] 275)
 have HL0:=Ab ((Aa HL).grown (b0.block blk hlt))
 have HG0:Hid (w.grownBy (w.alloc (Obj.cells #[Value.int IntKind.u64 (l:Nat)] 275)) (some blk)):=Ab ⟨b0.os,b0.tape,b0.output,b0.size,fun c hc _=>b0.block c hc⟩
 have hBB:some blk≠some w.heap.size:=fun e=>by have:=Option.some.inj e;omega
 clear hR0 b0
 go_wp2_with fail
 go_loopg [9] (d.size+2) (fun g s9 wr=> ∃(x r:Nat) (dk:Array Nat),s9= .int .i64 x/\t0<=x/\x<=t1+1/\d.size+2 - x<=g/\Hid (dk.size=d.size)/\Hid (LiesU wr blk dk)/\Hid (Rn wr w.heap.size r)/\r<2^64/\Hid (w.grownBy wr (some blk))/\Hid (PermIn a b d dk))
 case atStart=>exact⟨t0,l,d,rfl,Nat.le_refl _,by have:=Aa HQ;omega,by have:=Aa HQ;omega,Ab rfl,HL0,HR0,by have:=Aa HQ;omega,HG0,Ab (permIn_refl d a b)⟩
 case round=>
  obtain⟨x,r,dk,rfl,hx1,hx2,hg,hsk,hLk,hRk,hr64,hGk,hPk⟩:=hrel
  by_cases hxt:x<=t1
  ·have y1:(x:Int)<=t1:=by omega
   have HN:=Ab (next80 w.heap.size r wr (Aa hRk) hr64)
   clear hr64
   go_wp2_with fail
   refine(Aa HN).mono ?_
   rintro e w1 ⟨r',hr',rfl,hR1,hG1⟩
   obtain⟨o,ho1,ho2⟩:=Aa HAnd r' hr'
   have HL1:=Ab ((Aa hLk).gb hG1 hBB)
   have HG1:Hid (w.grownBy w1 (some blk)):=Ab ⟨hG1.os.trans (Aa hGk).os,hG1.tape.trans (Aa hGk).tape,hG1.output.trans (Aa hGk).output,Nat.le_trans (Aa hGk).size hG1.size,fun c hc hne=>(hG1.block c (Nat.lt_of_lt_of_le hc (Aa hGk).size) (fun e=>by have:=Option.some.inj e;omega)).trans ((Aa hGk).block c hc hne)⟩
   have HR1:=Ab hR1
   have hlq:=Aa HQ
   have y2:IntKind.i64.wrap (o:Int)=(o:Int):=by rw[IntKind.wrap_i64];omega
   have hds:=Aa hsk
   obtain⟨o2,ho3⟩: ∃o2,o2=if l<=o then o - l else o:=⟨_,rfl⟩
   have ho4:o2<l:=by rw[ho3];split<;>omega
   have y4:IntKind.i64.wrap ((a:Int)+o2)=(a:Int)+o2:=by rw[IntKind.wrap_i64];omega
   have y5:((a:Int)+o2).toNat=a+o2:=by omega
   have y6:(0:Int)<=(a:Int)+o2:=by omega
   have y7:(a:Int)+o2<d.size:=by omega
   have y8:(x:Int)<d.size:=by omega
   have y9:IntKind.i64.wrap ((x:Int)+1)=((x+1:Nat):Int):=by rw[IntKind.wrap_i64];omega
   obtain⟨c1,f1⟩:=(Aa HL1).cell x (by omega)
   obtain⟨c2,f2⟩:=(Aa HL1).cell (a+o2) (by omega)
   have HSw:=Ab (fun n=>((Aa HL1).drew n).swap x (a+o2) (by omega) (by omega))
   have HP1:=Ab (permIn_trans d dk (swp dk x (a+o2)) a b (Aa hPk) (swp_permIn dk a b x (a+o2) (by omega) (by omega) (by omega) (by omega) (by omega)))
   have HRn:Hid (∀(X:World),w1.grownBy X (some blk)->Rn X w.heap.size r'):=Ab (fun X hX=>by
    unfold Rn
    rw[hX.block _ (Aa HR1).cell.2.2 (fun e=>hBB e.symm)]
    exact Aa HR1)
   have hoo:=Classical.em (l<=o)
   clear hR1 hG1 hlq hds hRk hLk hGk
   rcases hoo with hoo|hoo
   all_goals
    first
    |(have x1:(l:Int)<=o:=(by omega)
      rw[if_pos hoo] at ho3
      have x2:IntKind.i64.wrap ((o:Int) - l)=(o2:Int):=(by rw[IntKind.wrap_i64];omega)
      have HO3:=Ab ho3
      clear ho3
      go_wp2_with fail)
    |(have x1: ¬(l:Int)<=o:=(by omega)
      rw[if_neg hoo] at ho3
      subst ho3
      go_wp2_with fail)
    have hxx:=Classical.em (x=a+o2)
    rcases hxx with hxx|hxx
    all_goals
     first
     |(subst hxx
       generalize dk[a+o2]! =xv at *
       go_region
       all_goals go_wp2
       go_roundg (d.size+2 - (a+o2+1))
       case measure=>omega
       case rel=>
        have g0:=Dk w1 blk (a+o2) (a+o2) (.int .u32 (xv:Nat)) (.int .u32 (xv:Nat))
        exact⟨a+o2+1,r',swp dk (a+o2) (a+o2),by go_num,by omega,by omega,Nat.le_refl _,Ab (by rw[De];exact Aa hsk),Ab (LiesU.grown (Aa HSw 0) rfl),Ab (Aa HRn _ ⟨g0.os,g0.tape,g0.output,g0.size,g0.block⟩),hr',Ab (Bm (Aa HG1) ⟨g0.os,g0.tape,g0.output,g0.size,g0.block⟩),HP1⟩)
     |(have n1: ¬a+o2=x:=(fun e=>hxx e.symm)
       generalize dk[x]! =xv at *
       generalize dk[a+o2]! =yv at *
       go_region
       all_goals go_wp2
       go_roundg (d.size+2 - (x+1))
       case measure=>omega
       case rel=>
        have g0:=Dk w1 blk x (a+o2) (.int .u32 (yv:Nat)) (.int .u32 (xv:Nat))
        exact⟨x+1,r',swp dk x (a+o2),by go_num,by omega,by omega,Nat.le_refl _,Ab (by rw[De];exact Aa hsk),Ab (LiesU.grown (Aa HSw 0) rfl),Ab (Aa HRn _ ⟨g0.os,g0.tape,g0.output,g0.size,g0.block⟩),hr',Ab (Bm (Aa HG1) ⟨g0.os,g0.tape,g0.output,g0.size,g0.block⟩),HP1⟩)
  ·have y1: ¬(x:Int)<=t1:=by omega
   go_wp2
   go_end0
   exact⟨rfl,dk,Aa hPk,Aa hLk,Aa hGk⟩
