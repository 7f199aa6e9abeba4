import Derived.Test.YtfnohipnenkhoaaGreatDoorQk
import Derived.Test.YtfnohipnenkhoaaGreatDoorQj
import Derived.Test.YtfnohipnenkhoaaGreatDoorQe
import Derived.Test.YtfnohipnenkhoaaGreatDoorQf
import Derived.Test.YtfnohipnenkhoaaGreatDoorQg
import Derived.Carry
import Derived.Laws.StructEq
import Derived.Lib.ItoaMem
import Derived.Lib.AppendIntMem
import Derived.Sort.Lot0
import Derived.Sort.LotA
import Derived.Sort.LotB
import Derived.Sort.LotD3
import Derived.Deep.CutRange
set_option linter.all false
namespace Go.Proofs.YtfnohipnenkhoaaGreatDoor
set_option maxRecDepth 100000
set_option maxHeartbeats 0
section
open Go Go.Proofs Go.Maps Go.RowKit
structure Fr (w X:World) (E:List Nat):Prop where
 os:X.os=w.os
 tape:X.tape=w.tape
 output:X.output=w.output
 size:w.heap.size<=X.heap.size
 block: ∀b,b<w.heap.size->b ∉ E->X.heap[b]? =w.heap[b]?
theorem Fr.refl (w:World) (E:List Nat):Fr w w E:=⟨rfl,rfl,rfl,Nat.le_refl _,fun _ _ _=>rfl⟩
theorem Fr.trans {w X Y:World} {E E':List Nat} (h:Fr w X E) (k:Fr X Y E') (hE: ∀b∈E',b∈E∨w.heap.size<=b):Fr w Y E:=
 ⟨k.os.trans h.os,k.tape.trans h.tape,k.output.trans h.output,Nat.le_trans h.size k.size,fun b hb he=>
  (k.block b (Nat.lt_of_lt_of_le hb h.size) (fun he'=>(hE b he').elim he (fun h2=>by omega))).trans (h.block b hb he)⟩
theorem Fr.of_below {w X:World} (h:Below w.heap.size w X) (E:List Nat):Fr w X E:=⟨h.os,h.tape,h.output,h.size,fun b hb _=>h.block b hb⟩
theorem Fr.below {w X:World} (h:Fr w X []):Below w.heap.size w X:=⟨h.os,h.tape,h.output,h.size,fun b hb=>h.block b hb (by simp)⟩
theorem Fr.on {w X Y:World} {E:List Nat} (h:Fr w X E) (k:Below X.heap.size X Y):Fr w Y E:=h.trans (Fr.of_below k []) (by simp)
theorem Fr.mono {w X:World} {E E':List Nat} (h:Fr w X E) (hE: ∀b∈E,b∈E'∨w.heap.size<=b):Fr w X E':=(Fr.refl w E').trans h hE
theorem Fr.drew {w X:World} {E:List Nat} (h:Fr w X E):Fr w X.drew E:=⟨h.os,h.tape,h.output,h.size,h.block⟩
theorem Nd (b:Nat): ∀(vs:List Value) (o:Nat) (X:World),(X.setCells b o vs).os=X.os/\(X.setCells b o vs).tape=X.tape/\(X.setCells b o vs).output=X.output
 | [],_,_=>⟨rfl,rfl,rfl⟩
 |v::vs,o,X=>by
  obtain⟨h1,h2,h3⟩:=Nd b vs (o+1) (X.setCell ⟨b,o,none⟩ v)
  rw[World.setCells]
  exact⟨h1,h2,h3⟩
theorem Fr.setCells (X:World) (b p:Nat) (vs:List Value):Fr X (X.setCells b p vs) [b]:=
 ⟨(Nd b vs p X).1,(Nd b vs p X).2.1,(Nd b vs p X).2.2,by rw[Gq];exact Nat.le_refl _,fun g _ hg=>Gs b vs p X g (by simpa using hg)⟩
theorem Fr.grown {X Y:World} {row:Option Nat} (h:X.grownBy Y row):Fr X Y row.toList:=
 ⟨h.os,h.tape,h.output,h.size,fun b hb hE=>h.block b hb (fun e=>hE (by rw[←e];simp))⟩
structure Hq (w X:World) (E:List Nat) (L:List (Nat×List Value)):Prop where
 fr:Fr w X E
 all: ∀q∈L,Holds X q.1 q.2/\0<q.2.length
 nd:(L.map (·.1)).Nodup
theorem Hq.nil (w:World) (E:List Nat):Hq w w E []:=⟨Fr.refl _ _,(fun q hq=>by cases hq),by simp⟩
theorem Hq.lt {w X:World} {E:List Nat} {L:List (Nat×List Value)} (h:Hq w X E L): ∀q∈L,q.1<X.heap.size:=fun q hq=>(h.all q hq).1.lt (h.all q hq).2
theorem Hq.get {w X:World} {E:List Nat} {L:List (Nat×List Value)} (h:Hq w X E L) (i:Nat) {b:Nat} {cs:List Value} (hi:L[i]? =some (b,cs)):Holds X b cs:=(h.all _ (List.mem_of_getElem? hi)).1
theorem Hq.drew {w X:World} {E:List Nat} {L:List (Nat×List Value)} (h:Hq w X E L):Hq w X.drew E L:=⟨h.fr.drew,fun q hq=>⟨(h.all q hq).1.block rfl,(h.all q hq).2⟩,h.nd⟩
theorem Hq.on {w X Y:World} {E:List Nat} {L:List (Nat×List Value)} (h:Hq w X E L) (k:Below X.heap.size X Y):Hq w Y E L:=
 ⟨h.fr.on k,fun q hq=>⟨(h.all q hq).1.block (k.block _ (h.lt q hq)),(h.all q hq).2⟩,h.nd⟩
theorem Hq.step {w X Y:World} {E E':List Nat} {L:List (Nat×List Value)} (h:Hq w X E L) (k:Fr X Y E') (hE: ∀b∈E',b∈E∨w.heap.size<=b) (hL: ∀q∈L,q.1 ∉ E'):Hq w Y E L:=
 ⟨h.fr.trans k hE,fun q hq=>⟨(h.all q hq).1.block (k.block _ (h.lt q hq) (hL q hq)),(h.all q hq).2⟩,h.nd⟩
theorem Hq.add {w X:World} {E:List Nat} {L:List (Nat×List Value)} (h:Hq w X E L) {b:Nat} {cs:List Value} (hb:Holds X b cs) (hc:0<cs.length) (hn: ∀q∈L,q.1≠b):Hq w X E (L++ [(b,cs)]):=by
 refine⟨h.fr,fun q hq=> ?_, ?_⟩
 ·rcases List.mem_append.1 hq with hq|hq
  ·exact h.all q hq
  ·obtain rfl:q=(b,cs):=by simpa using hq
   exact⟨hb,hc⟩
 ·rw[List.map_append,List.nodup_append]
  refine⟨h.nd,by simp,fun x hx y hy=> ?_⟩
  obtain⟨q,hq,rfl⟩:=List.mem_map.1 hx
  obtain rfl:y=b:=by simpa using hy
  exact hn q hq
theorem Hq.new {w X:World} {E:List Nat} {L:List (Nat×List Value)} (h:Hq w X E L) (cs:List Value) (t:TypeId) (hc:0<cs.length):Hq w (X.alloc (Obj.cells cs.toArray t)) E (L++ [(X.heap.size,cs)]):=
 (h.on ((Below.refl _ _).alloc (Nat.le_refl _) _)).add (Holds.new X cs t) hc (fun q hq=>Nat.ne_of_lt (h.lt q hq))
theorem Hq.put {w X:World} {E:List Nat} {L:List (Nat×List Value)} (h:Hq w X E L) (i:Nat) {b:Nat} {cs:List Value} (hi:L[i]? =some (b,cs)) (p:Nat) (vs:List Value) (hp:p+vs.length<=cs.length) (hE:b∈E∨w.heap.size<=b):Hq w (X.setCells b p vs) E (L.set i (b,Bw cs p vs)):=by
 have hil:=(List.getElem?_eq_some_iff.1 hi).1
 have hie:=(List.getElem?_eq_some_iff.1 hi).2
 have hH:=h.get i hi
 have hlen:(Bw cs p vs).length=cs.length:=by simp[Bw];omega
 refine⟨h.fr.trans (Fr.setCells X b p vs) (by simpa using hE),fun q hq=> ?_, ?_⟩
 ·rcases List.getElem?_of_mem hq with ⟨j,hj⟩
  rw[List.getElem?_set] at hj
  split at hj
  ·rename_i e
   subst e
   obtain rfl:=Option.some.inj hj
   have h1:=(h.all _ (List.mem_of_getElem? hi)).2
   exact⟨hH.put p vs hp,by simpa [hlen] using h1⟩
  ·rename_i e
   have hm:=List.mem_of_getElem? hj
   refine⟨(h.all q hm).1.block (Gs b vs p X q.1 ?_),(h.all q hm).2⟩
   intro eb
   have hjl:=(List.getElem?_eq_some_iff.1 hj).1
   have h1:(L.map (·.1))[i]? =some b:=by simp[hi]
   have h2:(L.map (·.1))[j]? =some b:=by simp[hj,eb]
   have:=(List.getElem?_inj (by simpa using hil) h.nd).1 (h1.trans h2.symm)
   exact e this
 ·have e:(L.set i (b,Bw cs p vs)).map (·.1)=L.map (·.1):=by
   rw[List.map_set]
   apply List.ext_getElem?
   intro j
   rw[List.getElem?_set]
   split
   ·rename_i e
    subst e
    simp[hil,hie]
   ·rfl
  rw[e]
  exact h.nd
end
section
open Go Go.Proofs Go.RowKit
def goodK (k:KK):Bool:=(Qz k.s k.n).good
theorem ZcD (k:KK):goodK k=if k.n=0 then decide (k.s.size<=1048576) && vS k.s else decide (1<=k.n) && decide (k.n<=65536) && k.s.toList.isEmpty:=by
 unfold goodK Qz
 by_cases h:k.n=0
 ·rw[if_pos h,if_pos h]
  simp[VV.good,Nh,inG,Zbm,Zan,vS]
 ·rw[if_neg h,if_neg h]
  simp[VV.good,Nh,inG,Zbm]
  cases k.s.toList.isEmpty<;>simp
theorem Zag {k:KK} (h:goodK k=true):k.s.size<=1048576:=ZeY h
theorem goodK_n {k:KK} (h:goodK k=true):0<=k.n/\k.n<=65536:=by
 rw[ZcD] at h
 by_cases hn:k.n=0
 ·omega
 ·rw[if_neg hn] at h
  simp at h
  omega
theorem subI (x y:Int) (hx: -1099511627776<=x/\x<=1099511627776) (hy: -1099511627776<=y/\y<=1099511627776) (w:World):(binOp .sub 3 (.int .i64 x) (.int .i64 y)).run Tryz.prog w= .ok (.int .i64 (x - y)) w:=by
 have e:IntKind.i64.wrap (x - y)=x - y:=by
  rw[IntKind.wrap_i64]
  omega
 simp[binOp,go_sem,e]
theorem kd_range (s:ByteArray) (n:Int):0<=ZaM s n/\ZaM s n<=2:=by
 unfold ZaM
 split
 ·split<;>omega
 ·omega
theorem kn_le (s:ByteArray) (n:Int):ZbF s n<=4294967294:=by
 unfold ZbF
 split
 ·cases h:Qb (Eb s) with
  |none=>simp
  |some m=>simpa using Zea _ _ h
 ·omega
end
section
open Go Go.Proofs Go.Maps Go.RowKit Tryz
instance decK:DecidableEq KK:=fun a b=>decidable_of_iff (a.s=b.s/\a.n=b.n) ⟨fun h=>KK.ext' h.1 h.2,fun h=>h▸⟨rfl,rfl⟩⟩
structure RR where
 b:Nat
 k:KK
 d:DD
 n:Nat
 gone:Bool
def RR.cs (r:RR):List Value:=r.k.cs++(r.d.cs++ [.int .u64 r.n, .bool r.gone])
theorem Ua (d:DD):d.cs.length=18:=rfl
theorem Ew (r:RR):r.cs.length=22:=rfl
def Pu (l:List Nat):List Value:=l.map (fun b=> .pointer (some ⟨b,0,none⟩))
def OwnP (W:World) (v:Value) (l:List Nat):Prop:=W.ownsRow 0 156 1 v l.length (Pu l)
theorem OwnP.nil (W:World):OwnP W (.slice none 0 0) []:=⟨rfl, .inl ⟨rfl,rfl⟩⟩
theorem OwnP.lt {W:World} {v:Value} {l:List Nat} (h:OwnP W v l): ∀g,v.ownBlock=some g->g<W.heap.size:=fun g hg=>(World.ownsRow.lt h g hg).2
theorem OwnP.block {W W':World} {v:Value} {l:List Nat} (h:OwnP W v l) (he: ∀g,v.ownBlock=some g->W'.heap[g]? =W.heap[g]?):OwnP W' v l:=by
 obtain⟨h1,h2⟩:=h
 refine⟨h1, ?_⟩
 rcases h2 with h2|⟨g,cap,cur,rfl,h3,h4,h5⟩
 ·exact .inl h2
 ·exact .inr ⟨g,cap,cur,rfl,h3,(he g rfl).trans h4,h5⟩
structure TT where
 t:Nat
 m:Nat
 rv:Value
 rows:List RR
 last:Nat
def TT.live (T:TT):List RR:=T.rows.filter (fun r=> !r.gone)
def TT.find (T:TT) (k:KK):Option RR:=T.live.find? (fun r=>decide (r.k=k))
def TT.blocks (T:TT):List Nat:=T.t::T.m::(T.rv.ownBlock.toList++T.rows.map (·.b))
def TT.cs (T:TT):List Value:= [.map (some T.m),T.rv, .int .u64 T.last]
structure TT.Is (T:TT) (W:World):Prop where
 tab:Holds W T.t T.cs
 map:MapIs W T.m T.last T.live.length (fun k=>(T.find k).map (·.b))
 own:OwnP W T.rv (T.rows.map (·.b))
 rows: ∀r∈T.rows,Holds W r.b r.cs
 nd:T.blocks.Nodup
 rise:T.rows.Pairwise (fun a b=>a.n<b.n)
 num: ∀r∈T.rows,1<=r.n/\r.n<=T.last
 keys:T.live.Pairwise (fun a b=>a.k≠b.k)
 good: ∀r∈T.live,goodK r.k=true
theorem TT.Is.lt {T:TT} {W:World} (h:T.Is W): ∀b∈T.blocks,b<W.heap.size:=by
 intro b hb
 simp only[TT.blocks,List.mem_cons,List.mem_append,List.mem_map] at hb
 rcases hb with rfl|rfl|hb|⟨r,hr,rfl⟩
 ·exact h.tab.lt (by simp[TT.cs])
 ·exact h.map.lt
 ·exact h.own.lt b (by simpa using hb)
 ·exact(h.rows r hr).lt (by simp[Ew])
theorem TT.Is.block {T:TT} {W W':World} (h:T.Is W) (he: ∀b∈T.blocks,W'.heap[b]? =W.heap[b]?):T.Is W':=
 ⟨h.tab.block (he _ (by simp[TT.blocks])),h.map.block (he _ (by simp[TT.blocks])),h.own.block (fun g hg=>he g (by simp[TT.blocks,hg])),fun r hr=>(h.rows r hr).block (he _ (by
  simp only[TT.blocks,List.mem_cons,List.mem_append,List.mem_map]
  exact .inr (.inr (.inr ⟨r,hr,rfl⟩)))),h.nd,h.rise,h.num,h.keys,h.good⟩
theorem TT.Is.on {T:TT} {W W':World} (h:T.Is W) (hb:Below W.heap.size W W'):T.Is W':=h.block (fun b hb'=>hb.block b (h.lt b hb'))
theorem TT.Is.drew {T:TT} {W:World} (h:T.Is W):T.Is W.drew:=h.block (fun _ _=>rfl)
theorem TT.find_mem {T:TT} {k:KK} {r:RR} (h:T.find k=some r):r∈T.rows/\r.gone=false/\r.k=k:=by
 have h1:=List.mem_of_find?_eq_some h
 have h2:=List.find?_some h
 simp[TT.live] at h1 h2
 exact⟨h1.1,h1.2,h2⟩
section
variable {md : Region.Mode} {ops : Array Oper} {rest : List Oper} {Q : Exit → Act → World → Prop} {S : World → Prop} {w w0 : World} {fuel : Nat} {listed : Array Bool} {a : Act} {o : Oper}
theorem gsem (i:Nat) (dst:Option Tmp) (v:Value) (hi:ops[i]? =some o) (hs:Region.noSelect ops=true) (hf:Region.free md ops listed i=true) (hr:(Region.ready md ops listed).contains i=true)
  (hQ: ∀c a w,Q (.panic c) (a.put dst v) w->Q (.panic c) a w) (hd:o.dst=dst) (hw:Region.wanted o (yielded ops a.tmps)=true) (hy: ∀X,S X->(execOp a.eval o).run prog X= .ok (.value v) X)
  (hS:S w) (h:wpAnyH prog md ops Q S fuel (listed.setIfInBounds i true) (a.put dst v) w):wpAnyH prog md ops Q S (fuel+1) listed a w:=by
 subst hd
 exact wpAnyH_take hi hs hf hr hQ (Or.inl ⟨hw,hy⟩) hS h
theorem y10 (i:Nat) (dst:Option Tmp) (v:Value) (hi:ops[i]? =some o) (hy: ∀X,S X->(execOp a.eval o).run prog X= .ok (.value v) X) (hS:S w) (h:wpAnyH prog md ops Q S fuel (listed.setIfInBounds i true) (a.put dst v) w) (hs:Region.noSelect ops=true:=by kernel_rfl) (hf:Region.free md ops listed i=true:=by kernel_rfl) (hr:(Region.ready md ops listed).contains i=true:=by kernel_rfl) (hQ: ∀c a w,Q (.panic c) (a.put dst v) w->Q (.panic c) a w:=by exact fun _ _ _ h=>h) (hd:o.dst=dst:=by kernel_rfl) (hw:Region.wanted o (yielded ops a.tmps)=true:=by kernel_rfl):wpAnyH prog md ops Q S (fuel+1) listed a w:=gsem i dst v hi hs hf hr hQ hd hw hy hS h
theorem y1 {aB:Act} (i:Nat) (dst:Option Tmp) (v:Value) (hi:ops[i]? =some o) (hy: ∀X,S X->(execOp a.eval o).run prog X= .ok (.value v) X) (hS:S w) (h:wpAnyH prog md ops Q S fuel (listed.setIfInBounds i true) aB w) (hb:a.put dst v=aB:=by simp only[nn]<;>rfl) (hs:Region.noSelect ops=true:=by kernel_rfl) (hf:Region.free md ops listed i=true:=by kernel_rfl) (hr:(Region.ready md ops listed).contains i=true:=by kernel_rfl) (hQ: ∀c a w,Q (.panic c) (a.put dst v) w->Q (.panic c) a w:=by exact fun _ _ _ h=>h) (hd:o.dst=dst:=by kernel_rfl) (hw:Region.wanted o (yielded ops a.tmps)=true:=by kernel_rfl):wpAnyH prog md ops Q S (fuel+1) listed a w:=y10 i dst v hi hy hS (hb▸h) hs hf hr hQ hd hw
theorem y00 (i:Nat) (dst:Option Tmp) (v:Value) (hi:ops[i]? =some o) (hS:S w) (h:wpAnyH prog md ops Q S fuel (listed.setIfInBounds i true) (a.put dst v) w) (hy: ∀X,S X->(execOp a.eval o).run prog X= .ok (.value v) X:=by intro _ _;kernel_rfl) (hs:Region.noSelect ops=true:=by kernel_rfl) (hf:Region.free md ops listed i=true:=by kernel_rfl) (hr:(Region.ready md ops listed).contains i=true:=by kernel_rfl) (hQ: ∀c a w,Q (.panic c) (a.put dst v) w->Q (.panic c) a w:=by exact fun _ _ _ h=>h) (hd:o.dst=dst:=by kernel_rfl) (hw:Region.wanted o (yielded ops a.tmps)=true:=by kernel_rfl):wpAnyH prog md ops Q S (fuel+1) listed a w:=gsem i dst v hi hs hf hr hQ hd hw hy hS h
theorem y0 {aB:Act} (i:Nat) (dst:Option Tmp) (v:Value) (hi:ops[i]? =some o) (hS:S w) (h:wpAnyH prog md ops Q S fuel (listed.setIfInBounds i true) aB w) (hb:a.put dst v=aB:=by simp only[nn]<;>rfl) (hy: ∀X,S X->(execOp a.eval o).run prog X= .ok (.value v) X:=by intro _ _;kernel_rfl) (hs:Region.noSelect ops=true:=by kernel_rfl) (hf:Region.free md ops listed i=true:=by kernel_rfl) (hr:(Region.ready md ops listed).contains i=true:=by kernel_rfl) (hQ: ∀c a w,Q (.panic c) (a.put dst v) w->Q (.panic c) a w:=by exact fun _ _ _ h=>h) (hd:o.dst=dst:=by kernel_rfl) (hw:Region.wanted o (yielded ops a.tmps)=true:=by kernel_rfl):wpAnyH prog md ops Q S (fuel+1) listed a w:=y00 i dst v hi hS (hb▸h) hy hs hf hr hQ hd hw
theorem rd0 {v:Value} (hw:Region.wanted o (yielded ops a.tmps)=true) (hy:(execOp a.eval o).run prog w= .ok (.value v) w) (h:wpList prog ops Q rest (a.put o.dst v) w):wpList prog ops Q (o::rest) a w:=by
 refine BigFrame.wpList_want hw fun K hK=> ?_
 have hP:=hK _ _ h
 unfold Oper.wp
 rw[hy]
 exact hP
theorem rd {aB:Act} {v:Value} (hw:Region.wanted o (yielded ops a.tmps)=true) (hy:(execOp a.eval o).run prog w= .ok (.value v) w) (h:wpList prog ops Q rest aB w) (hb:a.put o.dst v=aB:=by simp only[nn]<;>rfl):wpList prog ops Q (o::rest) a w:=rd0 hw hy (hb▸h)
theorem Ev (w:World) (b p:Nat) (ty:TypeId) (v:Value) (vs:List Value) (hv:v.cells.toList=vs) (ht:w.there b p vs.length) (hi:(prog.info? ty).map (·.size)=some vs.length) (h1: ∀u∈vs,u.oneCell'=true):
  (storeVar ty ⟨b,p,none⟩ v).run prog w= .ok () (w.setCells b p vs):=by
 have:=run_storeCells_cells (P:=prog) b p vs 0 w (fun j hj=>by simpa using (ht j hj).1) (fun j hj=>by simpa using (ht j hj).2) h1
 cases hq:prog.info? ty with
 |none=>simp[hq] at hi
 |some i=>
  have hs:v.cells.size=i.size:=by
   have e:v.cells.size=vs.length:=by rw[←hv];simp
   simp[hq] at hi;omega
  simp only[Nat.add_zero] at this
  simp[storeVar,sizeOf,typeInfo,hq,hs,hv,this]
theorem st {E:List Nat} {L:List (Nat×List Value)} {b p:Nat} {cs vs:List Value} {v:Value} {x y:Operand} (i:Nat) (t:TypeId) (hw:Region.wanted o (yielded ops a.tmps)=true) (ho:o.op= .store t x y) (hx:a.eval x= .pointer (some ⟨b,p,none⟩)) (hy:a.eval y=v)
  (hv:v.cells.toList=vs) (h1: ∀u∈vs,u.oneCell'=true) (hi:(prog.info? t).map (·.size)=some vs.length) (hL:Hq w0 w E L) (hg:L[i]? =some (b,cs)) (hp:p+vs.length<=cs.length) (hE:b∈E∨w0.heap.size<=b)
  (h: ∀X,Hq w0 X E (L.set i (b,Bw cs p vs))->Fr w X [b]->X.heap.size=w.heap.size->wpList prog ops Q rest (a.put o.dst undef) X):wpList prog ops Q (o::rest) a w:=by
 refine BigFrame.wpList_want hw fun K hK=> ?_
 have hP:=hK _ _ (h _ (hL.put i hg p vs hp hE) (Fr.setCells w b p vs) (Gq _ _ _))
 unfold Oper.wp execOp
 simp only[ho,hx,hy,Instr.storeAt,Instr.sureAddr,Sem.run_bind,Sem.run_pure,Result.andThen_ok,Ev w b p t v vs hv ((hL.get i hg).there p vs.length hp) hi h1]
 exact hP
end
theorem Zcv (w:World):Calls prog 50 #[] w fun e w'=> ∃T:TT,e= .returned (.pointer (some ⟨T.t,0,none⟩))/\T.Is w'/\T.rows= []/\T.last=0/\(∀b∈T.blocks,w.heap.size<=b)/\Below w.heap.size w w':=by
 have hmm:= @run_makeMap prog
 go_enter func50,ntmps50
 go_wp2
 go_ret
 have hN:=Holds.new (w.alloc (Obj.map #[] 0)) [.map (some w.heap.size), .slice none 0 0, .int .u64 0] 145
 have hM:=MapIs.made w
 have hz:(w.alloc (Obj.map #[] 0)).heap.size=w.heap.size+1:=by simp
 rw[hz] at hN
 have hb:Below w.heap.size w ((w.alloc (Obj.map #[] 0)).alloc (Obj.cells #[Value.map (some w.heap.size),Value.slice none 0 0,Value.int IntKind.u64 0] 145)):=((Below.refl _ _).alloc (Nat.le_refl _) _).alloc (by simp) _
 refine⟨⟨w.heap.size+1,w.heap.size, .slice none 0 0, [],0⟩,rfl,⟨hN, ?_,OwnP.nil _,(fun r hr=>by cases hr),by simp[TT.blocks,Value.ownBlock],by simp,(fun r hr=>by cases hr),by simp[TT.live],(fun r hr=>by simp[TT.live] at hr)⟩,rfl,rfl, ?_,hb⟩
 ·refine MapIs.block (w:=w.alloc (Obj.map #[] 0)) ?_ (Below.heap_alloc _ _ _ (by simp))
  exact hM
 ·intro b hb
  simp[TT.blocks,Value.ownBlock] at hb
  rcases hb with rfl|rfl<;>simp
theorem Zdw {o:Oper} {a:Act} {w:World} {m:Operand} {b n sz:Nat} {F:KK->Option Nat} (ho:o.op= .call {callee:= .builtin .len,args:= #[m],argTypes:= #[142]}) (hm:a.eval m= .map (some b)) (h:MapIs w b n sz F):(execOp a.eval o).run prog w= .ok (.value (.int .i64 sz)) w:=by
 simp[execOp,ho,resolve,invoke,builtin,hm,h.len o.type,Result.andThen]
theorem len30 (T:TT) (w:World) (hT:T.Is w):Calls prog 58 #[.pointer (some ⟨T.t,0,none⟩)] w fun e w'=>e= .returned (.int .i64 T.live.length)/\w'=w:=by
 have HT:=Ab hT
 clear hT
 go_enter func58,ntmps58
 go_wp2_with (first|go_skip|(refine rd rfl (Ad 142 isAgg142 rfl rfl (Aa HT).tab rfl) ?_)|(refine rd rfl (Zdw rfl rfl (Aa HT).map) ?_))
 go_ret
 exact⟨rfl,rfl⟩
theorem TT.live_le (T:TT):T.live.length<=T.rows.length:=List.length_filter_le _ _
theorem ex_lenS {o:Oper} {a:Act} {w:World} {m:Operand} {v:Value} {l:List RR} (ho:o.op= .call {callee:= .builtin .len,args:= #[m],argTypes:= #[143]}) (hm:a.eval m=v) (h:OwnP w v (l.map (·.b))):(execOp a.eval o).run prog w= .ok (.value (.int .i64 (l.length:Nat))) w:=by
 have hv: ∃A c,v= .slice A l.length c:=by
  rcases h.2 with ⟨h1,h2⟩|⟨g,cap,cur,h1,h2⟩
  ·exact⟨none,0,by rw[h1];simp at h2;simp[h2]⟩
  ·exact⟨_,_,by rw[h1];simp;exact⟨rfl,rfl⟩⟩
 obtain⟨A,c,rfl⟩:=hv
 simp[execOp,ho,resolve,invoke,builtin,hm,Builtin.len_,Result.andThen,goInt,underlying143,run_underlying underlying143]
theorem ex_sub {o:Oper} {a:Act} {w:World} {x y:Operand} {m n:Nat} (ho:o.op= .binOp .sub 3 x y 3) (hx:a.eval x= .int .i64 (m:Nat)) (hy:a.eval y= .int .i64 (n:Nat)) (h:n<=m) (hm:m<=4000000):(execOp a.eval o).run prog w= .ok (.value (.int .i64 ((m - n:Nat):Int))) w:=by
 have e:((m - n:Nat):Int)=(m:Int) - (n:Int):=by omega
 rw[e]
 unfold execOp
 simp only[ho,hx,hy]
 have hs:=subI (m:Int) (n:Int) (by omega) (by omega) w
 simp[go_sem,eqGuard,hs,Result.andThen]
 rw[IntKind.wrap_i64]
 omega
theorem gaps38 (T:TT) (w:World) (hT:T.Is w) (hl:T.rows.length<=4000000):Calls prog 173 #[.pointer (some ⟨T.t,0,none⟩)] w fun e w'=>e= .returned (.int .i64 ((T.rows.length - T.live.length:Nat):Int))/\Below w.heap.size w w':=by
 have HT:=Ab hT
 clear hT
 go_enter func173,ntmps173
 go_wp2
 refine wp_region_held_drew (P:=prog) (S:=fun X=>T.Is X) (by kernel_rfl) (Aa HT).drew (fun hS0=> ?_)
 refine y0 0 (some 3) (.pointer (some ⟨T.t,0,none⟩)) rfl hS0 ?_
 refine y0 1 (some 4) (.pointer (some ⟨T.t,0,none⟩)) rfl hS0 ?_
 refine y0 2 (some 5) (.pointer (some ⟨T.t,1,none⟩)) rfl hS0 ?_
 refine y1 3 (some 6) (T.rv) rfl (fun X hX=>Ad 143 isAgg143 rfl rfl (hX.tab) rfl) hS0 ?_
 refine y1 4 (some 7) (.int .i64 (T.rows.length:Nat)) rfl (fun X hX=>ex_lenS rfl rfl hX.own) hS0 ?_
 refine y0 5 (some 8) (.pointer (some ⟨T.t,0,none⟩)) rfl hS0 ?_
 refine y0 6 (some 9) (.pointer (some ⟨T.t,0,none⟩)) rfl hS0 ?_
 refine y0 7 (some 10) (.pointer (some ⟨T.t,0,none⟩)) rfl hS0 ?_
 refine y1 8 (some 11) (.map (some T.m)) rfl (fun X hX=>Ad 142 isAgg142 rfl rfl (hX.tab) rfl) hS0 ?_
 refine y1 9 (some 12) (.int .i64 (T.live.length:Nat)) rfl (fun X hX=>Zdw rfl rfl hX.map) hS0 ?_
 refine y1 10 (some 13) (.int .i64 ((T.rows.length - T.live.length:Nat):Int)) rfl (fun X hX=>ex_sub rfl rfl rfl (by have:=T.live_le;omega) hl) hS0 ?_
 refine y0 11 (some 2) (.int .i64 ((T.rows.length - T.live.length:Nat):Int)) rfl hS0 ?_
 refine wpAnyH_done (by kernel_rfl) ?_ _
 try simp only[nn]
 go_wp2
 go_ret
 exact⟨rfl,(Below.refl _ _).drew⟩
theorem Nv (w:World) (a b:Array Value) (s t:TypeId):Below w.heap.size w ((w.alloc (Obj.cells a s)).alloc (Obj.cells b t)):=((Below.refl _ _).alloc (Nat.le_refl _) _).alloc (by simp) _
theorem Hq.two (w:World) (E:List Nat) (a b:List Value) (s t:TypeId) (ha:0<a.length) (hb:0<b.length):Hq w ((w.alloc (Obj.cells a.toArray s)).alloc (Obj.cells b.toArray t)) E [(w.heap.size,a),(w.heap.size+1,b)]:=by
 have h:=((Hq.nil w E).new a s ha).new b t hb
 rw[show (w.alloc (Obj.cells a.toArray s)).heap.size=w.heap.size+1 by simp] at h
 exact h
def getD (T:TT) (k:KK):DD:=((T.find k).map (·.d)).getD Ak
theorem Jt: ∃d,prog.underlying 48=some d/\d.isRow=true:=⟨_,underlying48,rfl⟩
theorem Zp: ∃d,prog.underlying 39=some d/\d.isRow=true:=⟨_,underlying39,rfl⟩
theorem row58: ∃d,prog.underlying 69=some d/\d.isRow=true:=⟨_,underlying69,rfl⟩
theorem Kt:(prog.info? 48).map (·.size)=some 2:=by kernel_rfl
theorem Pm:(prog.info? 39).map (·.size)=some 18:=by kernel_rfl
theorem siz58:(prog.info? 69).map (·.size)=some 20:=by kernel_rfl
theorem Ot {o:Oper} {a:Act} {w:World} {m x:Operand} {b n sz:Nat} {F:KK->Option Nat} {k:KK} {r:Option Nat} (ho:o.op= .lookup 142 m x true) (hm:a.eval m= .map (some b)) (hx:a.eval x=k.agg) (h:MapIs w b n sz F) (hk:OkK k) (hr:F k=r):(execOp a.eval o).run prog w= .ok (.value (.tuple #[pv r, .bool r.isSome])) w:=by
 subst hr
 simp[execOp,ho,hm,hx,h.look hk,Result.andThen]
theorem ret_ct {fn:Func} {R:Ending->World->Prop} {a:Act} {w:World} {b r q:Nat} {d:DD} {v:Value} {cs:List Value} (hr:fn.results= #[.cell r 39, .tmp q]) (hdf:a.defers= [])
  (hx:a.tmps.getD r undef= .pointer (some ⟨b,0,none⟩)) (hq:a.tmps.getD q undef=v) (hc:Holds w b cs) (hcs:(cs.drop 0).take 18=d.cs) (h:R (.returned (.tuple #[d.agg,v])) w):bodyPost prog fn R .ret a w:=by
 obtain⟨t,hu,hd⟩:=Zp
 have h0:=hc.mid 0 18
 rw[hcs] at h0
 have hl:=run_loadVar_mid (P:=prog) w b 0 39 _ t h0 hu hd Pm
 refine⟨hdf,_, ?_,h⟩
 simp only[Array.getD_eq_getD_getElem?] at hx hq
 unfold results
 simp[hr,hx,hq,hl,asAddr]
 try rfl
theorem Zaj (T:TT) (k:KK) (w:World) (hT:T.Is w) (hk:OkK k):Calls prog 73 #[.pointer (some ⟨T.t,0,none⟩),k.agg] w fun e w'=>e= .returned (.tuple #[(getD T k).agg, .bool (T.find k).isSome])/\Below w.heap.size w w':=by
 cases hf:T.find k with
 |none=>
  have HT:=Ab (hT.on (Nv w k.cs.toArray Ak.cs.toArray 48 39))
  have LL:=Ab (Hq.two w [] k.cs Ak.cs 48 39 (Nat.succ_pos _) (Nat.succ_pos _))
  have hB2:Hid (w.heap.size<=w.heap.size+1):=Ab (Nat.le_succ _)
  clear hT
  rw[show k.agg= .agg k.cs.toArray from rfl]
  go_enter func73,ntmps73
  go_wp2
  refine wp_region_held_drew (P:=prog) (S:=fun X=>T.Is X/\Hq w X [] [(w.heap.size,k.cs),(w.heap.size+1,Ak.cs)]) (by kernel_rfl) ⟨(Aa HT).drew,(Aa LL).drew⟩ (fun hS0=> ?_)
  refine y0 0 (some 9) (.pointer (some ⟨T.t,0,none⟩)) rfl hS0 ?_
  refine y0 1 (some 10) (.pointer (some ⟨T.t,0,none⟩)) rfl hS0 ?_
  refine y0 2 (some 11) (.pointer (some ⟨T.t,0,none⟩)) rfl hS0 ?_
  refine y1 3 (some 12) (.map (some T.m)) rfl (fun X hX=>Ad 142 isAgg142 rfl rfl (hX.1.tab) rfl) hS0 ?_
  refine y1 4 (some 13) (k.agg) rfl (fun X hX=>Af (vs:=k.cs) 48 2 Jt Kt rfl rfl (hX.2.get 0 rfl) rfl rfl) hS0 ?_
  refine y1 5 (some 14) (.tuple #[pv (none), .bool false]) rfl (fun X hX=>Ot (r:=none) rfl rfl rfl hX.1.map hk (by rw[hf];rfl)) hS0 ?_
  refine y0 6 (some 8) (.tuple #[pv (none), .bool false]) rfl hS0 ?_
  refine y0 7 (some 15) (pv (none)) rfl hS0 ?_
  refine y0 9 (some 6) (pv (none)) rfl hS0 ?_
  refine y0 8 (some 16) (.bool false) rfl hS0 ?_
  refine y0 10 (some 7) (.bool false) rfl hS0 ?_
  refine wpAnyH_done (by kernel_rfl) ?_ _
  try simp only[nn]
  replace HT:=Ab hS0.1
  replace LL:=Ab hS0.2
  clear hS0
  unfold pv
  go_wp2_with (first|go_skip|((refine st (vs:=Ak.cs) 1 39 (by rfl) rfl rfl rfl rfl (by simp[Ak,Av,DD.cs,VV.cs,Value.oneCell']) Pm (Aa LL) rfl (by simp[Ua]) (Or.inr (Aa hB2)) ?_);intro w3 L3 hf3 hs3;replace LL:=Ab L3;clear L3 hf3 hs3;simp only[nn]))
  refine ret_ct (d:=Ak) (r:=4) (q:=5) (b:=w.heap.size+1) rfl rfl rfl rfl ((Aa LL).get 1 rfl) rfl ⟨?_,(Aa LL).fr.below⟩
  unfold getD
  rw[hf]
  rfl
 |some r=>
  have HT:=Ab (hT.on (Nv w k.cs.toArray Ak.cs.toArray 48 39))
  have LL:=Ab (Hq.two w [] k.cs Ak.cs 48 39 (Nat.succ_pos _) (Nat.succ_pos _))
  have hB2:Hid (w.heap.size<=w.heap.size+1):=Ab (Nat.le_succ _)
  clear hT
  rw[show k.agg= .agg k.cs.toArray from rfl]
  go_enter func73,ntmps73
  go_wp2
  refine wp_region_held_drew (P:=prog) (S:=fun X=>T.Is X/\Hq w X [] [(w.heap.size,k.cs),(w.heap.size+1,Ak.cs)]) (by kernel_rfl) ⟨(Aa HT).drew,(Aa LL).drew⟩ (fun hS0=> ?_)
  refine y0 0 (some 9) (.pointer (some ⟨T.t,0,none⟩)) rfl hS0 ?_
  refine y0 1 (some 10) (.pointer (some ⟨T.t,0,none⟩)) rfl hS0 ?_
  refine y0 2 (some 11) (.pointer (some ⟨T.t,0,none⟩)) rfl hS0 ?_
  refine y1 3 (some 12) (.map (some T.m)) rfl (fun X hX=>Ad 142 isAgg142 rfl rfl (hX.1.tab) rfl) hS0 ?_
  refine y1 4 (some 13) (k.agg) rfl (fun X hX=>Af (vs:=k.cs) 48 2 Jt Kt rfl rfl (hX.2.get 0 rfl) rfl rfl) hS0 ?_
  refine y1 5 (some 14) (.tuple #[pv (some r.b), .bool true]) rfl (fun X hX=>Ot (r:=some r.b) rfl rfl rfl hX.1.map hk (by rw[hf];rfl)) hS0 ?_
  refine y0 6 (some 8) (.tuple #[pv (some r.b), .bool true]) rfl hS0 ?_
  refine y0 7 (some 15) (pv (some r.b)) rfl hS0 ?_
  refine y0 9 (some 6) (pv (some r.b)) rfl hS0 ?_
  refine y0 8 (some 16) (.bool true) rfl hS0 ?_
  refine y0 10 (some 7) (.bool true) rfl hS0 ?_
  refine wpAnyH_done (by kernel_rfl) ?_ _
  try simp only[nn]
  replace HT:=Ab hS0.1
  replace LL:=Ab hS0.2
  clear hS0
  have HR:=Ab ((Aa HT).rows r (T.find_mem hf).1)
  unfold pv
  go_wp2_with (first|go_skip|(refine rd rfl (Af (vs:=r.d.cs) 39 18 Zp Pm rfl rfl (Aa HR) rfl rfl) ?_)|((refine st (vs:=r.d.cs) 1 39 (by rfl) rfl rfl rfl rfl (by simp[DD.cs,VV.cs,Value.oneCell']) Pm (Aa LL) rfl (by simp[Ua]) (Or.inr (Aa hB2)) ?_);intro w3 L3 hf3 hs3;replace LL:=Ab L3;clear L3 hf3 hs3;simp only[nn]))
  refine ret_ct (d:=r.d) (r:=4) (q:=5) (b:=w.heap.size+1) rfl rfl rfl rfl ((Aa LL).get 1 rfl) rfl ⟨?_,(Aa LL).fr.below⟩
  unfold getD
  rw[hf]
  rfl
end
section
open Go Go.Proofs Go.RowKit
theorem all_take {l:List KK} {j:Nat} (h:j<l.length):(l.take (j+1)).all goodK=((l.take j).all goodK && goodK l[j]):=by
 rw[List.take_succ_eq_append_getElem h,List.all_append]
 simp
theorem all_not {l:List KK} {j:Nat} (h:j<l.length) (hg:goodK l[j]=false):l.all goodK=false:=by
 rw[List.all_eq_false]
 exact⟨l[j],List.getElem_mem h,by rw[hg];decide⟩
theorem neq23 (k:KK) (w:World):(binOp .neq 48 k.agg k.agg).run Tryz.prog w= .ok (.bool false) w:=by
 unfold KK.agg
 have ht:Tryz.prog.underlying 48=some (.struct (Tryz.prog.fieldsOf 48)):=by kernel_rfl
 rw[run_neq_struct,show (10000:Nat)=9998+1+1 from rfl,run_equalIn_struct _ _ _ _ _ ht (by kernel_rfl)]
 have hf:Tryz.prog.fieldsOf 48=(match Tryz.prog.underlying 48 with|some (.struct f)=>f|_=> #[]):=by kernel_rfl
 rw[hf,Tryz.underlying48]
 simp[Op.eqFields,go_sem,part]
theorem small72 (u:Nat) (h:u<100) (w:World):Calls Tryz.prog 198 #[.int .u64 (u:Nat), .int .i64 10] w fun e w'=>e= .returned (.string ⟨(Lib.decDigits u).toArray⟩)/\w'=w:=by
 have z:(u:Int)<100:=by omega
 have HS:=Ab (fun w=>Tryz.internal_strconv_small u h w)
 generalize Lib.decDigits u=d at *
 go_enter Tryz.func198,Tryz.ntmps198
 go_wp2_with fail
 refine(Aa HS _).mono ?_
 rintro e w1 ⟨rfl,rfl⟩
 go_wp2
 go_ret
 exact⟨rfl,rfl⟩
end
section
open Go Go.Proofs Go.RowKit Go.Sort
theorem holds0 (w:World) (T:TypeId) (nd:Nat) (hs:nd<=24):Sort.Holds (fun (b:UInt8)=>Value.int .u8 (b.toNat:Int)) (w.alloc (.cells Lib.zeros24 T)) w.heap.size 0 (Array.replicate nd (0:UInt8)):=fun j hj=>by
 have hj':j<nd:=by simpa using hj
 refine⟨?_,World.frozen?_alloc_new _ _ _ _⟩
 rw[World.cell?_alloc_new,Lib.zeros24_at _ (by omega),getElem!_pos _ j hj]
 simp
theorem fin0 (w:World) (o:Obj) (dk:Array UInt8) (k:Nat): ∃os,(Sort.putRow (fun (b:UInt8)=>Value.int .u8 (b.toNat:Int)) (w.alloc o) w.heap.size 0 dk).drewN k=Sort.grow (w.drewN k) os:=by
 rw[Sort.alloc_eq_grow]
 obtain⟨os',_,e⟩:=Sort.putRow_grow_new (fun (b:UInt8)=>Value.int .u8 (b.toNat:Int)) w #[o] w.heap.size 0 dk (Nat.le_refl _)
 exact⟨os',by rw[e];rfl⟩
theorem Zbs (hi first:Nat): ∀(n root:Nat) (d:Array Nat),hi - root<=n->(siftDown ltN hi first root d).size=d.size:=by
 intro n
 induction n with
 |zero=>
  intro root d h
  rw[Zbr _ _ _ _ (by omega)]
 |succ n ih=>
  intro root d h
  by_cases hs:2 * root+1≥hi
  ·rw[Zbr _ _ _ _ hs]
  ·by_cases h1:2 * root+1+1<hi/\ltN d[first+(2 * root+1)]! d[first+(2 * root+1)+1]! =true
   ·rw[sd_two _ _ _ _ hs h1.1 h1.2]
    split
    ·rw[ih _ _ (by omega),Dx]
    ·rfl
   ·rw[Zc9 _ _ _ _ hs h1]
    split
    ·rw[ih _ _ (by omega),Dx]
    ·rfl
theorem heap62 (blk cap a b:Nat) (d:Array Nat) (w:World) (hL:LiesU w blk d) (hab:a<b) (hb:b<=d.size) (hsz:d.size<=1500000):
  Calls Tryz.prog 188 #[.slice (some ⟨blk,0,none⟩) d.size cap, .int .i64 a, .int .i64 b] w fun e w'=>e= .returned (.tuple #[])/\LiesU w' blk (heapSort ltN d a b)/\w.grownBy w' (some blk):=by
 have HL:=Ab hL
 clear hL
 obtain⟨h,hh⟩: ∃h,h=b - a:=⟨_,rfl⟩
 have z1:IntKind.i64.wrap ((b:Int) - a)=(h:Int):=by rw[IntKind.wrap_i64];omega
 obtain⟨u,hu⟩: ∃u,u=h - 1:=⟨_,rfl⟩
 obtain⟨v,hv⟩: ∃v,v=u / 2:=⟨_,rfl⟩
 have z2:IntKind.i64.wrap ((h:Int) - 1)=(u:Int):=by rw[IntKind.wrap_i64];omega
 have z3:(u:Int).tdiv 2=(v:Int):=by rw[Int.tdiv_eq_ediv_of_nonneg (by omega)];omega
 have z3':(u:Int) / 2=(v:Int):=by omega
 have z4:IntKind.i64.wrap (v:Int)=(v:Int):=by rw[IntKind.wrap_i64];omega
 have hdef:heapSort ltN d a b=heapPop ltN a h (heapBuild ltN h a (v+1) d):=by unfold heapSort;rw[←hh,hv,hu]
 have HD:=Ab hdef
 have HH:=Ab (And.intro hh (And.intro hu hv))
 clear hdef hh hu hv
 go_enter Tryz.func188,Tryz.ntmps188
 go_wp2_with fail
 go_loopg [9] (v+1) (fun g s9 wr=> ∃(k:Nat) (dk:Array Nat),s9= .int .i64 ((k:Int) - 1)/\k<=v+1/\k<=g/\Hid (dk.size=d.size)/\Hid (LiesU wr blk dk)/\Hid (w.grownBy wr (some blk))/\Hid (heapBuild ltN h a k dk=heapBuild ltN h a (v+1) d))
 case atStart=>exact⟨v+1,d,by congr 1;omega,Nat.le_refl _,Nat.le_refl _,Ab rfl,HL,Ab (Ky _ _),Ab rfl⟩
 case round=>
  obtain⟨k,dk,hs9,hkv,hg,hsk,hLk,hGk,hOk⟩:=hrel
  cases k with
  |succ m=>
   have e9:(((m+1:Nat):Int) - 1)=(m:Int):=by omega
   rw[e9] at hs9
   subst hs9
   clear e9
   have HC:=Ab (sift78 blk cap m h a dk wr (Aa hLk) (by have:=Aa HH;have:=Aa hsk;omega) (by have:=Aa HH;have:=Aa hsk;omega) (by have:=Aa hsk;omega))
   rw[Aa hsk] at HC
   have y1:IntKind.i64.wrap ((m:Int) - 1)=(m:Int) - 1:=by have:=Aa HH;rw[IntKind.wrap_i64];omega
   have y2:(0:Int)<=m:=by omega
   go_wp2_with fail
   refine(Aa HC).mono ?_
   rintro e w1 ⟨rfl,hL1,hG1⟩
   have HL1:=Ab hL1
   have HG1:=Ab (Dd (Aa hGk) hG1)
   clear hL1 hG1
   go_wp2
   go_roundg m
   case measure=>omega
   case rel=>exact⟨m,siftDown ltN h a m dk,rfl,by omega,Nat.le_refl _,Ab (by rw[Zbs h a _ _ _ (Nat.le_refl _)];exact Aa hsk),HL1,HG1,Ab (by rw[←Aa hOk];rfl)⟩
  |zero=>
   have e9:(((0:Nat):Int) - 1)= -1:=by omega
   rw[e9] at hs9
   subst hs9
   clear e9
   have HOk:=Ab (show dk=heapBuild ltN h a (v+1) d from Aa hOk)
   clear hOk
   go_wp2_with fail
   go_loopg [10] h (fun g s10 wr=> ∃(k:Nat) (dj:Array Nat),s10= .int .i64 ((k:Int) - 1)/\k<=h/\k<=g/\Hid (dj.size=d.size)/\Hid (LiesU wr blk dj)/\Hid (w.grownBy wr (some blk))/\Hid (heapPop ltN a k dj=heapPop ltN a h dk))
   case atStart=>exact⟨h,dk,by have:=Aa HH;congr 1;omega,Nat.le_refl _,Nat.le_refl _,hsk,hLk,hGk,Ab rfl⟩
   case round=>
    obtain⟨k,dj,hs9,hkv,hg,hsj,hLj,hGj,hOj⟩:=hrel
    cases k with
    |succ m=>
     have e9:(((m+1:Nat):Int) - 1)=(m:Int):=by omega
     rw[e9] at hs9
     subst hs9
     clear e9
     have hds:=Aa hsj
     have hhh:=Aa HH
     have hlt1:a<dj.size:=by omega
     have hlt2:a+m<dj.size:=by omega
     have HC:=Ab (fun X hX=>sift78 blk cap 0 m a (swp dj a (a+m)) X hX (by omega) (by rw[Dx];omega) (by rw[Dx];omega))
     rw[Dx,hds] at HC
     obtain⟨c1,f1⟩:=(Aa hLj).cell a hlt1
     obtain⟨c2,f2⟩:=(Aa hLj).cell (a+m) hlt2
     have HSw:=Ab (fun n=>((Aa hLj).drew n).swap a (a+m) hlt1 hlt2)
     have y1:IntKind.i64.wrap ((m:Int) - 1)=(m:Int) - 1:=by rw[IntKind.wrap_i64];omega
     have y2:(0:Int)<=m:=by omega
     have y3:IntKind.i64.wrap ((a:Int)+m)=(a:Int)+m:=by rw[IntKind.wrap_i64];omega
     have y4:((a:Int)+m).toNat=a+m:=by omega
     have y5:(a:Int)+m<d.size:=by omega
     have y6:(0:Int)<=(a:Int)+m:=by omega
     have y7:(a:Int)<d.size:=by omega
     clear hds hhh hlt1 hlt2
     by_cases hm0:m=0
     ·subst hm0
      simp only[Nat.add_zero] at c2 f2 HSw
      generalize dj[a]! =x at *
      go_wp2_with fail
      go_region
      all_goals go_wp2_with fail
      refine(Aa HC (((wr.setCell ⟨blk,a,none⟩ (.int .u32 (x:Nat))).setCell ⟨blk,a,none⟩ (.int .u32 (x:Nat))).drew) (LiesU.grown (Aa HSw 0) rfl)).mono ?_
      rintro e w1 ⟨rfl,hL1,hG1⟩
      have HL1:=Ab hL1
      have g0:=Dd (Aa hGj) (Ee wr blk a a (.int .u32 (x:Nat)) (.int .u32 (x:Nat)))
      have HG1:=Ab (Dd g0 ⟨hG1.os,hG1.tape,hG1.output,hG1.size,hG1.block⟩)
      clear hL1 hG1 g0
      go_wp2
      go_roundg 0
      case measure=>omega
      case rel=>exact⟨0,siftDown ltN 0 a 0 (swp dj a (a+0)),rfl,by omega,Nat.le_refl _,Ab (by rw[Zbs 0 a _ _ _ (Nat.le_refl _),Dx];exact Aa hsj),HL1,HG1,Ab (by rw[←Aa hOj];rfl)⟩
     ·have n1: ¬a+m=a:=by omega
      have n2: ¬a=a+m:=by omega
      generalize dj[a]! =x at *
      generalize dj[a+m]! =y at *
      go_wp2_with fail
      go_region
      all_goals go_wp2_with fail
      refine(Aa HC _ (Aa HSw _)).mono ?_
      rintro e w1 ⟨rfl,hL1,hG1⟩
      have HL1:=Ab hL1
      have HG1:=Ab (Dd (Dd (Dv (Aa hGj) _) (Ee _ _ _ _ _ _)) hG1)
      clear hL1 hG1
      go_wp2
      go_roundg m
      case measure=>omega
      case rel=>exact⟨m,siftDown ltN m a 0 (swp dj a (a+m)),rfl,by omega,Nat.le_refl _,Ab (by rw[Zbs m a _ _ _ (Nat.le_refl _),Dx];exact Aa hsj),HL1,HG1,Ab (by rw[←Aa hOj];rfl)⟩
    |zero=>
     have e9:(((0:Nat):Int) - 1)= -1:=by omega
     rw[e9] at hs9
     subst hs9
     clear e9
     go_wp2
     go_end0
     refine⟨rfl, ?_,Aa hGj⟩
     rw[Aa HD,←Aa HOk,←Aa hOj]
     exact Aa hLj
theorem bl_all: ∀(f x:Nat),x<=f->1<=x->x<18446744073709551616->x<2^Lib.bitLen x/\2^Lib.bitLen x<=2 * x:=by
 intro f
 induction f with
 |zero=>intro x h1 h2;omega
 |succ f ih=>
  intro x h1 h2 h3
  rw[Lib.bitLen_half x (by omega) h3,Nat.pow_add,Nat.pow_one]
  by_cases h:x / 2=0
  ·rw[h,show Lib.bitLen 0=0 by decide+kernel]
   omega
  ·have:=ih (x / 2) (by omega) (by omega) (by omega)
   omega
theorem bl_le (n:Nat) (h0:8<=n) (h1:n<=1500000):n<2^Lib.bitLen n/\2^Lib.bitLen n<=2 * n/\Lib.bitLen n<=21:=by
 have h:=bl_all n n (Nat.le_refl _) (by omega) (by omega)
 refine⟨h.1,h.2, ?_⟩
 rcases Nat.lt_or_ge 21 (Lib.bitLen n) with hk|hk
 ·have:=Nat.pow_le_pow_right (n:=2) (by omega) hk
  simp at this
  omega
 ·exact hk
theorem pow79 (n:Nat) (h0:8<=n) (h1:n<=1500000) (w:World):Calls Tryz.prog 200 #[.int .i64 (n:Nat)] w fun e w'=>(∃m k:Nat,e= .returned (.int .u64 m)/\m=2^k/\n<m/\m<=2 * n)/\w'=w:=by
 have hb:=bl_le n h0 h1
 have HC:=Ab (Tryz.bits_Len (n:Int) w (by omega) (by omega))
 rw[Int.toNat_natCast] at HC
 have HB:=Ab hb
 obtain⟨k,hk⟩: ∃k,k=Lib.bitLen n:=⟨_,rfl⟩
 rw[←hk] at HC HB hb
 have hk12:=hb.2.2
 clear hk hb
 have z1:IntKind.u64.wrap (n:Int)=(n:Int):=by simp[IntKind.wrap,IntKind.bits,IntKind.signed];omega
 go_enter Tryz.func200,Tryz.ntmps200
 go_wp2_with fail
 refine(Aa HC).mono ?_
 rintro e w' ⟨rfl,rfl⟩
 have hcases:k=0∨k=1∨k=2∨k=3∨k=4∨k=5∨k=6∨k=7∨k=8∨k=9∨k=10∨k=11∨k=12∨k=13∨k=14∨k=15∨k=16∨k=17∨k=18∨k=19∨k=20∨k=21:=by omega
 rcases hcases with rfl|rfl|rfl|rfl|rfl|rfl|rfl|rfl|rfl|rfl|rfl|rfl|rfl|rfl|rfl|rfl|rfl|rfl|rfl|rfl|rfl|rfl
 all_goals
  go_wp2
  go_ret
  first
   |exact⟨⟨1,0,rfl,rfl,(Aa HB).1,(Aa HB).2.1⟩,rfl⟩
   |exact⟨⟨2,1,rfl,rfl,(Aa HB).1,(Aa HB).2.1⟩,rfl⟩
   |exact⟨⟨4,2,rfl,rfl,(Aa HB).1,(Aa HB).2.1⟩,rfl⟩
   |exact⟨⟨8,3,rfl,rfl,(Aa HB).1,(Aa HB).2.1⟩,rfl⟩
   |exact⟨⟨16,4,rfl,rfl,(Aa HB).1,(Aa HB).2.1⟩,rfl⟩
   |exact⟨⟨32,5,rfl,rfl,(Aa HB).1,(Aa HB).2.1⟩,rfl⟩
   |exact⟨⟨64,6,rfl,rfl,(Aa HB).1,(Aa HB).2.1⟩,rfl⟩
   |exact⟨⟨128,7,rfl,rfl,(Aa HB).1,(Aa HB).2.1⟩,rfl⟩
   |exact⟨⟨256,8,rfl,rfl,(Aa HB).1,(Aa HB).2.1⟩,rfl⟩
   |exact⟨⟨512,9,rfl,rfl,(Aa HB).1,(Aa HB).2.1⟩,rfl⟩
   |exact⟨⟨1024,10,rfl,rfl,(Aa HB).1,(Aa HB).2.1⟩,rfl⟩
   |exact⟨⟨2048,11,rfl,rfl,(Aa HB).1,(Aa HB).2.1⟩,rfl⟩
   |exact⟨⟨4096,12,rfl,rfl,(Aa HB).1,(Aa HB).2.1⟩,rfl⟩
   |exact⟨⟨8192,13,rfl,rfl,(Aa HB).1,(Aa HB).2.1⟩,rfl⟩
   |exact⟨⟨16384,14,rfl,rfl,(Aa HB).1,(Aa HB).2.1⟩,rfl⟩
   |exact⟨⟨32768,15,rfl,rfl,(Aa HB).1,(Aa HB).2.1⟩,rfl⟩
   |exact⟨⟨65536,16,rfl,rfl,(Aa HB).1,(Aa HB).2.1⟩,rfl⟩
   |exact⟨⟨131072,17,rfl,rfl,(Aa HB).1,(Aa HB).2.1⟩,rfl⟩
   |exact⟨⟨262144,18,rfl,rfl,(Aa HB).1,(Aa HB).2.1⟩,rfl⟩
   |exact⟨⟨524288,19,rfl,rfl,(Aa HB).1,(Aa HB).2.1⟩,rfl⟩
   |exact⟨⟨1048576,20,rfl,rfl,(Aa HB).1,(Aa HB).2.1⟩,rfl⟩
   |exact⟨⟨2097152,21,rfl,rfl,(Aa HB).1,(Aa HB).2.1⟩,rfl⟩
theorem and_lt (r k:Nat) (hk:k<=21) (hr:r<2^64): ∃o:Nat,o<2^k/\bits .and .u64 (r:Int) ((2^k - 1:Nat):Int)=(o:Int):=by
 have hp:2^k<=2097152:=Nat.pow_le_pow_right (n:=2) (by omega) hk
 have h0:0<2^k:=Nat.two_pow_pos k
 refine⟨r &&& (2^k - 1), ?_,u64_and_nat r _ hr (by omega)⟩
 rw[Nat.and_two_pow_sub_one_eq_mod]
 exact Nat.mod_lt _ h0
theorem break63 (blk cap a b:Nat) (d:Array Nat) (w:World) (hL:LiesU w blk d) (hab:a+8<=b) (hb:b<=d.size) (hsz:d.size<=1500000):
  Calls Tryz.prog 189 #[.slice (some ⟨blk,0,none⟩) d.size cap, .int .i64 a, .int .i64 b] w fun e w'=>e= .returned (.tuple #[])/\ ∃d',PermIn a b d d'/\LiesU w' blk d'/\w.grownBy w' (some blk):=by
 have HL:=Ab hL
 have hlt:=hL.lt
 clear hL
 obtain⟨l,hl⟩: ∃l,l=b - a:=⟨_,rfl⟩
 obtain⟨q,hq⟩: ∃q,q=l / 4:=⟨_,rfl⟩
 obtain⟨t0,ht0⟩: ∃t,t=a+2 * q - 1:=⟨_,rfl⟩
 obtain⟨t1,ht1⟩: ∃t,t=a+2 * q+1:=⟨_,rfl⟩
 obtain⟨t2,ht2⟩: ∃t,t=a+2 * q:=⟨_,rfl⟩
 have z1:IntKind.i64.wrap ((b:Int) - a)=(l:Int):=by rw[IntKind.wrap_i64];omega
 have z2:(l:Int).tdiv 4=(q:Int):=by rw[Int.tdiv_eq_ediv_of_nonneg (by omega)];omega
 have z2':(l:Int) / 4=(q:Int):=by omega
 have z3:IntKind.i64.wrap ((q:Int))=(q:Int):=by rw[IntKind.wrap_i64];omega
 have z4:IntKind.i64.wrap ((q:Int) * 2)=2 * (q:Int):=by rw[IntKind.wrap_i64];omega
 have z5:IntKind.i64.wrap ((a:Int)+2 * (q:Int))=(t2:Int):=by rw[IntKind.wrap_i64];omega
 have z6:IntKind.i64.wrap ((t2:Int) - 1)=(t0:Int):=by rw[IntKind.wrap_i64];omega
 have z7:IntKind.i64.wrap ((t2:Int)+1)=(t1:Int):=by rw[IntKind.wrap_i64];omega
 have z8:IntKind.u64.wrap (l:Int)=(l:Int):=by simp[IntKind.wrap,IntKind.bits,IntKind.signed];omega
 have z9:(8:Int)<=l:=by omega
 have HM:=Ab (pow79 l (by omega) (by omega))
 have HQ:=Ab (And.intro hl (And.intro hq (And.intro ht0 (And.intro ht1 ht2))))
 clear hl hq ht0 ht1 ht2
 go_enter Tryz.func189,Tryz.ntmps189
 go_wp2_with fail
 refine(Aa HM _).mono ?_
 rintro e w1 ⟨⟨m,k,rfl,hm,hm1,hm2⟩,rfl⟩
 have hk12:k<=21:=by
  rcases Nat.lt_or_ge 21 k with hk|hk
  ·have:=Nat.pow_le_pow_right (n:=2) (by omega) hk
   have:=Aa HQ
   simp at *
   omega
  ·exact hk
 have HMK:=Ab hm
 clear hm
 obtain⟨m1,hm1'⟩: ∃m1,m1=m - 1:=⟨_,rfl⟩
 have y0:IntKind.u64.wrap ((m:Int) - 1)=(m1:Int):=by have:=Aa HQ;simp[IntKind.wrap,IntKind.bits,IntKind.signed];omega
 have HAnd:Hid (∀r:Nat,r<2^64-> ∃o:Nat,o<m/\bits .and .u64 (r:Int) (m1:Int)=(o:Int)):=Ab (fun r hr=>by
  obtain⟨o,h1,h2⟩:=and_lt r k hk12 hr
  rw[←Aa HMK] at h1 h2
  rw[←hm1'] at h2
  exact⟨o,h1,h2⟩)
 clear hm1'
 have hR0:Rn (w.alloc (Obj.cells #[Value.int IntKind.u64 (l:Nat)] 264)) w.heap.size l:=(show (w.heap.push _)[w.heap.size]? =_ from Array.getElem?_push_size)
 have HR0:=Ab hR0
 have b0:=(Below.refl w.heap.size w).alloc (Nat.le_refl _) (Obj.cells #[Value.int IntKind.u64 (l:Nat)] 264)
 have HL0:=Ab ((Aa HL).grown (b0.block blk hlt))
 have HG0:Hid (w.grownBy (w.alloc (Obj.cells #[Value.int IntKind.u64 (l:Nat)] 264)) (some blk)):=Ab ⟨b0.os,b0.tape,b0.output,b0.size,fun c hc _=>b0.block c hc⟩
 have hBB:some blk≠some w.heap.size:=fun e=>by have:=Option.some.inj e;omega
 clear hR0 b0
 go_wp2_with fail
 go_loopg [9] (d.size+2) (fun g s9 wr=> ∃(x r:Nat) (dk:Array Nat),s9= .int .i64 x/\t0<=x/\x<=t1+1/\d.size+2 - x<=g/\Hid (dk.size=d.size)/\Hid (LiesU wr blk dk)/\Hid (Rn wr w.heap.size r)/\r<2^64/\Hid (w.grownBy wr (some blk))/\Hid (PermIn a b d dk))
 case atStart=>exact⟨t0,l,d,rfl,Nat.le_refl _,by have:=Aa HQ;omega,by have:=Aa HQ;omega,Ab rfl,HL0,HR0,by have:=Aa HQ;omega,HG0,Ab (permIn_refl d a b)⟩
 case round=>
  obtain⟨x,r,dk,rfl,hx1,hx2,hg,hsk,hLk,hRk,hr64,hGk,hPk⟩:=hrel
  by_cases hxt:x<=t1
  ·have y1:(x:Int)<=t1:=by omega
   have HN:=Ab (next80 w.heap.size r wr (Aa hRk) hr64)
   clear hr64
   go_wp2_with fail
   refine(Aa HN).mono ?_
   rintro e w1 ⟨r',hr',rfl,hR1,hG1⟩
   obtain⟨o,ho1,ho2⟩:=Aa HAnd r' hr'
   have HL1:=Ab ((Aa hLk).gb hG1 hBB)
   have HG1:Hid (w.grownBy w1 (some blk)):=Ab ⟨hG1.os.trans (Aa hGk).os,hG1.tape.trans (Aa hGk).tape,hG1.output.trans (Aa hGk).output,Nat.le_trans (Aa hGk).size hG1.size,fun c hc hne=>(hG1.block c (Nat.lt_of_lt_of_le hc (Aa hGk).size) (fun e=>by have:=Option.some.inj e;omega)).trans ((Aa hGk).block c hc hne)⟩
   have HR1:=Ab hR1
   have hlq:=Aa HQ
   have y2:IntKind.i64.wrap (o:Int)=(o:Int):=by rw[IntKind.wrap_i64];omega
   have hds:=Aa hsk
   obtain⟨o2,ho3⟩: ∃o2,o2=if l<=o then o - l else o:=⟨_,rfl⟩
   have ho4:o2<l:=by rw[ho3];split<;>omega
   have y4:IntKind.i64.wrap ((a:Int)+o2)=(a:Int)+o2:=by rw[IntKind.wrap_i64];omega
   have y5:((a:Int)+o2).toNat=a+o2:=by omega
   have y6:(0:Int)<=(a:Int)+o2:=by omega
   have y7:(a:Int)+o2<d.size:=by omega
   have y8:(x:Int)<d.size:=by omega
   have y9:IntKind.i64.wrap ((x:Int)+1)=((x+1:Nat):Int):=by rw[IntKind.wrap_i64];omega
   obtain⟨c1,f1⟩:=(Aa HL1).cell x (by omega)
   obtain⟨c2,f2⟩:=(Aa HL1).cell (a+o2) (by omega)
   have HSw:=Ab (fun n=>((Aa HL1).drew n).swap x (a+o2) (by omega) (by omega))
   have HP1:=Ab (permIn_trans d dk (swp dk x (a+o2)) a b (Aa hPk) (swp_permIn dk a b x (a+o2) (by omega) (by omega) (by omega) (by omega) (by omega)))
   have HRn:Hid (∀(X:World),w1.grownBy X (some blk)->Rn X w.heap.size r'):=Ab (fun X hX=>by
    unfold Rn
    rw[hX.block _ (Aa HR1).cell.2.2 (fun e=>hBB e.symm)]
    exact Aa HR1)
   have hoo:=Classical.em (l<=o)
   clear hR1 hG1 hlq hds hRk hLk hGk
   rcases hoo with hoo|hoo
   all_goals
    first
    |(have x1:(l:Int)<=o:=(by omega)
      rw[if_pos hoo] at ho3
      have x2:IntKind.i64.wrap ((o:Int) - l)=(o2:Int):=(by rw[IntKind.wrap_i64];omega)
      have HO3:=Ab ho3
      clear ho3
      go_wp2_with fail)
    |(have x1: ¬(l:Int)<=o:=(by omega)
      rw[if_neg hoo] at ho3
      subst ho3
      go_wp2_with fail)
    have hxx:=Classical.em (x=a+o2)
    rcases hxx with hxx|hxx
    all_goals
     first
     |(subst hxx
       generalize dk[a+o2]! =xv at *
       go_region
       all_goals go_wp2
       go_roundg (d.size+2 - (a+o2+1))
       case measure=>omega
       case rel=>
        have g0:=Ee w1 blk (a+o2) (a+o2) (.int .u32 (xv:Nat)) (.int .u32 (xv:Nat))
        exact⟨a+o2+1,r',swp dk (a+o2) (a+o2),by go_num,by omega,by omega,Nat.le_refl _,Ab (by rw[Dx];exact Aa hsk),Ab (LiesU.grown (Aa HSw 0) rfl),Ab (Aa HRn _ ⟨g0.os,g0.tape,g0.output,g0.size,g0.block⟩),hr',Ab (Dd (Aa HG1) ⟨g0.os,g0.tape,g0.output,g0.size,g0.block⟩),HP1⟩)
     |(have n1: ¬a+o2=x:=(fun e=>hxx e.symm)
       generalize dk[x]! =xv at *
       generalize dk[a+o2]! =yv at *
       go_region
       all_goals go_wp2
       go_roundg (d.size+2 - (x+1))
       case measure=>omega
       case rel=>
        have g0:=Ee w1 blk x (a+o2) (.int .u32 (yv:Nat)) (.int .u32 (xv:Nat))
        exact⟨x+1,r',swp dk x (a+o2),by go_num,by omega,by omega,Nat.le_refl _,Ab (by rw[Dx];exact Aa hsk),Ab (LiesU.grown (Aa HSw 0) rfl),Ab (Aa HRn _ ⟨g0.os,g0.tape,g0.output,g0.size,g0.block⟩),hr',Ab (Dd (Aa HG1) ⟨g0.os,g0.tape,g0.output,g0.size,g0.block⟩),HP1⟩)
  ·have y1: ¬(x:Int)<=t1:=by omega
   go_wp2
   go_end0
   exact⟨rfl,dk,Aa hPk,Aa hLk,Aa hGk⟩
theorem ZeE:SWO ltN where
 irrefl x:=by simp[ltN]
 trans x y z h1 h2:=by simp[ltN] at *;omega
 ntrans x y z h1 h2:=by simp[ltN] at *;omega
structure Todo (a b a' b':Nat) (d d1:Array Nat):Prop where
 size:d1.size=d.size
 low:Sort.Below ltN a' b' d1
 fin: ∀R,PermIn a' b' d1 R->SortedIn ltN a' b' R->PermIn a b d R/\SortedIn ltN a b R
theorem Todo.perm {a b a' b':Nat} {d d1 d2:Array Nat} (h:Todo a b a' b' d d1) (hb:b'<=d.size) (hp:PermIn a' b' d1 d2):Todo a b a' b' d d2:=
 ⟨hp.1.trans h.size,h.low.perm (by rw[h.size];exact hb) hp,fun R h1 h2=>h.fin R (permIn_trans d1 d2 R a' b' hp h1) h2⟩
def At (w:World) (blk:Nat) (d1:Array Nat) (X:World):Prop:=LiesU X blk d1/\w.grownBy X (some blk)
theorem At.next {w X Y:World} {blk:Nat} {d1 d2:Array Nat} (h:At w blk d1 X) (hL:LiesU Y blk d2) (hg:X.grownBy Y (some blk)):At w blk d2 Y:=⟨hL,Dd h.2 hg⟩
theorem At.none {w X Y:World} {blk:Nat} {d1:Array Nat} (h:At w blk d1 X) (hg:X.grownBy Y none):At w blk d1 Y:=
 ⟨h.1.gb hg (by simp),⟨hg.os.trans h.2.os,hg.tape.trans h.2.tape,hg.output.trans h.2.output,Nat.le_trans h.2.size hg.size,fun c hc hne=>(hg.block c (Nat.lt_of_lt_of_le hc h.2.size) (by simp)).trans (h.2.block c hc hne)⟩⟩
theorem At.drew {w X:World} {blk:Nat} {d1:Array Nat} (h:At w blk d1 X) (n:Nat):At w blk d1 (X.drewN n):=⟨h.1.drew n,Dv h.2 n⟩
theorem todo_eq {a b a' b' p mid:Nat} {d d1 d4:Array Nat} (h:Todo a b a' b' d d1) (hb:b'<=d.size) (ha0:0<a') (hp1:a'<=p) (hp2:p<b') (hnl:ltN d1[a' - 1]! d1[p]! =false) (hx:partitionEqual ltN d1 a' b' p=(mid,d4)):
  a'<mid/\mid<=b'/\Todo a b mid b' d d4:=by
 obtain⟨g1,g2,g3,g4,g5⟩:=round_eq ZeE (partitionEqual_holds ltN) ha0 hp1 hp2 (by rw[h.size];exact hb) h.low hnl hx
 exact⟨g1,g2,⟨g3.trans h.size,g4,fun R h1 h2=>h.fin R (g5 R h1 h2).1 (g5 R h1 h2).2⟩⟩
theorem ZeB {a b a' b' p mid:Nat} {ap:Bool} {d d1 d4:Array Nat} (h:Todo a b a' b' d d1) (hb:b'<=d.size) (hp1:a'<=p) (hp2:p<b') (hx:partition ltN d1 a' b' p=(mid,ap,d4)):
  a'<=mid/\mid<b'/\d4.size=d.size/\Sort.Below ltN a' mid d4/\Sort.Below ltN (mid+1) b' d4/\(∀L,PermIn a' mid d4 L->SortedIn ltN a' mid L->Todo a b (mid+1) b' d L)/\(∀L,PermIn (mid+1) b' d4 L->SortedIn ltN (mid+1) b' L->Todo a b a' mid d L):=by
 obtain⟨g1,g2,g3,g4,g5,g6,g7⟩:=round_part ZeE (partition_holds ltN) hp1 hp2 (by rw[h.size];exact hb) h.low hx
 refine⟨g1,g2,g3.trans h.size,g4,g5,fun L h1 h2=> ?_,fun L h1 h2=> ?_⟩
 ·obtain⟨k1,k2⟩:=g6 L h1 h2
  exact⟨h1.1.trans (g3.trans h.size),k1,fun R r1 r2=>h.fin R (k2 R r1 r2).1 (k2 R r1 r2).2⟩
 ·obtain⟨k1,k2⟩:=g7 L h1 h2
  exact⟨h1.1.trans (g3.trans h.size),k1,fun R r1 r2=>h.fin R (k2 R r1 r2).1 (k2 R r1 r2).2⟩
def PdqP (blk:Nat) (n:Nat):Prop:= ∀(cap a b lim:Nat) (d:Array Nat) (w:World),b - a<n->LiesU w blk d->a<=b->b<=d.size->d.size<=1500000->lim<=64->Sort.Below ltN a b d->
 Calls Tryz.prog 183 #[.slice (some ⟨blk,0,none⟩) d.size cap, .int .i64 a, .int .i64 b, .int .i64 lim] w fun e w'=>e= .returned (.tuple #[])/\ ∃d',PermIn a b d d'/\SortedIn ltN a b d'/\LiesU w' blk d'/\w.grownBy w' (some blk)
theorem pdq_step (blk n:Nat) (ih:PdqP blk n):PdqP blk (n+1):=by
 intro cap a b lim d w hn hL hab hb hsz hlim hBl
 have IH:=Ab ih
 have HL:=Ab hL
 have HB:=Ab hBl
 clear ih hL hBl
 go_enter Tryz.func183,Tryz.ntmps183
 go_wp2_with fail
 go_loopg [1,2,3,8,9] (b - a) (fun g s1 s2 s3 s8 s9 wr=> ∃(a' b' lm:Nat) (wb wp:Bool) (d1:Array Nat),s1= .int .i64 a'/\s2= .int .i64 b'/\s3= .int .i64 lm/\s8= .bool wb/\s9= .bool wp/\a'<=b'/\b'<=d.size/\b' - a'<=g/\b' - a'<=b - a/\lm<=64/\Hid (Todo a b a' b' d d1)/\Hid (At w blk d1 wr))
 case atStart=>exact⟨a,b,lim,true,true,d,rfl,rfl,rfl,rfl,rfl,hab,hb,Nat.le_refl _,Nat.le_refl _,hlim,Ab ⟨rfl,Aa HB,fun R h1 h2=>⟨h1,h2⟩⟩,Ab ⟨Aa HL,Ky _ _⟩⟩
 case round=>
  obtain⟨a',b',lm,wb,wp,d1,rfl,rfl,rfl,rfl,rfl,h1,h2,hg,h4,h5,hT,hA⟩:=hrel
  obtain⟨l,hl⟩: ∃l,l=b' - a':=⟨_,rfl⟩
  have z1:IntKind.i64.wrap ((b':Int) - a')=(l:Int):=by rw[IntKind.wrap_i64];omega
  have hds:=(Aa hT).size
  have HDS:=Ab hds
  by_cases h12:l<=12
  ·have HC:=Ab (Zcy blk cap a' b' d1 wr (Aa hA).1 h1 (by omega) (by omega))
   rw[hds] at HC
   have HP:=Ab (insertionSort_holds (lt:=ltN) ZeE d1 a' b' h1 (by omega))
   have z2:(l:Int)<=12:=by omega
   clear hds hl
   go_wp2_with fail
   refine(Aa HC).mono ?_
   rintro e w1 ⟨rfl,hL1,hG1⟩
   have HF:=Ab (And.intro hL1 (Dd (Aa hA).2 hG1))
   clear hL1 hG1
   go_wp2
   (try simp only[Exit.inBlock,Exit.then])
   refine bodyPost_ret (results_none rfl _ _ _) rfl ?_
   have hf:=(Aa hT).fin _ (Aa HP).1 (Aa HP).2
   exact⟨rfl,_,hf.1,hf.2,(Aa HF).1,(Aa HF).2⟩
  ·by_cases hl0:lm=0
   ·subst hl0
    have HC:=Ab (heap62 blk cap a' b' d1 wr (Aa hA).1 (by omega) (by omega) (by omega))
    rw[hds] at HC
    have HP:=Ab (heapSort_holds (lt:=ltN) ZeE d1 a' b' h1 (by omega))
    have z2: ¬(l:Int)<=12:=by omega
    clear hds hl
    go_wp2_with fail
    refine(Aa HC).mono ?_
    rintro e w1 ⟨rfl,hL1,hG1⟩
    have HF:=Ab (And.intro hL1 (Dd (Aa hA).2 hG1))
    clear hL1 hG1
    go_wp2
    (try simp only[Exit.inBlock,Exit.then])
    refine bodyPost_ret (results_none rfl _ _ _) rfl ?_
    have hf:=(Aa hT).fin _ (Aa HP).1 (Aa HP).2
    exact⟨rfl,_,hf.1,hf.2,(Aa HF).1,(Aa HF).2⟩
   ·have z2: ¬(l:Int)<=12:=by omega
    have z3: ¬(lm:Int)=0:=by omega
    have z3':((lm:Int)==0)=false:=by simp;omega
    have HLl:=Ab hl
    have hlen:a'+13<=b':=by omega
    clear hds hl
    go_upto_if 35 with fail
    go_cut [3] from 19 to 56 (fun s3 X=> ∃(lm2:Nat) (d2:Array Nat),s3= .int .i64 lm2/\lm2<=64/\Hid (Todo a b a' b' d d2)/\Hid (At w blk d2 X))
    case first=>
     cases wb
     ·have HC:=Ab (break63 blk cap a' b' d1 wr (Aa hA).1 (by omega) (by have:=Aa HDS;omega) (by have:=Aa HDS;omega))
      rw[Aa HDS] at HC
      have z4:IntKind.i64.wrap ((lm:Int) - 1)=((lm - 1:Nat):Int):=by rw[IntKind.wrap_i64];omega
      go_wp2_with fail
      refine(Aa HC).mono ?_
      rintro e w1 ⟨rfl,d2,hP2,hL2,hG2⟩
      have HT2:=Ab ((Aa hT).perm h2 hP2)
      have HA2:Hid (At w blk d2 w1):=Ab ⟨hL2,Dd (Aa hA).2 hG2⟩
      clear hP2 hL2 hG2
      go_wp2
      go_meet
      case rel=>exact⟨lm - 1,d2,by go_num,by omega,HT2,HA2⟩
     ·go_wp2
      go_meet
      case rel=>exact⟨lm,d1,rfl,h5,hT,hA⟩
    case rest=>
     obtain⟨lm2,d2,rfl,h6,hT2,hA2⟩:=hcut
     clear hT hA
     have HC:=Ab (pivot64 blk cap a' b' d2 wc (Aa hA2).1 (by omega) (by have:=(Aa hT2).size;omega) (by have:=(Aa hT2).size;omega))
     rw[(Aa hT2).size] at HC
     go_wp2_with fail
     refine(Aa HC).mono ?_
     rintro e w2 ⟨p,hint,rfl,hp1,hp2,hh,hG2⟩
     have hA3:=Ab ((Aa hA2).none hG2)
     clear hG2 HC hA2
     go_upto_if 50 with fail
     go_cut [11,12] from 19 to 56 (fun s11 s12 X=> ∃(p3 h3:Nat) (d3:Array Nat),s11= .int .i64 p3/\s12= .int .i64 h3/\a'<=p3/\p3<b'/\h3<=1/\Hid (Todo a b a' b' d d3)/\Hid (At w blk d3 X))
     case first=>
      by_cases hh2:hint=2
      ·subst hh2
       have HC:=Ab (ZeJ blk cap a' b' d2 w2 (Aa hA3).1 (by omega) (by have:=(Aa hT2).size;omega) (by have:=(Aa hT2).size;omega))
       rw[(Aa hT2).size] at HC
       have HT3:=Ab ((Aa hT2).perm h2 (reverseRange_holds d2 a' b' h1 (by have:=(Aa hT2).size;omega)))
       obtain⟨e1,he1⟩: ∃e,e=b' - 1:=⟨_,rfl⟩
       obtain⟨e2,he2⟩: ∃e,e=p - a':=⟨_,rfl⟩
       obtain⟨e3,he3⟩: ∃e,e=e1 - e2:=⟨_,rfl⟩
       have y1:IntKind.i64.wrap ((b':Int) - 1)=(e1:Int):=by rw[IntKind.wrap_i64];omega
       have y2:IntKind.i64.wrap ((p:Int) - a')=(e2:Int):=by rw[IntKind.wrap_i64];omega
       have y3:IntKind.i64.wrap ((e1:Int) - e2)=(e3:Int):=by rw[IntKind.wrap_i64];omega
       have hr3:=Ab (show a'<=e3/\e3<b' by omega)
       clear he1 he2 he3
       go_wp2_with fail
       refine(Aa HC).mono ?_
       rintro e w3 ⟨rfl,hL3,hG3⟩
       have HA3:=Ab ((Aa hA3).next hL3 hG3)
       clear hL3 hG3
       go_wp2
       go_meet
       case rel=>exact⟨e3,1,_,rfl,rfl,(Aa hr3).1,(Aa hr3).2,by omega,HT3,HA3⟩
      ·have y1: ¬(hint:Int)=2:=by omega
       have y2:((hint:Int)==2)=false:=by simp;omega
       go_wp2
       go_meet
       case rel=>exact⟨p,hint,d2,rfl,rfl,hp1,hp2,by omega,hT2,hA3⟩
     case rest=>
      clear hT2 hA3 hp1 hp2 hh
      obtain⟨p3,h3,d3,rfl,rfl,hq1,hq2,hh1,hT3,hA3⟩:=hcut
      obtain⟨w3,hw3⟩: ∃z,z=wc:=⟨_,rfl⟩
      subst hw3
      go_upto_region 15 with fail
      go_cut [12,68] from 19 to 56 (fun s12 s68 X=>s12= .int .i64 h3/\s68= .bool (wb && wp && decide (h3=1))/\Hid (X=w3))
      case first=>
       have h01:h3=0∨h3=1:=by omega
       rcases h01 with rfl|rfl
       all_goals
        cases wb
        all_goals
         cases wp
         all_goals
          go_wp2
          go_meet
          case rel=>exact⟨rfl,rfl,Ab rfl⟩
      case rest=>
       obtain⟨rfl,rfl,hX⟩:=hcut
       have hX':=Aa hX
       subst hX'
       clear hX
       go_upto_if 68 with fail
       go_cut [] from 19 to 56 (fun X=> ∃d4:Array Nat,Hid (Todo a b a' b' d d4)/\Hid (At w blk d4 X))
       case first=>
        generalize (wb && wp && decide (h3=1))=c at *
        cases c
        ·go_wp2
         go_meet
         case rel=>exact⟨d3,hT3,hA3⟩
        ·have HC:=Ab (ZeN blk cap a' b' d3 wc (Aa hA3).1 (by omega) (by have:=(Aa hT3).size;omega) (by have:=(Aa hT3).size;omega))
         rw[(Aa hT3).size] at HC
         have HP:=Ab (partialInsertionSort_holds (lt:=ltN) ZeE d3 a' b' (by omega) (by have:=(Aa hT3).size;omega) (Aa hT3).low)
         generalize hpi:partialInsertionSort ltN d3 a' b'=pr at *
         obtain⟨d4,fl⟩:=pr
         clear hpi
         dsimp only at HC HP
         cases fl
         ·go_wp2_with fail
          refine(Aa HC).mono ?_
          rintro e w4 ⟨rfl,hL4,hG4⟩
          have HA4:=Ab ((Aa hA3).next hL4 hG4)
          have HT4:=Ab ((Aa hT3).perm h2 (Aa HP).1)
          clear hL4 hG4
          go_wp2
          go_meet
          case rel=>exact⟨d4,HT4,HA4⟩
         ·go_wp2_with fail
          refine(Aa HC).mono ?_
          rintro e w4 ⟨rfl,hL4,hG4⟩
          have HA4:=Ab ((Aa hA3).next hL4 hG4)
          have HF:=Ab ((Aa hT3).fin d4 (Aa HP).1 ((Aa HP).2 trivial))
          clear hL4 hG4
          go_wp2
          (try simp only[Exit.inBlock,Exit.then])
          refine bodyPost_ret (results_none rfl _ _ _) rfl ?_
          exact⟨rfl,d4,(Aa HF).1,(Aa HF).2,(Aa HA4).1,(Aa HA4).2⟩
       case rest=>
        obtain⟨w4,hw4⟩: ∃z,z=wc:=⟨_,rfl⟩
        clear hT3 hA3
        obtain⟨d4,hT4,hA4⟩:=hcut
        rw[←hw4] at hA4 ⊢
        clear hw4
        have hds:=(Aa hT4).size
        have HL4:=Ab hds
        have hll:=Aa HLl
        by_cases hE:0<a'/\ltN d4[a' - 1]! d4[p3]! =false
        ·obtain⟨u,hu⟩: ∃u,u=a' - 1:=⟨_,rfl⟩
         obtain⟨c1,f1⟩:=(Aa hA4).1.cell u (by omega)
         obtain⟨c2,f2⟩:=(Aa hA4).1.cell p3 (by omega)
         have HCl:=Ab (Gc d4[u]! d4[p3]!)
         have hr:ltN d4[u]! d4[p3]! =false:=by rw[hu];exact hE.2
         have y1:(0:Int)<a':=by omega
         have y2:IntKind.i64.wrap ((a':Int) - 1)=(u:Int):=by rw[IntKind.wrap_i64];omega
         have y3:(u:Int)<d.size:=by omega
         have y4:(p3:Int)<d.size:=by omega
         rw[hr] at HCl
         have HC:=Ab (fun X hX=>parteq68 blk cap a' b' p3 d4 X hX hq1 hq2 (by omega) (by omega))
         rw[hds] at HC
         have HE:=Ab (fun mid d5=>todo_eq (mid:=mid) (d4:=d5) (Aa hT4) h2 hE.1 hq1 hq2 hE.2)
         generalize hpq:partitionEqual ltN d4 a' b' p3=pr at *
         obtain⟨mid,d5⟩:=pr
         have HR:=Ab (Aa HE mid d5 rfl)
         clear hpq HE hE hr hds hu hll
         dsimp only at HC
         generalize d4[u]! =xv at *
         generalize d4[p3]! =yv at *
         go_wp2_with fail
         have y5:decide ((0:Int)<a')=true:=decide_eq_true (by omega)
         have y6:0<a':=by omega
         have y7:decide (0<a')=true:=decide_eq_true y6
         go_quiet ((go_at_call 193;refine(Aa HCl _).mono ?_;rintro e w9 ⟨rfl,rfl⟩;exact⟨rfl,_,rfl⟩))
         go_wp2_with fail
         refine(Aa HC _ ((Aa hA4).drew _).1).mono ?_
         rintro e w5 ⟨rfl,hL5,hG5⟩
         have HA5:=Ab (((Aa hA4).drew _).next hL5 hG5)
         clear hL5 hG5
         go_wp2
         go_roundg (b' - mid)
         case measure=>(have:=Aa HR;have:=Aa HLl;omega)
         case rel=>exact⟨mid,b',lm2,wb,wp,d5,rfl,rfl,rfl,rfl,rfl,(Aa HR).2.1,h2,Nat.le_refl _,by have:=Aa HR;omega,h6,Ab (Aa HR).2.2,HA5⟩
        ·have hE':a'=0∨(0<a'/\ltN d4[a' - 1]! d4[p3]! =true):=by
          rcases Nat.eq_zero_or_pos a' with e|e
          ·exact .inl e
          ·refine .inr ⟨e, ?_⟩
           cases hr:ltN d4[a' - 1]! d4[p3]!
           ·exact absurd ⟨e,hr⟩ hE
           ·rfl
         have HC:=Ab (fun X hX=>part69 blk cap a' b' p3 d4 X hX hq1 hq2 (by omega) (by omega))
         rw[hds] at HC
         have HE:=Ab (fun mid ap d5=>ZeB (mid:=mid) (ap:=ap) (d4:=d5) (Aa hT4) h2 hq1 hq2)
         generalize hpq:partition ltN d4 a' b' p3=pr at *
         obtain⟨mid,ap,d5⟩:=pr
         have HR:=Ab (Aa HE mid ap d5 rfl)
         clear hpq HE hE
         dsimp only at HC
         obtain⟨x1,hx1⟩: ∃x,x=mid - a':=⟨_,rfl⟩
         obtain⟨x2,hx2⟩: ∃x,x=b' - mid:=⟨_,rfl⟩
         obtain⟨x8,hx8⟩: ∃x,x=l / 8:=⟨_,rfl⟩
         have hrr:=Aa HR
         have v1:IntKind.i64.wrap ((mid:Int) - a')=(x1:Int):=by rw[IntKind.wrap_i64];omega
         have v2:IntKind.i64.wrap ((b':Int) - mid)=(x2:Int):=by rw[IntKind.wrap_i64];omega
         have v3:(l:Int).tdiv 8=(x8:Int):=by rw[Int.tdiv_eq_ediv_of_nonneg (by omega)];omega
         have v3':(l:Int) / 8=(x8:Int):=by omega
         have v4:IntKind.i64.wrap ((mid:Int)+1)=((mid+1:Nat):Int):=by rw[IntKind.wrap_i64];omega
         have v5:IntKind.i64.wrap (x8:Int)=(x8:Int):=by rw[IntKind.wrap_i64];omega
         have HXX:=Ab (And.intro hx1 (And.intro hx2 hx8))
         have HI1:=Ab (fun X hX=>Aa IH cap a' mid lm2 d5 X (by omega) hX (by omega) (by omega) (by omega) h6 hrr.2.2.2.1)
         have HI2:=Ab (fun X hX=>Aa IH cap (mid+1) b' lm2 d5 X (by omega) hX (by omega) (by omega) (by omega) h6 hrr.2.2.2.2.1)
         rw[hrr.2.2.1] at HI1 HI2
         clear hx1 hx2 hx8 hrr hll
         rcases hE' with hE'|hE'
         all_goals
          first
          |(have hz0:a'=0:=hE'
            have HZ0:=Ab hz0
            clear hds hz0 hE'
            go_wp2_with fail
            have y5:decide ((0:Int)<a')=false:=decide_eq_false (by have:=Aa HZ0;omega)
            have y6: ¬0<a':=(by have:=Aa HZ0;omega)
            have y7:decide (0<a')=false:=decide_eq_false y6
            go_quiet (fail)
            clear y5 y6 y7)
          |(obtain⟨u,hu⟩: ∃u,u=a' - 1:=⟨_,rfl⟩
            obtain⟨c1,f1⟩:=(Aa hA4).1.cell u (by omega)
            obtain⟨c2,f2⟩:=(Aa hA4).1.cell p3 (by omega)
            have HCl:=Ab (Gc d4[u]! d4[p3]!)
            have hr:ltN d4[u]! d4[p3]! =true:=(by rw[hu];exact hE'.2)
            have y2:IntKind.i64.wrap ((a':Int) - 1)=(u:Int):=(by rw[IntKind.wrap_i64];omega)
            have y3:(u:Int)<d.size:=(by omega)
            have y4:(p3:Int)<d.size:=(by omega)
            have hpos:=hE'.1
            rw[hr] at HCl
            clear hE' hr hds hu
            generalize d4[u]! =xv at *
            generalize d4[p3]! =yv at *
            go_wp2_with fail
            have y5:decide ((0:Int)<a')=true:=decide_eq_true (by omega)
            have y6:0<a':=(by omega)
            have y7:decide (0<a')=true:=decide_eq_true y6
            go_quiet ((go_at_call 193;refine(Aa HCl _).mono ?_;rintro e w9 ⟨rfl,rfl⟩;exact⟨rfl,_,rfl⟩))
            clear HCl c1 c2 f1 f2 y2 y3 y4 y5 y6 y7)
          go_wp2_with fail
          refine(Aa HC _ ((Aa hA4).drew _).1).mono ?_
          rintro e w5 ⟨rfl,hL5,hG5⟩
          have HA5:=Ab (((Aa hA4).drew _).next hL5 hG5)
          clear hL5 hG5
          by_cases hlr:x1<x2
          ·have q1:(x1:Int)<x2:=by omega
           go_wp2_with fail
           refine(Aa HI1 w5 (Aa HA5).1).mono ?_
           rintro e w6 ⟨rfl,d6,hP6,hS6,hL6,hG6⟩
           have HA6:=Ab ((Aa HA5).next hL6 hG6)
           have HT6:=Ab ((Aa HR).2.2.2.2.2.1 d6 hP6 hS6)
           clear hP6 hS6 hL6 hG6
           go_wp2
           go_roundg (b' - (mid+1))
           case measure=>(have:=Aa HR;have:=Aa HLl;omega)
           case rel=>exact⟨mid+1,b',lm2,_,ap,d6,by go_num,rfl,rfl,rfl,rfl,by have:=Aa HR;omega,h2,Nat.le_refl _,by have:=Aa HR;omega,h6,HT6,HA6⟩
          ·have q1: ¬(x1:Int)<x2:=by omega
           go_wp2_with fail
           refine(Aa HI2 w5 (Aa HA5).1).mono ?_
           rintro e w6 ⟨rfl,d6,hP6,hS6,hL6,hG6⟩
           have HA6:=Ab ((Aa HA5).next hL6 hG6)
           have HT6:=Ab ((Aa HR).2.2.2.2.2.2 d6 hP6 hS6)
           clear hP6 hS6 hL6 hG6
           go_wp2
           go_roundg (mid - a')
           case measure=>(have:=Aa HR;have:=Aa HLl;omega)
           case rel=>exact⟨_,mid,lm2,_,ap,d6,rfl,rfl,rfl,rfl,rfl,by have:=Aa HR;omega,by have:=Aa HR;omega,by omega,by have:=Aa HR;omega,h6,HT6,HA6⟩
theorem Zd0 (blk:Nat): ∀n,PdqP blk n
 |0=>fun _ _ _ _ _ _ h=>by omega
 |n+1=>pdq_step blk n (Zd0 blk n)
end
section
open Go Go.Proofs Go.RowKit Go.Sort Tryz
theorem bl_any (n:Nat) (h:n<=1500000):Lib.bitLen n<=21:=by
 rcases Nat.lt_or_ge n 8 with h8|h8
 ·have: ∀m:Fin 8,Lib.bitLen m.val<=21:=by decide+kernel
  exact this ⟨n,h8⟩
 ·exact(bl_le n h8 h).2.2
theorem sort31 (blk cap:Nat) (d:Array Nat) (w:World) (hL:LiesU w blk d) (hsz:d.size<=1500000):
  Calls prog 180 #[.slice (some ⟨blk,0,none⟩) d.size cap] w fun e w'=>e= .returned (.tuple #[])/\ ∃d',d'.toList=d.toList.mergeSort (fun x y=> !ltN y x)/\LiesU w' blk d'/\w.grownBy w' (some blk):=by
 have HC:=Ab (Tryz.bits_Len (d.size:Int) w (by omega) (by omega))
 rw[Int.toNat_natCast] at HC
 have HP:=Ab (Zd0 blk (d.size+1) cap 0 d.size (Lib.bitLen d.size) d w (by omega) hL (by omega) (Nat.le_refl _) hsz (by have:=bl_any d.size hsz;omega) (.inl rfl))
 generalize Lib.bitLen d.size=k at *
 clear hL
 have z1:IntKind.u64.wrap (d.size:Int)=(d.size:Int):=by simp[IntKind.wrap,IntKind.bits,IntKind.signed];omega
 go_enter func180,ntmps180
 go_wp2_with fail
 refine(Aa HC).mono ?_
 rintro e w' ⟨rfl,rfl⟩
 go_wp2_with fail
 refine(Aa HP).mono ?_
 rintro e w1 ⟨rfl,d',hP,hS,hL1,hG1⟩
 have HF:=Ab (And.intro hL1 (And.intro hG1 (sorted_unique_holds (lt:=ltN) ZeE (fun x y h1 h2=>by simp[ltN] at *;omega) d d' hP hS)))
 clear hL1 hG1 hP hS
 go_wp2
 go_end0
 exact⟨rfl,d',(Aa HF).2.2,(Aa HF).1,(Aa HF).2.1⟩
theorem Yp (w:World):Calls prog 187 #[.slice none 0 0, .int .i64 0, .int .i64 0] w fun e w'=>e= .returned (.tuple #[])/\w.grownBy w' none:=by
 go_enter func187,ntmps187
 go_wp2_with fail
 go_loopg [6] 1 (fun g s6 wr=>s6= .int .i64 1/\Hid (w.grownBy wr none))
 case atStart=>exact⟨by go_num,Ab (Ky _ _)⟩
 case round=>
  obtain⟨rfl,hGk⟩:=hrel
  go_wp2_with fail
  go_end0
  exact⟨rfl,Aa hGk⟩
theorem ZeM (k:Nat) (w:World):Calls prog 183 #[.slice none 0 0, .int .i64 0, .int .i64 0, .int .i64 k] w fun e w'=>e= .returned (.tuple #[])/\w.grownBy w' none:=by
 have HI:=Ab (fun w=>Yp w)
 go_enter func183,ntmps183
 go_wp2_with fail
 go_loopg [1,2,3,8,9] 1 (fun g s1 s2 s3 s8 s9 wr=>s1= .int .i64 0/\s2= .int .i64 0/\s3= .int .i64 k/\s8= .bool true/\s9= .bool true/\Hid (w.grownBy wr none))
 case atStart=>exact⟨rfl,rfl,rfl,rfl,rfl,Ab (Ky _ _)⟩
 case round=>
  obtain⟨rfl,rfl,rfl,rfl,rfl,hG⟩:=hrel
  go_wp2_with fail
  refine((Aa HI) _).mono ?_
  rintro e w1 ⟨rfl,hG1⟩
  have HF:=Ab (Dd (Aa hG) hG1)
  clear hG1
  go_wp2
  (try simp only[Exit.inBlock,Exit.then])
  refine bodyPost_ret (results_none rfl _ _ _) rfl ?_
  exact⟨rfl,Aa HF⟩
theorem Zc6 (w:World):Calls prog 180 #[.slice none 0 0] w fun e w'=>e= .returned (.tuple #[])/\w.grownBy w' none:=by
 have HC:=Ab (Tryz.bits_Len (0:Int) w (by omega) (by omega))
 have HP:=Ab (fun k=>ZeM k w)
 generalize Lib.bitLen (0:Int).toNat=k at *
 go_enter func180,ntmps180
 go_wp2_with fail
 refine(Aa HC).mono ?_
 rintro e w' ⟨rfl,rfl⟩
 go_wp2_with fail
 refine((Aa HP) k).mono ?_
 rintro e w1 ⟨rfl,hG1⟩
 have HF:=Ab hG1
 clear hG1
 go_wp2
 go_end0
 exact⟨rfl,Aa HF⟩
end
section
open Go Go.Proofs Go.RowKit Tryz
theorem Kd (w:World) (base:Nat) (t ty e:TypeId) (i:TypeInfo) (z:Value) (size bytes:Nat) (ht:prog.underlying t=some (.slice e)) (hi:prog.info? e=some i) (hz:i.zero=some z)
  (hsize:i.size=size) (hby:i.bytes=bytes) (hzs:z.cells.size=size) (hsz:0<size) (v:Value) (n:Nat) (xs:List Value) (hown:w.ownsRow base e size v n xs)
  (a:Addr) (m c:Nat) (news:List Value) (hl:news.length=m * size) (hnews: ∀j u,news[j]? =some u->w.cell? (a.add j)=some u) (h1: ∀u∈news,u.oneCell'=true)
  (h63:n+m<=maxLen) (hbytes:(n+m) * bytes<=140737488355328) (hbase:base<=w.heap.size):
  ∃v' w',(Builtin.append_ #[t,t] ty #[v, .slice (some a) m c]).run prog w= .ok v' w'/\w'.ownsRow base e size v' (n+m) (xs++news)/\w.grownBy w' v.ownBlock/\(v'.ownBlock=v.ownBlock∨v'.ownBlock=some w.heap.size):=by
 obtain⟨v',w',hr,ho,hg,hiff⟩:=run_append_own w base t ty e i z size bytes ht hi hz hsize hby hzs hsz v n xs hown a m c news hl hnews h1 h63 hbytes hbase
 refine⟨v',w',hr,ho,hg, ?_⟩
 have hm:n+m<=9223372036854775807:=by simp only[maxLen] at h63;omega
 have inj: ∀{v2:Value} {w2:World},(Builtin.append_ #[t,t] ty #[v, .slice (some a) m c]).run prog w= .ok v2 w2->v'=v2:=fun h2=>by
  rw[hr] at h2
  injection h2
 subst hsize
 subst hby
 rcases hown.2 with ⟨rfl,rfl⟩|⟨g,cap,cur,rfl,hbg,hgg,hnc,hcm,hcs,htake⟩
 ·by_cases h0:m=0
  ·exact Or.inl (by rw[hiff.2 ⟨rfl,h0⟩])
  ·right
   have hb:=hbytes
   rw[Nat.zero_add] at hb
   rw[inj (run_append_nil w t ty e i z ht hi hz a m c news hl hnews (by omega) (by omega) (by omega))]
   rfl
 ·by_cases hroom:n+m<=cap
  ·left
   have hfit:n * i.size+news.length<=cur.size:=by rw[hl,hcs,←Nat.add_mul];exact Nat.mul_le_mul_right _ hroom
   rw[inj (run_append_room w t ty e i ht hi g n cap cur hgg a m c news hl hnews h1 hroom hfit)]
   rfl
  ·right
   rw[inj (run_append_grow w t ty e i z ht hi hz ⟨g,0,none⟩ n cap xs hown.1 (hown.cells (g:=g) rfl) a m c news hl hnews (by omega) (by omega) (growslice_fits (by omega) hbytes))]
   rfl
def Nl (w:World) (v v':Value):Prop:=v'.ownBlock=v.ownBlock∨v'.ownBlock=some w.heap.size
section
variable {ops : Array Oper} {rest : List Oper} {o : Oper} {a : Act} {w : World} {Q : Exit → Act → World → Prop} {s x : Operand} {base : Nat} {l m : List KK} {v u : Value}
theorem Zbf {K:Act->World->Prop} (ho:o.op= .call {callee:= .builtin .append,args:= #[s,x],argTypes:= #[40,40]}) (hs:a.eval s=v) (hx:a.eval x=u) (hown:OwnK w base v l) (hu:Yc w u m) (hcap: ∀c,u= .slice none 0 c->c=0)
  (hn:l.length+m.length<=6000000) (hbase:base<=w.heap.size)
  (h: ∀v' w',OwnK w' base v' (l++m)->w.grownBy w' v.ownBlock->Nl w v v'->K (a.put o.dst v') w'):o.wp prog a w K Q:=by
 obtain⟨i0,hi,hz0,hz1,hz2⟩:=info_parts Qv
 have main: ∀ad c,u= .slice (some ad) m.length c->(∀j u,(Gw m)[j]? =some u->w.cell? (ad.add j)=some u)->o.wp prog a w K Q:=fun ad c hu' hc=>by
  obtain⟨v',w',hrun,h1,h2,h3⟩:=Kd w base 40 o.type 48 i0 _ 2 24 underlying40 hi hz0 hz1 hz2 rfl (by decide) v l.length (Gw l) hown ad m.length c (Gw m) (Mn m) hc (Zam m) (by unfold maxLen;omega) (by omega) hbase
  have hK:=h v' w' (by unfold OwnK;rw[Uw,List.length_append];exact h1) h2 h3
  subst hu'
  unfold Oper.wp
  simp[execOp,ho,resolve,invoke,builtin,hs,hx,hrun,Result.andThen]
  exact hK
 rcases hu with ⟨A,c,rfl,rfl⟩|⟨b,off,cap,rfl,hlt,hc⟩
 ·cases A with
  |none=>
   obtain rfl:=hcap c rfl
   have hrun:=run_append_owned_none (P:=prog) (w:=w) base 40 o.type 48 i0 2 underlying40 hi v l.length (Gw l) hown
   have hK:=h v w (by simpa using hown) ⟨rfl,rfl,rfl,Nat.le_refl _,fun _ _ _=>rfl⟩ (Or.inl rfl)
   unfold Oper.wp
   simp[execOp,ho,resolve,invoke,builtin,hs,hx,hrun,Result.andThen]
   exact hK
  |some ad=>exact main ad c rfl (fun j u hu=>by simp[Gw] at hu)
 ·exact main _ cap rfl (fun j u hu=>by
   have:=ZaV.1 hc j u hu
   by_cases e:j=0
   ·subst e;simpa [Addr.add] using this
   ·simpa [Addr.add,e] using this)
theorem Gm (hgd:o.guard=none) (ho:o.op= .call {callee:= .builtin .append,args:= #[s,x],argTypes:= #[40,40]}) (hs:a.eval s=v) (hx:a.eval x=u) (hown:OwnK w base v l) (hu:Yc w u m) (hcap: ∀c,u= .slice none 0 c->c=0)
  (hn:l.length+m.length<=6000000) (hbase:base<=w.heap.size)
  (h: ∀v' w',OwnK w' base v' (l++m)->w.grownBy w' v.ownBlock->Nl w v v'->wpList prog ops Q rest (a.put o.dst v') w'):wpList prog ops Q (o::rest) a w:=
 wpList_plain hgd fun _ hK=>Zbf ho hs hx hown hu hcap hn hbase (fun v' w' h1 h2 h3=>hK _ _ (h v' w' h1 h2 h3))
def OwnU (w:World) (base:Nat) (v:Value) (d:List Nat):Prop:=w.ownsRow base 220 1 v d.length (d.map Zdz)
theorem Zed:(prog.info? 220).map (fun i=>(i.zero,i.size,i.bytes))=some (some (.int .u32 0),1,4):=by kernel_rfl
theorem Zfq {d:List Nat} {n:Nat} {B:Nat} (hgd:o.guard=none) (ho:o.op= .call {callee:= .builtin .append,args:= #[s,x],argTypes:= #[241,241]}) (hs:a.eval s=v) (hx:a.eval x= .slice (some ⟨B,0,none⟩) 1 1) (hown:OwnU w base v d) (hB:w.cell? ⟨B,0,none⟩=some (.int .u32 (n:Nat)))
  (hn:d.length<=6000000) (hbase:base<=w.heap.size)
  (h: ∀v' w',OwnU w' base v' (d++ [n])->w.grownBy w' v.ownBlock->Nl w v v'->wpList prog ops Q rest (a.put o.dst v') w'):wpList prog ops Q (o::rest) a w:=by
 obtain⟨i0,hi,hz0,hz1,hz2⟩:=info_parts Zed
 refine wpList_plain hgd fun K hK=> ?_
 obtain⟨v',w',hrun,h1,h2,h3⟩:=Kd w base 241 o.type 220 i0 _ 1 4 underlying241 hi hz0 hz1 hz2 rfl (by decide) v d.length (d.map Zdz) hown ⟨B,0,none⟩ 1 1 [.int .u32 (n:Nat)] rfl (fun j u hj=>by
  obtain rfl:j=0:=by
   have:=(List.getElem?_eq_some_iff.1 hj).1
   simpa using this
  have e:Value.int .u32 (n:Nat)=u:=by simpa using hj
  subst e
  simpa [Addr.add] using hB) (fun u hu=>by
  obtain rfl:u= .int .u32 (n:Nat):=by simpa using hu
  rfl) (by unfold maxLen;omega) (by omega) hbase
 have hP:=hK _ _ (h v' w' (by unfold OwnU;rw[List.length_append,List.map_append];exact h1) h2 h3)
 unfold Oper.wp
 simp[execOp,ho,resolve,invoke,builtin,hs,hx,hrun,Result.andThen]
 exact hP
theorem kbuildU {n:Nat} (hw:Region.wanted o (yielded ops a.tmps)=true) (ho:o.op= .buildSlice 241 1 #[(0,x)]) (hx:a.eval x= .int .u32 (n:Nat))
  (h: ∀X,X.cell? ⟨w.heap.size,0,none⟩=some (.int .u32 (n:Nat))->X.heap.size=w.heap.size+1->Below w.heap.size w X->wpList prog ops Q rest (a.put o.dst (.slice (some ⟨w.heap.size,0,none⟩) 1 1)) X):wpList prog ops Q (o::rest) a w:=by
 refine BigFrame.wpList_want hw fun K hK=> ?_
 obtain⟨i0,hi,hz0,hz1,hz2⟩:=info_parts Zed
 refine wp_buildSlice 241 220 1 _ ho #[.int .u32 (n:Nat)] i0 _ underlying241 hi hz0 (by rw[hz1];decide) (by rw[hz1];decide) ?_ (hK _ _ (h _ (by simp[go_sem]) (by simp) ((Below.refl _ _).alloc (Nat.le_refl _) _)))
 rw[hz1]
 simp only[List.map_toArray,List.map_cons,List.map_nil,hx]
 kernel_rfl
end
theorem OwnU.own {w:World} {base:Nat} {v:Value} {l:List Nat} (h:OwnU w base v l): ∀g,v.ownBlock=some g->base<=g/\g<w.heap.size:=World.ownsRow.lt h
theorem OwnU.block {w w':World} {base:Nat} {v:Value} {l:List Nat} (h:OwnU w base v l) (he: ∀g,v.ownBlock=some g->w'.heap[g]? =w.heap[g]?):OwnU w' base v l:=by
 refine⟨h.1, ?_⟩
 rcases h.2 with h|⟨g',c',cur,rfl,h1,h2,h3⟩
 ·exact .inl h
 ·exact .inr ⟨_,c',cur,rfl,h1,(he g' rfl).trans h2,h3⟩
def Apart (v u:Value):Prop:= ∀g,v.ownBlock=some g->u.ownBlock≠some g
theorem Apart.symm {v u:Value} (h:Apart v u):Apart u v:=fun g hu hv=>h g hv hu
theorem Apart.fresh {w:World} {v v' u:Value} (h:Apart v u) (hf:Nl w v v') (hu: ∀g,u.ownBlock=some g->g<w.heap.size):Apart v' u:=by
 intro g hg he
 rcases hf with e|e
 ·exact h g (e▸hg) he
 ·rw[e] at hg
  have h1:=hu g he
  have h2:w.heap.size=g:=by simpa using hg
  omega
structure R3 (w W:World) (v3 v4 v5:Value) (d:List Nat) (ks ys:List KK):Prop where
 below:Below w.heap.size w W
 o3:OwnU W w.heap.size v3 d
 o4:OwnK W w.heap.size v4 ks
 o5:OwnK W w.heap.size v5 ys
 a34:Apart v3 v4
 a35:Apart v3 v5
 a45:Apart v4 v5
theorem R3.nil (w:World):R3 w w (.slice none 0 0) (.slice none 0 0) (.slice none 0 0) [] [] []:=
 ⟨Below.refl _ _,⟨rfl, .inl ⟨rfl,rfl⟩⟩,OwnK.nil _ _,OwnK.nil _ _,(fun g h=>by cases h),(fun g h=>by cases h),(fun g h=>by cases h)⟩
section
variable {w W W' : World} {v3 v4 v5 v' : Value} {d : List Nat} {ks ys : List KK}
theorem R3.on (h:R3 w W v3 v4 v5 d ks ys) (hb:Below W.heap.size W W'):R3 w W' v3 v4 v5 d ks ys:=
 ⟨h.below.trans (hb.mono h.below.size),h.o3.block (fun g hg=>hb.block g (h.o3.own g hg).2),h.o4.on hb,h.o5.on hb,h.a34,h.a35,h.a45⟩
theorem R3.put3 {n:Nat} (h:R3 w W v3 v4 v5 d ks ys) (ho:OwnU W' w.heap.size v' (d++ [n])) (hg:W.grownBy W' v3.ownBlock) (hf:Nl W v3 v'):R3 w W' v' v4 v5 (d++ [n]) ks ys:=
 ⟨h.below.grown hg h.below.size (fun k hk=>(h.o3.own k hk).1),ho,h.o4.block (fun g hg'=>hg.block g (h.o4.own g hg').2 (fun e=>h.a34 g e.symm hg')),h.o5.block (fun g hg'=>hg.block g (h.o5.own g hg').2 (fun e=>h.a35 g e.symm hg')),
  h.a34.fresh hf (fun g hg=>(h.o4.own g hg).2),h.a35.fresh hf (fun g hg=>(h.o5.own g hg).2),h.a45⟩
theorem R3.put4 {n:List KK} (h:R3 w W v3 v4 v5 d ks ys) (ho:OwnK W' w.heap.size v' (ks++n)) (hg:W.grownBy W' v4.ownBlock) (hf:Nl W v4 v'):R3 w W' v3 v' v5 d (ks++n) ys:=
 ⟨h.below.grown hg h.below.size (fun k hk=>(h.o4.own k hk).1),h.o3.block (fun g hg'=>hg.block g (h.o3.own g hg').2 (fun e=>h.a34 g hg' e.symm)),ho,h.o5.block (fun g hg'=>hg.block g (h.o5.own g hg').2 (fun e=>h.a45 g e.symm hg')),
  (h.a34.symm.fresh hf (fun g hg=>(h.o3.own g hg).2)).symm,h.a35,h.a45.fresh hf (fun g hg=>(h.o5.own g hg).2)⟩
theorem R3.put5 {n:List KK} (h:R3 w W v3 v4 v5 d ks ys) (ho:OwnK W' w.heap.size v' (ys++n)) (hg:W.grownBy W' v5.ownBlock) (hf:Nl W v5 v'):R3 w W' v3 v4 v' d ks (ys++n):=
 ⟨h.below.grown hg h.below.size (fun k hk=>(h.o5.own k hk).1),h.o3.block (fun g hg'=>hg.block g (h.o3.own g hg').2 (fun e=>h.a35 g hg' e.symm)),h.o4.block (fun g hg'=>hg.block g (h.o4.own g hg').2 (fun e=>h.a45 g hg' e.symm)),ho,
  h.a34,(h.a35.symm.fresh hf (fun g hg=>(h.o3.own g hg).2)).symm,(h.a45.symm.fresh hf (fun g hg=>(h.o4.own g hg).2)).symm⟩
end
theorem ret23 {fn:Func} {R:Ending->World->Prop} {a:Act} {w:World} {b r:Nat} {d:KK} (hr:fn.results= #[.cell r 48]) (hdf:a.defers= [])
  (hx:a.tmps.getD r undef= .pointer (some ⟨b,0,none⟩)) (hc:KLies w b d) (h:R (.returned (d.agg)) w):bodyPost prog fn R .ret a w:=by
 obtain⟨t,hu,hd⟩:=ZbI
 have hl:=run_loadVar_mid (P:=prog) w b 0 48 _ t hc.range hu hd ZbN
 refine⟨hdf,_, ?_,h⟩
 simp only[Array.getD_eq_getD_getElem?] at hx
 unfold results
 simp[hr,hx,hl,asAddr]
 try rfl
end
section
open Go Go.Proofs Go.Maps Go.RowKit Tryz
section
variable {md : Region.Mode} {ops : Array Oper} {rest : List Oper} {Q : Exit → Act → World → Prop} {S : World → Prop} {w w0 : World} {fuel : Nat} {listed : Array Bool} {a : Act} {o : Oper}
theorem Gy {w:World} {base e size n:Nat} {v:Value} {xs:List Value} (h:w.ownsRow base e size v n xs): ∃A c,v= .slice A n c:=by
 rcases h.2 with ⟨rfl,rfl⟩|⟨g,cap,cur,rfl, -⟩
 ·exact⟨_,_,rfl⟩
 ·exact⟨_,_,rfl⟩
theorem Uc {t e:TypeId} {size bytes n m c B base:Nat} {z v:Value} {xs news:List Value} {s x:Operand} (hgd:o.guard=none) (ho:o.op= .call {callee:= .builtin .append,args:= #[s,x],argTypes:= #[t,t]}) (hs:a.eval s=v) (hx:a.eval x= .slice (some ⟨B,0,none⟩) m c)
  (ht:prog.underlying t=some (.slice e)) (hi:(prog.info? e).map (fun i=>(i.zero,i.size,i.bytes))=some (some z,size,bytes)) (hz:z.cells.size=size) (hsz:0<size) (hown:w.ownsRow base e size v n xs) (hB:Holds w B news) (hl:news.length=m * size) (h1: ∀u∈news,u.oneCell'=true)
  (hn:n+m<=4000000) (hby:bytes<=10000) (hbase:base<=w.heap.size)
  (h: ∀A c w',w'.ownsRow base e size (.slice A (n+m) c) (n+m) (xs++news)->w.grownBy w' v.ownBlock->Nl w v (.slice A (n+m) c)->wpList prog ops Q rest (a.put o.dst (.slice A (n+m) c)) w'):wpList prog ops Q (o::rest) a w:=by
 obtain⟨i0,hi,hz0,hz1,hz2⟩:=info_parts hi
 refine wpList_plain hgd fun K hK=> ?_
 obtain⟨v',w',hrun,h2,h3,h4⟩:=Kd w base t o.type e i0 _ size bytes ht hi hz0 hz1 hz2 hz hsz v n xs hown ⟨B,0,none⟩ m c news hl (fun j u hj=>by
  rw[Addr.add_mid]
  exact hB.2 j u hj) h1 (by unfold maxLen;omega) (Nat.le_trans (Nat.mul_le_mul hn hby) (by decide)) hbase
 obtain⟨A',c',rfl⟩:=Gy h2
 have hP:=hK _ _ (h A' c' w' h2 h3 h4)
 unfold Oper.wp
 simp[execOp,ho,resolve,invoke,builtin,hs,hx,hrun,Result.andThen]
 exact hP
theorem ZcH (off:Nat): ∀(vs:List Value) (j:Nat) (z:Array Value),off+j+vs.length<=z.size->
  ((vs.zipIdx j).foldl (fun cs (c,j)=>cs.setIfInBounds (off+j) c) z).toList=z.toList.take (off+j)++vs++z.toList.drop (off+j+vs.length)
 | [],j,z,h=>by simp
 |v::vs,j,z,h=>by
  simp only[List.length_cons] at h
  rw[List.zipIdx_cons,List.foldl_cons,ZcH off vs (j+1) (z.setIfInBounds (off+j) v) (by simp;omega)]
  have hj:off+j<z.toList.length:=by simp;omega
  have e1:(z.setIfInBounds (off+j) v).toList=z.toList.set (off+j) v:=by simp
  rw[e1,show off+(j+1)=off+j+1 by omega]
  rw[List.take_set,List.drop_set_of_lt (by omega),List.take_succ_eq_append_getElem hj]
  simp only[List.length_cons]
  rw[show off+j+1+vs.length=off+j+(vs.length+1) by omega]
  rw[List.set_append_right _ _ (by simp;omega)]
  have e2:off+j - (z.toList.take (off+j)).length=0:=by simp;omega
  rw[e2]
  simp
theorem ZcK (size:Nat) (z:Array Value) (v:Value) (hz:z.size=size) (hv:v.cells.size=size):Instr.fill (fun i=>some (i * size,size)) z [(0,v)]=some v.cells:=by
 have e:=ZcH 0 v.cells.toList 0 z (by simp;omega)
 unfold Instr.fill
 simp only[Nat.zero_mul]
 rw[if_neg (by simp;omega)]
 unfold Instr.fill
 congr 1
 apply Array.toList_inj.1
 have e3:v.cells.zipIdx.foldl (fun cs (c,j)=>cs.setIfInBounds (0+j) c) z=(v.cells.toList.zipIdx 0).foldl (fun cs (c,j)=>cs.setIfInBounds (0+j) c) z:=by
  rw[←Array.foldl_toList,Array.toList_zipIdx]
 rw[e3,e]
 simp
 omega
theorem Zbb {t e:TypeId} {size bytes:Nat} {z v:Value} {cs:List Value} {x:Operand} {E:List Nat} {L:List (Nat×List Value)} (hw:Region.wanted o (yielded ops a.tmps)=true) (ho:o.op= .buildSlice t 1 #[(0,x)]) (hx:a.eval x=v)
  (ht:prog.underlying t=some (.slice e)) (hi:(prog.info? e).map (fun i=>(i.zero,i.size,i.bytes))=some (some z,size,bytes)) (hs1:size<=100) (hv:v.cells.toList=cs) (hc:cs.length=size) (h0:0<size) (hL:Hq w0 w E L)
  (h: ∀X B,B=w.heap.size->Hq w0 X E (L++ [(B,cs)])->Below w.heap.size w X->wpList prog ops Q rest (a.put o.dst (.slice (some ⟨B,0,none⟩) 1 1)) X):wpList prog ops Q (o::rest) a w:=by
 refine BigFrame.wpList_want hw fun K hK=> ?_
 obtain⟨i0,hi,hz0,hz1,hz2⟩:=info_parts hi
 have ev:v.cells=cs.toArray:=by rw[←hv]
 have es:v.cells.size=size:=by rw[ev];simpa using hc
 refine wp_buildSlice t e 1 _ ho cs.toArray i0 _ ht hi hz0 (by rw[hz1];omega) (by rw[hz1];omega) ?_ (hK _ _ (h _ _ rfl (hL.new cs e (by omega)) ((Below.refl _ _).alloc (Nat.le_refl _) _)))
 rw[hz1,←ev]
 simp only[List.map_toArray,List.map_cons,List.map_nil,hx]
 exact ZcK size _ v (by simp) es
theorem Zds (i:Nat) (dst:Option Tmp) {V:Value} {X:World} {rs:List Nat} (hi:ops[i]? =some o) (hd:o.dst=dst) (hw:Region.wanted o (yielded ops a.tmps)=true) (he:(execOp a.eval o).run prog w= .ok (.value V) X) (hSX:S X)
  (h:wpAnyH prog md ops Q S fuel (listed.setIfInBounds i true) (a.put dst V) X) (hs:AllReadyH prog md ops Q S fuel listed a w rs):AllReadyH prog md ops Q S fuel listed a w (i::rs):=by
 subst hd
 refine AllReadyH.cons hi (fun K hK=> ?_) hs
 rw[if_pos hw]
 unfold Oper.wp
 rw[he]
 exact hK.out _ _ hSX (fun _=>h)
theorem Yq (i:Nat) (dst:Option Tmp) {X:World} {rs:List Nat} (hi:ops[i]? =some o) (hd:o.dst=dst) (hw:Region.wanted o (yielded ops a.tmps)=true) (he:(execOp a.eval o).run prog w= .ok .skip X) (hSX:S X)
  (h:wpAnyH prog md ops Q S fuel (listed.setIfInBounds i true) (a.put dst undef) X) (hs:AllReadyH prog md ops Q S fuel listed a w rs):AllReadyH prog md ops Q S fuel listed a w (i::rs):=by
 subst hd
 refine AllReadyH.cons hi (fun K hK=> ?_) hs
 rw[if_pos hw]
 unfold Oper.wp
 rw[he]
 exact hK.out _ _ hSX (fun _=>h)
theorem ex_box {v:Value} {x:Operand} (t:TypeId) (cs:List Value) (ho:o.op= .box t x) (hx:a.eval x=v) (hv:v.cells.toList=cs):(execOp a.eval o).run prog w= .ok (.value (.pointer (some ⟨w.heap.size,0,none⟩))) (w.alloc (Obj.cells cs.toArray t)):=by
 have e:v.cells=cs.toArray:=by rw[←hv]
 have e2:(Instr.box t v).run prog w= .ok (.pointer (some ⟨w.heap.size,0,none⟩)) (w.alloc (Obj.cells cs.toArray t)):=by rw[←e];rfl
 unfold execOp
 simp only[ho,hx]
 simp[e2]
theorem ex_upd {m x y:Operand} {b n sz r:Nat} {F:KK->Option Nat} {k:KK} (ho:o.op= .mapUpdate 142 m x y) (hm:a.eval m= .map (some b)) (hx:a.eval x=k.agg) (hy:a.eval y=pv (some r)) (h:MapIs w b n sz F) (hk:OkK k) (hn:n<maxLen):
  ∃X,(execOp a.eval o).run prog w= .ok .skip X/\MapIs X b (n+1) (if (F k).isSome then sz else sz+1) (Qy F k (some r))/\Fr w X [b]:=by
 obtain⟨X,h1,h2,h3⟩:=h.store hk hn r
 refine⟨X, ?_,h2,Fr.grown h3.grown⟩
 unfold execOp
 simp only[ho,hm,hx,hy]
 simp[h1]
end
