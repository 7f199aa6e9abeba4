import Derived.Test.YthjnflilfjcgiaaGreatFmtQt
import Derived.Test.YthjnflilfjcgiaaGreatFmtQw
set_option linter.all false
namespace Go.Proofs.YthjnflilfjcgiaaGreatFmt
set_option maxRecDepth 100000
set_option maxHeartbeats 0
section
open Go Go.Proofs Go.Maps Go.RowKit Tryz
section
variable {md : Region.Mode} {ops : Array Oper} {rest : List Oper} {Q : Exit → Act → World → Prop} {S : World → Prop} {w w0 : World} {fuel : Nat} {listed : Array Bool} {a : Act} {o : Oper}
theorem own_form {w:World} {base e size n:Nat} {v:Value} {xs:List Value} (h:w.ownsRow base e size v n xs): ∃A c,v= .slice A n c:=by
 rcases h.2 with ⟨rfl,rfl⟩|⟨g,cap,cur,rfl, -⟩
 ·exact⟨_,_,rfl⟩
 ·exact⟨_,_,rfl⟩
theorem append_any {t e:TypeId} {size bytes n m c B base:Nat} {z v:Value} {xs news:List Value} {s x:Operand} (hgd:o.guard=none) (ho:o.op= .call {callee:= .builtin .append,args:= #[s,x],argTypes:= #[t,t]}) (hs:a.eval s=v) (hx:a.eval x= .slice (some ⟨B,0,none⟩) m c)
  (ht:prog.underlying t=some (.slice e)) (hi:(prog.info? e).map (fun i=>(i.zero,i.size,i.bytes))=some (some z,size,bytes)) (hz:z.cells.size=size) (hsz:0<size) (hown:w.ownsRow base e size v n xs) (hB:Holds w B news) (hl:news.length=m * size) (h1: ∀u∈news,u.oneCell'=true)
  (hn:n+m<=4000000) (hby:bytes<=10000) (hbase:base<=w.heap.size)
  (h: ∀A c w',w'.ownsRow base e size (.slice A (n+m) c) (n+m) (xs++news)->w.grownBy w' v.ownBlock->Fresh w v (.slice A (n+m) c)->wpList prog ops Q rest (a.put o.dst (.slice A (n+m) c)) w'):wpList prog ops Q (o::rest) a w:=by
 obtain⟨i0,hi,hz0,hz1,hz2⟩:=info_parts hi
 refine wpList_plain hgd fun K hK=> ?_
 obtain⟨v',w',hrun,h2,h3,h4⟩:=append_fresh w base t o.type e i0 _ size bytes ht hi hz0 hz1 hz2 hz hsz v n xs hown ⟨B,0,none⟩ m c news hl (fun j u hj=>by
  rw[Addr.add_mid]
  exact hB.2 j u hj) h1 (by unfold maxLen;omega) (Nat.le_trans (Nat.mul_le_mul hn hby) (by decide)) hbase
 obtain⟨A',c',rfl⟩:=own_form h2
 have hP:=hK _ _ (h A' c' w' h2 h3 h4)
 unfold Oper.wp
 simp[execOp,ho,resolve,invoke,builtin,hs,hx,hrun,Result.andThen]
 exact hP
theorem fold_set (off:Nat): ∀(vs:List Value) (j:Nat) (z:Array Value),off+j+vs.length<=z.size->
  ((vs.zipIdx j).foldl (fun cs (c,j)=>cs.setIfInBounds (off+j) c) z).toList=z.toList.take (off+j)++vs++z.toList.drop (off+j+vs.length)
 | [],j,z,h=>by simp
 |v::vs,j,z,h=>by
  simp only[List.length_cons] at h
  rw[List.zipIdx_cons,List.foldl_cons,fold_set off vs (j+1) (z.setIfInBounds (off+j) v) (by simp;omega)]
  have hj:off+j<z.toList.length:=by simp;omega
  have e1:(z.setIfInBounds (off+j) v).toList=z.toList.set (off+j) v:=by simp
  rw[e1,show off+(j+1)=off+j+1 by omega]
  rw[List.take_set,List.drop_set_of_lt (by omega),List.take_succ_eq_append_getElem hj]
  simp only[List.length_cons]
  rw[show off+j+1+vs.length=off+j+(vs.length+1) by omega]
  rw[List.set_append_right _ _ (by simp;omega)]
  have e2:off+j - (z.toList.take (off+j)).length=0:=by simp;omega
  rw[e2]
  simp
theorem fill_one (size:Nat) (z:Array Value) (v:Value) (hz:z.size=size) (hv:v.cells.size=size):Instr.fill (fun i=>some (i * size,size)) z [(0,v)]=some v.cells:=by
 have e:=fold_set 0 v.cells.toList 0 z (by simp;omega)
 unfold Instr.fill
 simp only[Nat.zero_mul]
 rw[if_neg (by simp;omega)]
 unfold Instr.fill
 congr 1
 apply Array.toList_inj.1
 have e3:v.cells.zipIdx.foldl (fun cs (c,j)=>cs.setIfInBounds (0+j) c) z=(v.cells.toList.zipIdx 0).foldl (fun cs (c,j)=>cs.setIfInBounds (0+j) c) z:=by
  rw[←Array.foldl_toList,Array.toList_zipIdx]
 rw[e3,e]
 simp
 omega
theorem build_any {t e:TypeId} {size bytes:Nat} {z v:Value} {cs:List Value} {x:Operand} {E:List Nat} {L:List (Nat×List Value)} (hw:Region.wanted o (yielded ops a.tmps)=true) (ho:o.op= .buildSlice t 1 #[(0,x)]) (hx:a.eval x=v)
  (ht:prog.underlying t=some (.slice e)) (hi:(prog.info? e).map (fun i=>(i.zero,i.size,i.bytes))=some (some z,size,bytes)) (hs1:size<=100) (hv:v.cells.toList=cs) (hc:cs.length=size) (h0:0<size) (hL:Hq w0 w E L)
  (h: ∀X B,B=w.heap.size->Hq w0 X E (L++ [(B,cs)])->Below w.heap.size w X->wpList prog ops Q rest (a.put o.dst (.slice (some ⟨B,0,none⟩) 1 1)) X):wpList prog ops Q (o::rest) a w:=by
 refine BigFrame.wpList_want hw fun K hK=> ?_
 obtain⟨i0,hi,hz0,hz1,hz2⟩:=info_parts hi
 have ev:v.cells=cs.toArray:=by rw[←hv]
 have es:v.cells.size=size:=by rw[ev];simpa using hc
 refine wp_buildSlice t e 1 _ ho cs.toArray i0 _ ht hi hz0 (by rw[hz1];omega) (by rw[hz1];omega) ?_ (hK _ _ (h _ _ rfl (hL.new cs e (by omega)) ((Below.refl _ _).alloc (Nat.le_refl _) _)))
 rw[hz1,←ev]
 simp only[List.map_toArray,List.map_cons,List.map_nil,hx]
 exact fill_one size _ v (by simp) es
theorem gval (i:Nat) (dst:Option Tmp) {V:Value} {X:World} {rs:List Nat} (hi:ops[i]? =some o) (hd:o.dst=dst) (hw:Region.wanted o (yielded ops a.tmps)=true) (he:(execOp a.eval o).run prog w= .ok (.value V) X) (hSX:S X)
  (h:wpAnyH prog md ops Q S fuel (listed.setIfInBounds i true) (a.put dst V) X) (hs:AllReadyH prog md ops Q S fuel listed a w rs):AllReadyH prog md ops Q S fuel listed a w (i::rs):=by
 subst hd
 refine AllReadyH.cons hi (fun K hK=> ?_) hs
 rw[if_pos hw]
 unfold Oper.wp
 rw[he]
 exact hK.out _ _ hSX (fun _=>h)
theorem gskp (i:Nat) (dst:Option Tmp) {X:World} {rs:List Nat} (hi:ops[i]? =some o) (hd:o.dst=dst) (hw:Region.wanted o (yielded ops a.tmps)=true) (he:(execOp a.eval o).run prog w= .ok .skip X) (hSX:S X)
  (h:wpAnyH prog md ops Q S fuel (listed.setIfInBounds i true) (a.put dst undef) X) (hs:AllReadyH prog md ops Q S fuel listed a w rs):AllReadyH prog md ops Q S fuel listed a w (i::rs):=by
 subst hd
 refine AllReadyH.cons hi (fun K hK=> ?_) hs
 rw[if_pos hw]
 unfold Oper.wp
 rw[he]
 exact hK.out _ _ hSX (fun _=>h)
theorem ex_box {v:Value} {x:Operand} (t:TypeId) (cs:List Value) (ho:o.op= .box t x) (hx:a.eval x=v) (hv:v.cells.toList=cs):(execOp a.eval o).run prog w= .ok (.value (.pointer (some ⟨w.heap.size,0,none⟩))) (w.alloc (Obj.cells cs.toArray t)):=by
 have e:v.cells=cs.toArray:=by rw[←hv]
 have e2:(Instr.box t v).run prog w= .ok (.pointer (some ⟨w.heap.size,0,none⟩)) (w.alloc (Obj.cells cs.toArray t)):=by rw[←e];rfl
 unfold execOp
 simp only[ho,hx]
 simp[e2]
theorem ex_upd {m x y:Operand} {b n sz r:Nat} {F:KK->Option Nat} {k:KK} (ho:o.op= .mapUpdate 167 m x y) (hm:a.eval m= .map (some b)) (hx:a.eval x=k.agg) (hy:a.eval y=pv (some r)) (h:MapIs w b n sz F) (hk:OkK k) (hn:n<maxLen):
  ∃X,(execOp a.eval o).run prog w= .ok .skip X/\MapIs X b (n+1) (if (F k).isSome then sz else sz+1) (putF F k (some r))/\Fr w X [b]:=by
 obtain⟨X,h1,h2,h3⟩:=h.store hk hn r
 refine⟨X, ?_,h2,Fr.grown h3.grown⟩
 unfold execOp
 simp only[ho,hm,hx,hy]
 simp[h1]
end
end
section
open Go Go.Proofs Go.Maps Go.RowKit
theorem rise_len: ∀(l:List RR) (lo hi:Nat),l.Pairwise (fun a b=>a.n<b.n)->(∀r∈l,lo<=r.n/\r.n<=hi)->lo<=hi+1->lo+l.length<=hi+1
 | [],lo,hi,_,_,h=>by simpa using h
 |r::l,lo,hi,hp,hr,h=>by
  obtain⟨h1,h2⟩:=List.pairwise_cons.1 hp
  have h3:=hr r (by simp)
  have:=rise_len l (r.n+1) hi h2 (fun q hq=>⟨h1 q hq,(hr q (by simp[hq])).2⟩) (by omega)
  simp only[List.length_cons]
  omega
theorem TT.Is.len {T:TT} {W:World} (h:T.Is W):T.rows.length<=T.last:=by
 have:=rise_len T.rows 1 T.last h.rise h.num (by omega)
 omega
def TT.added (T:TT) (rv:Value) (R:Nat) (k:KK) (d:DD):TT:=⟨T.t,T.m,rv,T.rows++ [⟨R,k,d,T.last+1,false⟩],T.last+1⟩
theorem TT.added_live (T:TT) (rv:Value) (R:Nat) (k:KK) (d:DD):(T.added rv R k d).live=T.live++ [⟨R,k,d,T.last+1,false⟩]:=by
 simp[TT.added,TT.live]
theorem TT.added_find (T:TT) (rv:Value) (R:Nat) (k:KK) (d:DD) (hn:T.find k=none):(fun q=>((T.added rv R k d).find q).map (·.b))=putF (fun q=>(T.find q).map (·.b)) k (some R):=by
 funext q
 unfold TT.find at *
 rw[TT.added_live,List.find?_append]
 by_cases e:q=k
 ·subst e
  rw[hn,putF_same]
  simp
 ·rw[putF_other e]
  have e2:([⟨R,k,d,T.last+1,false⟩]:List RR).find? (fun r=>decide (r.k=q))=none:=by
   simp
   exact fun h=>e h.symm
  rw[e2]
  simp
structure TT.Mid (T:TT) (W:World):Prop where
 map:MapIs W T.m T.last T.live.length (fun k=>(T.find k).map (·.b))
 own:OwnP W T.rv (T.rows.map (·.b))
 rows: ∀r∈T.rows,Holds W r.b r.cs
theorem TT.Is.mid {T:TT} {W:World} (h:T.Is W):T.Mid W:=⟨h.map,h.own,h.rows⟩
def TT.Part (T:TT) (b:Nat):Prop:=b=T.m∨T.rv.ownBlock=some b∨b∈T.rows.map (·.b)
theorem TT.Part.mem {T:TT} {b:Nat} (h:T.Part b):b∈T.blocks:=by
 simp only[TT.blocks,List.mem_cons,List.mem_append]
 rcases h with h|h|h
 ·exact .inr (.inl h)
 ·exact .inr (.inr (.inl (by rw[h];simp)))
 ·exact .inr (.inr (.inr h))
theorem TT.Part.ne {T:TT} {b:Nat} (h:T.Part b) (hnd:T.blocks.Nodup):b≠T.t:=by
 intro e
 subst e
 have h1:=(List.nodup_cons.1 hnd).1
 apply h1
 have:=h.mem
 simp only[List.mem_cons,List.mem_append]
 rcases h with h|h|h
 ·exact .inl h
 ·exact .inr (.inl (by rw[h];simp))
 ·exact .inr (.inr h)
theorem TT.Mid.block {T:TT} {W W':World} (h:T.Mid W) (he: ∀b,T.Part b->W'.heap[b]? =W.heap[b]?):T.Mid W':=
 ⟨h.map.block (he _ (.inl rfl)),h.own.block (fun g hg=>he g (.inr (.inl hg))),fun r hr=>(h.rows r hr).block (he _ (.inr (.inr (List.mem_map.2 ⟨r,hr,rfl⟩))))⟩
theorem TT.Mid.lt {T:TT} {W:World} (h:T.Mid W): ∀b,T.Part b->b<W.heap.size:=by
 intro b hb
 rcases hb with rfl|hb|hb
 ·exact h.map.lt
 ·exact h.own.lt b hb
 ·obtain⟨r,hr,rfl⟩:=List.mem_map.1 hb
  exact(h.rows r hr).lt (by simp[rcs_length])
theorem TT.Mid.fr {T:TT} {W W':World} {E:List Nat} (h:T.Mid W) (hf:Fr W W' E) (hE: ∀b,T.Part b->b ∉ E):T.Mid W':=h.block (fun b hb=>hf.block b (h.lt b hb) (hE b hb))
theorem TT.Mid.on {T:TT} {W W':World} (h:T.Mid W) (hb:Below W.heap.size W W'):T.Mid W':=h.block (fun b hb'=>hb.block b (h.lt b hb'))
theorem TT.Mid.drew {T:TT} {W:World} (h:T.Mid W):T.Mid W.drew:=h.block (fun _ _=>rfl)
theorem TT.Is.added {T:TT} {w X:World} {rv:Value} {R:Nat} {k:KK} {d:DD} (hT:T.Is w) (hn:T.find k=none) (hg:goodK k=true)
  (tab:Holds X T.t [.map (some T.m),rv, .int .u64 ((T.last+1:Nat):Int)]) (map:MapIs X T.m (T.last+1) (T.live.length+1) (putF (fun q=>(T.find q).map (·.b)) k (some R))) (own:OwnP X rv (T.rows.map (·.b)++ [R]))
  (rows: ∀r∈T.rows,Holds X r.b r.cs) (new:Holds X R (RR.mk R k d (T.last+1) false).cs) (hR:w.heap.size<=R) (hrv: ∀g,rv.ownBlock=some g->(T.rv.ownBlock=some g∨w.heap.size<=g)/\g≠R):(T.added rv R k d).Is X:=by
 have hlt:=hT.lt
 refine⟨tab, ?_, ?_, ?_, ?_, ?_, ?_, ?_, ?_⟩
 ·rw[TT.added_find T rv R k d hn,TT.added_live,List.length_append]
  exact map
 ·simpa [TT.added] using own
 ·intro r hr
  rcases List.mem_append.1 (show r∈T.rows++ [_] from hr) with hr|hr
  ·exact rows r hr
  ·obtain rfl:r=⟨R,k,d,T.last+1,false⟩:=by simpa using hr
   exact new
 ·have hnd:=hT.nd
  unfold TT.blocks TT.added
  simp only[TT.blocks,List.nodup_cons,List.mem_cons,List.mem_append,List.nodup_append,List.map_append,List.map_cons,List.map_nil,not_or] at hnd ⊢
  obtain⟨⟨h1,h2,h3⟩,⟨h4,h5⟩,h6,h7,h8⟩:=hnd
  have l1:T.t<w.heap.size:=hlt _ (by simp[TT.blocks])
  have l2:T.m<w.heap.size:=hlt _ (by simp[TT.blocks])
  have l3: ∀b∈T.rows.map (·.b),b<w.heap.size:=fun b hb=>hlt _ (TT.Part.mem (.inr (.inr hb)))
  have hrv': ∀b∈rv.ownBlock.toList,(T.rv.ownBlock=some b∨w.heap.size<=b)/\b≠R:=fun b hb=>hrv b (by simpa using hb)
  refine⟨⟨h1,fun hb=> ?_,h3, ?_⟩,⟨fun hb=> ?_,h5, ?_⟩, ?_,⟨h7,by simp, ?_⟩, ?_⟩
  ·rcases (hrv' _ hb).1 with h|h
   ·exact h2 (by rw[h];simp)
   ·omega
  ·simp;omega
  ·rcases (hrv' _ hb).1 with h|h
   ·exact h4 (by rw[h];simp)
   ·omega
  ·simp;omega
  ·cases rv.ownBlock<;>simp
  ·intro a ha b hb
   have:=l3 a ha
   obtain rfl:b=R:=by simpa using hb
   omega
  ·intro a ha b hb
   rcases hb with hb|hb
   ·rcases (hrv' _ ha).1 with h|h
    ·exact h8 a (by rw[h];simp) b hb
    ·have:=l3 b hb;omega
   ·obtain rfl:b=R:=by simpa using hb
    exact(hrv' _ ha).2
 ·show (T.rows++ [_]).Pairwise _
  rw[List.pairwise_append]
  refine⟨hT.rise,by simp,fun a ha b hb=> ?_⟩
  obtain rfl:b=⟨R,k,d,T.last+1,false⟩:=by simpa using hb
  have:=(hT.num a ha).2
  show a.n<T.last+1
  omega
 ·intro r hr
  rcases List.mem_append.1 (show r∈T.rows++ [_] from hr) with hr|hr
  ·have:=hT.num r hr
   show 1<=r.n/\r.n<=T.last+1
   omega
  ·obtain rfl:r=⟨R,k,d,T.last+1,false⟩:=by simpa using hr
   show 1<=T.last+1/\T.last+1<=T.last+1
   omega
 ·rw[TT.added_live,List.pairwise_append]
  refine⟨hT.keys,by simp,fun a ha b hb=> ?_⟩
  obtain rfl:b=⟨R,k,d,T.last+1,false⟩:=by simpa using hb
  have:=List.find?_eq_none.1 hn a ha
  simpa using this
 ·rw[TT.added_live]
  intro r hr
  rcases List.mem_append.1 hr with hr|hr
  ·exact hT.good r hr
  ·obtain rfl:r=⟨R,k,d,T.last+1,false⟩:=by simpa using hr
   exact hg
