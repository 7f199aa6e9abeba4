import Derived.Test.YthcmamjpfigdfaaGreatDoorQt
import Derived.Test.YthcmamjpfigdfaaGreatDoorQv
set_option linter.all false
namespace Go.Proofs.YthcmamjpfigdfaaGreatDoor
set_option maxRecDepth 100000
set_option maxHeartbeats 0
section
open Go Go.Proofs Go.Maps Go.RowKit Tryz
theorem Nn (w:World) (a b:Array Value) (s t:TypeId):Below w.heap.size w ((w.alloc (Obj.cells a s)).alloc (Obj.cells b t)):=((Below.refl _ _).alloc (Nat.le_refl _) _).alloc (by simp) _
theorem Hq.two (w:World) (E:List Nat) (a b:List Value) (s t:TypeId) (ha:0<a.length) (hb:0<b.length):Hq w ((w.alloc (Obj.cells a.toArray s)).alloc (Obj.cells b.toArray t)) E [(w.heap.size,a),(w.heap.size+1,b)]:=by
 have h:=((Hq.nil w E).new a s ha).new b t hb
 rw[show (w.alloc (Obj.cells a.toArray s)).heap.size=w.heap.size+1 by simp] at h
 exact h
def getD (T:TT) (k:KK):DD:=((T.find k).map (·.d)).getD zeroD
theorem Jh: ∃d,prog.underlying 37=some d/\d.isRow=true:=⟨_,underlying37,rfl⟩
theorem Zag: ∃d,prog.underlying 43=some d/\d.isRow=true:=⟨_,underlying43,rfl⟩
theorem row58: ∃d,prog.underlying 80=some d/\d.isRow=true:=⟨_,underlying80,rfl⟩
theorem Kh:(prog.info? 37).map (·.size)=some 2:=by kernel_rfl
theorem Pm:(prog.info? 43).map (·.size)=some 18:=by kernel_rfl
theorem siz58:(prog.info? 80).map (·.size)=some 20:=by kernel_rfl
theorem Ou {o:Oper} {a:Act} {w:World} {m x:Operand} {b n sz:Nat} {F:KK->Option Nat} {k:KK} {r:Option Nat} (ho:o.op= .lookup 190 m x true) (hm:a.eval m= .map (some b)) (hx:a.eval x=k.agg) (h:MapIs w b n sz F) (hk:OkK k) (hr:F k=r):(execOp a.eval o).run prog w= .ok (.value (.tuple #[pv r, .bool r.isSome])) w:=by
 subst hr
 simp[execOp,ho,hm,hx,h.look hk,Result.andThen]
theorem ret_ct {fn:Func} {R:Ending->World->Prop} {a:Act} {w:World} {b r q:Nat} {d:DD} {v:Value} {cs:List Value} (hr:fn.results= #[.cell r 43, .tmp q]) (hdf:a.defers= [])
  (hx:a.tmps.getD r undef= .pointer (some ⟨b,0,none⟩)) (hq:a.tmps.getD q undef=v) (hc:Holds w b cs) (hcs:(cs.drop 0).take 18=d.cs) (h:R (.returned (.tuple #[d.agg,v])) w):bodyPost prog fn R .ret a w:=by
 obtain⟨t,hu,hd⟩:=Zag
 have h0:=hc.mid 0 18
 rw[hcs] at h0
 have hl:=run_loadVar_mid (P:=prog) w b 0 43 _ t h0 hu hd Pm
 refine⟨hdf,_, ?_,h⟩
 simp only[Array.getD_eq_getD_getElem?] at hx hq
 unfold results
 simp[hr,hx,hq,hl,asAddr]
 try rfl
theorem Zdx (T:TT) (k:KK) (w:World) (hT:T.Is w) (hk:OkK k):Calls prog 106 #[.pointer (some ⟨T.t,0,none⟩),k.agg] w fun e w'=>e= .returned (.tuple #[(getD T k).agg, .bool (T.find k).isSome])/\Below w.heap.size w w':=by
 cases hf:T.find k with
 |none=>
  have HT:=Ab (hT.on (Nn w k.cs.toArray zeroD.cs.toArray 37 43))
  have LL:=Ab (Hq.two w [] k.cs zeroD.cs 37 43 (Nat.succ_pos _) (Nat.succ_pos _))
  have hB2:Hid (w.heap.size<=w.heap.size+1):=Ab (Nat.le_succ _)
  clear hT
  rw[show k.agg= .agg k.cs.toArray from rfl]
  go_enter func106,ntmps106
  go_wp2
  refine wp_region_held_drew (P:=prog) (S:=fun X=>T.Is X/\Hq w X [] [(w.heap.size,k.cs),(w.heap.size+1,zeroD.cs)]) (by kernel_rfl) ⟨(Aa HT).drew,(Aa LL).drew⟩ (fun hS0=> ?_)
  refine y0 0 (some 9) (.pointer (some ⟨T.t,0,none⟩)) rfl hS0 ?_
  refine y0 1 (some 10) (.pointer (some ⟨T.t,0,none⟩)) rfl hS0 ?_
  refine y0 2 (some 11) (.pointer (some ⟨T.t,0,none⟩)) rfl hS0 ?_
  refine y1 3 (some 12) (.map (some T.m)) rfl (fun X hX=>Ad 190 isAgg190 rfl rfl (hX.1.tab) rfl) hS0 ?_
  refine y1 4 (some 13) (k.agg) rfl (fun X hX=>Af (vs:=k.cs) 37 2 Jh Kh rfl rfl (hX.2.get 0 rfl) rfl rfl) hS0 ?_
  refine y1 5 (some 14) (.tuple #[pv (none), .bool false]) rfl (fun X hX=>Ou (r:=none) rfl rfl rfl hX.1.map hk (by rw[hf];rfl)) hS0 ?_
  refine y0 6 (some 8) (.tuple #[pv (none), .bool false]) rfl hS0 ?_
  refine y0 7 (some 15) (pv (none)) rfl hS0 ?_
  refine y0 9 (some 6) (pv (none)) rfl hS0 ?_
  refine y0 8 (some 16) (.bool false) rfl hS0 ?_
  refine y0 10 (some 7) (.bool false) rfl hS0 ?_
  refine dn ?_
  try simp only[nn]
  replace HT:=Ab hS0.1
  replace LL:=Ab hS0.2
  clear hS0
  unfold pv
  go_wp2_with (first|go_skip|((refine st (vs:=zeroD.cs) 1 43 (by rfl) rfl rfl rfl rfl (by simp[zeroD,Aq,DD.cs,VV.cs,Value.oneCell']) Pm (Aa LL) rfl (by simp[Uo]) (Or.inr (Aa hB2)) ?_);intro w3 L3 hf3 hs3;replace LL:=Ab L3;clear L3 hf3 hs3;simp only[nn]))
  refine ret_ct (d:=zeroD) (r:=4) (q:=5) (b:=w.heap.size+1) rfl rfl rfl rfl ((Aa LL).get 1 rfl) rfl ⟨?_,(Aa LL).fr.below⟩
  unfold getD
  rw[hf]
  rfl
 |some r=>
  have HT:=Ab (hT.on (Nn w k.cs.toArray zeroD.cs.toArray 37 43))
  have LL:=Ab (Hq.two w [] k.cs zeroD.cs 37 43 (Nat.succ_pos _) (Nat.succ_pos _))
  have hB2:Hid (w.heap.size<=w.heap.size+1):=Ab (Nat.le_succ _)
  clear hT
  rw[show k.agg= .agg k.cs.toArray from rfl]
  go_enter func106,ntmps106
  go_wp2
  refine wp_region_held_drew (P:=prog) (S:=fun X=>T.Is X/\Hq w X [] [(w.heap.size,k.cs),(w.heap.size+1,zeroD.cs)]) (by kernel_rfl) ⟨(Aa HT).drew,(Aa LL).drew⟩ (fun hS0=> ?_)
  refine y0 0 (some 9) (.pointer (some ⟨T.t,0,none⟩)) rfl hS0 ?_
  refine y0 1 (some 10) (.pointer (some ⟨T.t,0,none⟩)) rfl hS0 ?_
  refine y0 2 (some 11) (.pointer (some ⟨T.t,0,none⟩)) rfl hS0 ?_
  refine y1 3 (some 12) (.map (some T.m)) rfl (fun X hX=>Ad 190 isAgg190 rfl rfl (hX.1.tab) rfl) hS0 ?_
  refine y1 4 (some 13) (k.agg) rfl (fun X hX=>Af (vs:=k.cs) 37 2 Jh Kh rfl rfl (hX.2.get 0 rfl) rfl rfl) hS0 ?_
  refine y1 5 (some 14) (.tuple #[pv (some r.b), .bool true]) rfl (fun X hX=>Ou (r:=some r.b) rfl rfl rfl hX.1.map hk (by rw[hf];rfl)) hS0 ?_
  refine y0 6 (some 8) (.tuple #[pv (some r.b), .bool true]) rfl hS0 ?_
  refine y0 7 (some 15) (pv (some r.b)) rfl hS0 ?_
  refine y0 9 (some 6) (pv (some r.b)) rfl hS0 ?_
  refine y0 8 (some 16) (.bool true) rfl hS0 ?_
  refine y0 10 (some 7) (.bool true) rfl hS0 ?_
  refine dn ?_
  try simp only[nn]
  replace HT:=Ab hS0.1
  replace LL:=Ab hS0.2
  clear hS0
  have HR:=Ab ((Aa HT).rows r (T.find_mem hf).1)
  unfold pv
  go_wp2_with (first|go_skip|(refine rd rfl (Af (vs:=r.d.cs) 43 18 Zag Pm rfl rfl (Aa HR) rfl rfl) ?_)|((refine st (vs:=r.d.cs) 1 43 (by rfl) rfl rfl rfl rfl (by simp[DD.cs,VV.cs,Value.oneCell']) Pm (Aa LL) rfl (by simp[Uo]) (Or.inr (Aa hB2)) ?_);intro w3 L3 hf3 hs3;replace LL:=Ab L3;clear L3 hf3 hs3;simp only[nn]))
  refine ret_ct (d:=r.d) (r:=4) (q:=5) (b:=w.heap.size+1) rfl rfl rfl rfl ((Aa LL).get 1 rfl) rfl ⟨?_,(Aa LL).fr.below⟩
  unfold getD
  rw[hf]
  rfl
section
variable {md:Region.Mode} {ops:Array Oper} {rest:List Oper} {Q:Exit->Act->World->Prop} {S:World->Prop} {w w0:World} {fuel:Nat} {listed:Array Bool} {a:Act} {o:Oper}
theorem Ex {w:World} {base e size n:Nat} {v:Value} {xs:List Value} (h:w.ownsRow base e size v n xs): ∃A c,v= .slice A n c:=by
 rcases h.2 with ⟨rfl,rfl⟩|⟨g,cap,cur,rfl, -⟩
 ·exact⟨_,_,rfl⟩
 ·exact⟨_,_,rfl⟩
theorem Uq {t e:TypeId} {size bytes n m c B base:Nat} {z v:Value} {xs news:List Value} {s x:Operand} (hgd:o.guard=none) (ho:o.op= .call {callee:= .builtin .append,args:= #[s,x],argTypes:= #[t,t]}) (hs:a.eval s=v) (hx:a.eval x= .slice (some ⟨B,0,none⟩) m c)
  (ht:prog.underlying t=some (.slice e)) (hi:(prog.info? e).map (fun i=>(i.zero,i.size,i.bytes))=some (some z,size,bytes)) (hz:z.cells.size=size) (hsz:0<size) (hown:w.ownsRow base e size v n xs) (hB:Holds w B news) (hl:news.length=m * size) (h1: ∀u∈news,u.oneCell'=true)
  (hn:n+m<=4000000) (hby:bytes<=10000) (hbase:base<=w.heap.size)
  (h: ∀A c w',w'.ownsRow base e size (.slice A (n+m) c) (n+m) (xs++news)->w.grownBy w' v.ownBlock->Kz w v (.slice A (n+m) c)->wpList prog ops Q rest (a.put o.dst (.slice A (n+m) c)) w'):wpList prog ops Q (o::rest) a w:=by
 obtain⟨i0,hi,hz0,hz1,hz2⟩:=info_parts hi
 refine wpList_plain hgd fun K hK=> ?_
 obtain⟨v',w',hrun,h2,h3,h4⟩:=Jr w base t o.type e i0 _ size bytes ht hi hz0 hz1 hz2 hz hsz v n xs hown ⟨B,0,none⟩ m c news hl (fun j u hj=>by
  rw[Addr.add_mid]
  exact hB.2 j u hj) h1 (by unfold maxLen;omega) (Nat.le_trans (Nat.mul_le_mul hn hby) (by decide)) hbase
 obtain⟨A',c',rfl⟩:=Ex h2
 have hP:=hK _ _ (h A' c' w' h2 h3 h4)
 unfold Oper.wp
 simp[execOp,ho,resolve,invoke,builtin,hs,hx,hrun,Result.andThen]
 exact hP
theorem Zdz (off:Nat): ∀(vs:List Value) (j:Nat) (z:Array Value),off+j+vs.length<=z.size->
  ((vs.zipIdx j).foldl (fun cs (c,j)=>cs.setIfInBounds (off+j) c) z).toList=z.toList.take (off+j)++vs++z.toList.drop (off+j+vs.length)
 | [],j,z,h=>by simp
 |v::vs,j,z,h=>by
  simp only[List.length_cons] at h
  rw[List.zipIdx_cons,List.foldl_cons,Zdz off vs (j+1) (z.setIfInBounds (off+j) v) (by simp;omega)]
  have hj:off+j<z.toList.length:=by simp;omega
  have e1:(z.setIfInBounds (off+j) v).toList=z.toList.set (off+j) v:=by simp
  rw[e1,show off+(j+1)=off+j+1 by omega]
  rw[List.take_set,List.drop_set_of_lt (by omega),List.take_succ_eq_append_getElem hj]
  simp only[List.length_cons]
  rw[show off+j+1+vs.length=off+j+(vs.length+1) by omega]
  rw[List.set_append_right _ _ (by simp;omega)]
  have e2:off+j - (z.toList.take (off+j)).length=0:=by simp;omega
  rw[e2]
  simp
theorem Vk (size:Nat) (z:Array Value) (v:Value) (hz:z.size=size) (hv:v.cells.size=size):Instr.fill (fun i=>some (i * size,size)) z [(0,v)]=some v.cells:=by
 have e:=Zdz 0 v.cells.toList 0 z (by simp;omega)
 unfold Instr.fill
 simp only[Nat.zero_mul]
 rw[if_neg (by simp;omega)]
 unfold Instr.fill
 congr 1
 apply Array.toList_inj.1
 have e3:v.cells.zipIdx.foldl (fun cs (c,j)=>cs.setIfInBounds (0+j) c) z=(v.cells.toList.zipIdx 0).foldl (fun cs (c,j)=>cs.setIfInBounds (0+j) c) z:=by
  rw[←Array.foldl_toList,Array.toList_zipIdx]
 rw[e3,e]
 simp
 omega
theorem ZbU {t e:TypeId} {size bytes:Nat} {z v:Value} {cs:List Value} {x:Operand} {E:List Nat} {L:List (Nat×List Value)}  (ho:o.op= .buildSlice t 1 #[(0,x)]) (hx:a.eval x=v)
  (ht:prog.underlying t=some (.slice e)) (hi:(prog.info? e).map (fun i=>(i.zero,i.size,i.bytes))=some (some z,size,bytes))  (hv:v.cells.toList=cs) (hc:cs.length=size)  (hL:Hq w0 w E L)
  (h: ∀X B,B=w.heap.size->Hq w0 X E (L++ [(B,cs)])->Below w.heap.size w X->wpList prog ops Q rest (a.put o.dst (.slice (some ⟨B,0,none⟩) 1 1)) X) (hw:Region.wanted o (yielded ops a.tmps)=true:=by rfl) (hs1:size<=100:=by decide) (h0:0<size:=by decide):wpList prog ops Q (o::rest) a w:=by
 refine BigFrame.wpList_want hw fun K hK=> ?_
 obtain⟨i0,hi,hz0,hz1,hz2⟩:=info_parts hi
 have ev:v.cells=cs.toArray:=by rw[←hv]
 have es:v.cells.size=size:=by rw[ev];simpa using hc
 refine wp_buildSlice t e 1 _ ho cs.toArray i0 _ ht hi hz0 (by rw[hz1];omega) (by rw[hz1];omega) ?_ (hK _ _ (h _ _ rfl (hL.new cs e (by omega)) ((Below.refl _ _).alloc (Nat.le_refl _) _)))
 rw[hz1,←ev]
 simp only[List.map_toArray,List.map_cons,List.map_nil,hx]
 exact Vk size _ v (by simp) es
theorem Qb (i:Nat) (dst:Option Tmp) {V:Value} {X:World} {rs:List Nat} (hi:ops[i]? =some o) (hd:o.dst=dst) (hw:Region.wanted o (yielded ops a.tmps)=true) (he:(execOp a.eval o).run prog w= .ok (.value V) X) (hSX:S X)
  (h:wpAnyH prog md ops Q S fuel (listed.setIfInBounds i true) (a.put dst V) X) (hs:AllReadyH prog md ops Q S fuel listed a w rs):AllReadyH prog md ops Q S fuel listed a w (i::rs):=by
 subst hd
 refine AllReadyH.cons hi (fun K hK=> ?_) hs
 rw[if_pos hw]
 unfold Oper.wp
 rw[he]
 exact hK.out _ _ hSX (fun _=>h)
theorem Zbk (i:Nat) (dst:Option Tmp) {X:World} {rs:List Nat} (hi:ops[i]? =some o) (hd:o.dst=dst) (hw:Region.wanted o (yielded ops a.tmps)=true) (he:(execOp a.eval o).run prog w= .ok .skip X) (hSX:S X)
  (h:wpAnyH prog md ops Q S fuel (listed.setIfInBounds i true) (a.put dst undef) X) (hs:AllReadyH prog md ops Q S fuel listed a w rs):AllReadyH prog md ops Q S fuel listed a w (i::rs):=by
 subst hd
 refine AllReadyH.cons hi (fun K hK=> ?_) hs
 rw[if_pos hw]
 unfold Oper.wp
 rw[he]
 exact hK.out _ _ hSX (fun _=>h)
theorem ex_box {v:Value} {x:Operand} (t:TypeId) (cs:List Value) (ho:o.op= .box t x) (hx:a.eval x=v) (hv:v.cells.toList=cs):(execOp a.eval o).run prog w= .ok (.value (.pointer (some ⟨w.heap.size,0,none⟩))) (w.alloc (Obj.cells cs.toArray t)):=by
 have e:v.cells=cs.toArray:=by rw[←hv]
 have e2:(Instr.box t v).run prog w= .ok (.pointer (some ⟨w.heap.size,0,none⟩)) (w.alloc (Obj.cells cs.toArray t)):=by rw[←e];rfl
 unfold execOp
 simp only[ho,hx]
 simp[e2]
theorem ex_upd {m x y:Operand} {b n sz r:Nat} {F:KK->Option Nat} {k:KK} (ho:o.op= .mapUpdate 190 m x y) (hm:a.eval m= .map (some b)) (hx:a.eval x=k.agg) (hy:a.eval y=pv (some r)) (h:MapIs w b n sz F) (hk:OkK k) (hn:n<maxLen):
  ∃X,(execOp a.eval o).run prog w= .ok .skip X/\MapIs X b (n+1) (if (F k).isSome then sz else sz+1) (Rg F k (some r))/\Fr w X [b]:=by
 obtain⟨X,h1,h2,h3⟩:=h.store hk hn r
 refine⟨X, ?_,h2,Fr.grown h3.grown⟩
 unfold execOp
 simp only[ho,hm,hx,hy]
 simp[h1]
end
end
section
open Go Go.Proofs Go.Maps Go.RowKit
theorem Zc4: ∀(l:List RR) (lo hi:Nat),l.Pairwise (fun a b=>a.n<b.n)->(∀r∈l,lo<=r.n/\r.n<=hi)->lo<=hi+1->lo+l.length<=hi+1
 | [],lo,hi,_,_,h=>by simpa using h
 |r::l,lo,hi,hp,hr,h=>by
  obtain⟨h1,h2⟩:=List.pairwise_cons.1 hp
  have h3:=hr r (by simp)
  have:=Zc4 l (r.n+1) hi h2 (fun q hq=>⟨h1 q hq,(hr q (by simp[hq])).2⟩) (by omega)
  simp only[List.length_cons]
  omega
theorem TT.Is.len {T:TT} {W:World} (h:T.Is W):T.rows.length<=T.last:=by
 have:=Zc4 T.rows 1 T.last h.rise h.num (by omega)
 omega
def TT.added (T:TT) (rv:Value) (R:Nat) (k:KK) (d:DD):TT:=⟨T.t,T.m,rv,T.rows++ [⟨R,k,d,T.last+1,false⟩],T.last+1⟩
theorem TT.added_live (T:TT) (rv:Value) (R:Nat) (k:KK) (d:DD):(T.added rv R k d).live=T.live++ [⟨R,k,d,T.last+1,false⟩]:=by
 simp[TT.added,TT.live]
theorem TT.added_find (T:TT) (rv:Value) (R:Nat) (k:KK) (d:DD) (hn:T.find k=none):(fun q=>((T.added rv R k d).find q).map (·.b))=Rg (fun q=>(T.find q).map (·.b)) k (some R):=by
 funext q
 unfold TT.find at *
 rw[TT.added_live,List.find?_append]
 by_cases e:q=k
 ·subst e
  rw[hn,No]
  simp
 ·rw[Mg e]
  have e2:([⟨R,k,d,T.last+1,false⟩]:List RR).find? (fun r=>decide (r.k=q))=none:=by
   simp
   exact fun h=>e h.symm
  rw[e2]
  simp
structure TT.Mid (T:TT) (W:World):Prop where
 map:MapIs W T.m T.last T.live.length (fun k=>(T.find k).map (·.b))
 own:OwnP W T.rv (T.rows.map (·.b))
 rows: ∀r∈T.rows,Holds W r.b r.cs
theorem TT.Is.mid {T:TT} {W:World} (h:T.Is W):T.Mid W:=⟨h.map,h.own,h.rows⟩
def TT.Part (T:TT) (b:Nat):Prop:=b=T.m∨T.rv.ownBlock=some b∨b∈T.rows.map (·.b)
theorem TT.Part.mem {T:TT} {b:Nat} (h:T.Part b):b∈T.blocks:=by
 simp only[TT.blocks,List.mem_cons,List.mem_append]
 rcases h with h|h|h
 ·exact .inr (.inl h)
 ·exact .inr (.inr (.inl (by rw[h];simp)))
 ·exact .inr (.inr (.inr h))
theorem TT.Part.ne {T:TT} {b:Nat} (h:T.Part b) (hnd:T.blocks.Nodup):b≠T.t:=by
 intro e
 subst e
 have h1:=(List.nodup_cons.1 hnd).1
 apply h1
 have:=h.mem
 simp only[List.mem_cons,List.mem_append]
 rcases h with h|h|h
 ·exact .inl h
 ·exact .inr (.inl (by rw[h];simp))
 ·exact .inr (.inr h)
theorem TT.Mid.block {T:TT} {W W':World} (h:T.Mid W) (he: ∀b,T.Part b->W'.heap[b]? =W.heap[b]?):T.Mid W':=
 ⟨h.map.block (he _ (.inl rfl)),h.own.block (fun g hg=>he g (.inr (.inl hg))),fun r hr=>(h.rows r hr).block (he _ (.inr (.inr (List.mem_map.2 ⟨r,hr,rfl⟩))))⟩
theorem TT.Mid.lt {T:TT} {W:World} (h:T.Mid W): ∀b,T.Part b->b<W.heap.size:=by
 intro b hb
 rcases hb with rfl|hb|hb
 ·exact h.map.lt
 ·exact h.own.lt b hb
 ·obtain⟨r,hr,rfl⟩:=List.mem_map.1 hb
  exact(h.rows r hr).lt (by simp[Ed])
theorem TT.Mid.fr {T:TT} {W W':World} {E:List Nat} (h:T.Mid W) (hf:Fr W W' E) (hE: ∀b,T.Part b->b ∉ E):T.Mid W':=h.block (fun b hb=>hf.block b (h.lt b hb) (hE b hb))
theorem TT.Mid.on {T:TT} {W W':World} (h:T.Mid W) (hb:Below W.heap.size W W'):T.Mid W':=h.block (fun b hb'=>hb.block b (h.lt b hb'))
theorem TT.Mid.drew {T:TT} {W:World} (h:T.Mid W):T.Mid W.drew:=h.block (fun _ _=>rfl)
theorem TT.Is.added {T:TT} {w X:World} {rv:Value} {R:Nat} {k:KK} {d:DD} (hT:T.Is w) (hn:T.find k=none) (hg:goodK k=true)
  (tab:Holds X T.t [.map (some T.m),rv, .int .u64 ((T.last+1:Nat):Int)]) (map:MapIs X T.m (T.last+1) (T.live.length+1) (Rg (fun q=>(T.find q).map (·.b)) k (some R))) (own:OwnP X rv (T.rows.map (·.b)++ [R]))
  (rows: ∀r∈T.rows,Holds X r.b r.cs) (new:Holds X R (RR.mk R k d (T.last+1) false).cs) (hR:w.heap.size<=R) (hrv: ∀g,rv.ownBlock=some g->(T.rv.ownBlock=some g∨w.heap.size<=g)/\g≠R):(T.added rv R k d).Is X:=by
 have hlt:=hT.lt
 refine⟨tab, ?_, ?_, ?_, ?_, ?_, ?_, ?_, ?_⟩
 ·rw[TT.added_find T rv R k d hn,TT.added_live,List.length_append]
  exact map
 ·simpa [TT.added] using own
 ·intro r hr
  rcases List.mem_append.1 (show r∈T.rows++ [_] from hr) with hr|hr
  ·exact rows r hr
  ·obtain rfl:r=⟨R,k,d,T.last+1,false⟩:=by simpa using hr
   exact new
 ·have hnd:=hT.nd
  unfold TT.blocks TT.added
  simp only[TT.blocks,List.nodup_cons,List.mem_cons,List.mem_append,List.nodup_append,List.map_append,List.map_cons,List.map_nil,not_or] at hnd ⊢
  obtain⟨⟨h1,h2,h3⟩,⟨h4,h5⟩,h6,h7,h8⟩:=hnd
  have l1:T.t<w.heap.size:=hlt _ (by simp[TT.blocks])
  have l2:T.m<w.heap.size:=hlt _ (by simp[TT.blocks])
  have l3: ∀b∈T.rows.map (·.b),b<w.heap.size:=fun b hb=>hlt _ (TT.Part.mem (.inr (.inr hb)))
  have hrv': ∀b∈rv.ownBlock.toList,(T.rv.ownBlock=some b∨w.heap.size<=b)/\b≠R:=fun b hb=>hrv b (by simpa using hb)
  refine⟨⟨h1,fun hb=> ?_,h3, ?_⟩,⟨fun hb=> ?_,h5, ?_⟩, ?_,⟨h7,by simp, ?_⟩, ?_⟩
  ·rcases (hrv' _ hb).1 with h|h
   ·exact h2 (by rw[h];simp)
   ·omega
  ·simp;omega
  ·rcases (hrv' _ hb).1 with h|h
   ·exact h4 (by rw[h];simp)
   ·omega
  ·simp;omega
  ·cases rv.ownBlock<;>simp
  ·intro a ha b hb
   have:=l3 a ha
   obtain rfl:b=R:=by simpa using hb
   omega
  ·intro a ha b hb
   rcases hb with hb|hb
   ·rcases (hrv' _ ha).1 with h|h
    ·exact h8 a (by rw[h];simp) b hb
    ·have:=l3 b hb;omega
   ·obtain rfl:b=R:=by simpa using hb
    exact(hrv' _ ha).2
 ·show (T.rows++ [_]).Pairwise _
  rw[List.pairwise_append]
  refine⟨hT.rise,by simp,fun a ha b hb=> ?_⟩
  obtain rfl:b=⟨R,k,d,T.last+1,false⟩:=by simpa using hb
  have:=(hT.num a ha).2
  show a.n<T.last+1
  omega
 ·intro r hr
  rcases List.mem_append.1 (show r∈T.rows++ [_] from hr) with hr|hr
  ·have:=hT.num r hr
   show 1<=r.n/\r.n<=T.last+1
   omega
  ·obtain rfl:r=⟨R,k,d,T.last+1,false⟩:=by simpa using hr
   show 1<=T.last+1/\T.last+1<=T.last+1
   omega
 ·rw[TT.added_live,List.pairwise_append]
  refine⟨hT.keys,by simp,fun a ha b hb=> ?_⟩
  obtain rfl:b=⟨R,k,d,T.last+1,false⟩:=by simpa using hb
  have:=List.find?_eq_none.1 hn a ha
  simpa using this
 ·rw[TT.added_live]
  intro r hr
  rcases List.mem_append.1 hr with hr|hr
  ·exact hT.good r hr
  ·obtain rfl:r=⟨R,k,d,T.last+1,false⟩:=by simpa using hr
   exact hg
end
section
open Go Go.Proofs Go.Maps Go.RowKit Tryz
theorem rv_new {T:TT} {w X:World} {v:Value} {R:Nat} (hT:T.Is w) (hf:Kz X T.rv v) (hR:w.heap.size<=R) (hR2:R<X.heap.size) (hs:w.heap.size<=X.heap.size): ∀g,v.ownBlock=some g->(T.rv.ownBlock=some g∨w.heap.size<=g)/\g≠R:=by
 intro g hg
 rcases hf with h|h
 ·rw[hg] at h
  have:=hT.lt g (TT.Part.mem (.inr (.inl h.symm)))
  exact⟨.inl h.symm,by omega⟩
 ·rw[hg] at h
  have:=Option.some.inj h
  exact⟨.inr (by omega),by omega⟩
theorem not_rv {T:TT} {w:World} (hT:T.Is w) {b:Nat} (hb:b=T.t∨w.heap.size<=b):b ∉ T.rv.ownBlock.toList:=by
 intro hm
 have hp:T.Part b:= .inr (.inl (by simpa using hm))
 rcases hb with hb|hb
 ·exact hp.ne hT.nd hb
 ·have:=hT.lt b hp.mem;omega
theorem not_m {T:TT} {w:World} (hT:T.Is w) {b:Nat} (hb:b=T.t∨w.heap.size<=b):b ∉ [T.m]:=by
 intro hm
 have hp:T.Part b:= .inl (by simpa using hm)
 rcases hb with hb|hb
 ·exact hp.ne hT.nd hb
 ·have:=hT.lt b hp.mem;omega
theorem four {T:TT} {n R B:Nat} {c1 c2 c3 c4:List Value} {q:Nat×List Value} (hq:q∈ [(T.t,c1),(n,c2),(R,c3),(B,c4)]) (hR:n<=R) (hB:n<=B):q.1=T.t∨n<=q.1:=by
 simp only[List.mem_cons,List.not_mem_nil,or_false] at hq
 rcases hq with rfl|rfl|rfl|rfl
 ·exact .inl rfl
 ·exact .inr (Nat.le_refl _)
 ·exact .inr hR
 ·exact .inr hB
def TT.Mid2 (T:TT) (v:Value) (R:Nat) (W:World):Prop:=MapIs W T.m T.last T.live.length (fun k=>(T.find k).map (·.b))/\OwnP W v (T.rows.map (·.b)++ [R])/\ ∀r∈T.rows,Holds W r.b r.cs
theorem TT.nd_rv {T:TT} (hnd:T.blocks.Nodup):(∀b,T.rv.ownBlock=some b->b≠T.m/\b ∉ T.rows.map (·.b)):=by
 intro b hb
 simp only[TT.blocks,List.nodup_cons,List.mem_cons,List.mem_append,List.nodup_append,not_or] at hnd
 obtain⟨⟨h1,h2,h3⟩,⟨h4,h5⟩,h6,h7,h8⟩:=hnd
 refine⟨fun e=>h4 (by rw[←e,hb];simp),fun hm=>h8 b (by rw[hb];simp) b hm rfl⟩
theorem TT.Mid.app {T:TT} {W W':World} {v:Value} {R:Nat} (h:T.Mid W) (hnd:T.blocks.Nodup) (hf:Fr W W' T.rv.ownBlock.toList) (ho:W'.ownsRow 0 203 1 v ((T.rows.map (·.b)).length+1) (Pq (T.rows.map (·.b))++ [.pointer (some ⟨R,0,none⟩)])):T.Mid2 v R W':=by
 have hn:=TT.nd_rv hnd
 refine⟨h.map.block (hf.block _ (h.lt _ (.inl rfl)) (fun hm=>(hn T.m (by simpa using hm)).1 rfl)), ?_,fun r hr=>(h.rows r hr).block (hf.block _ (h.lt _ (.inr (.inr (List.mem_map.2 ⟨r,hr,rfl⟩)))) (fun hm=>(hn r.b (by simpa using hm)).2 (List.mem_map.2 ⟨r,hr,rfl⟩)))⟩
 unfold OwnP
 rw[List.length_append]
 simpa [Pq] using ho
theorem TT.Mid2.block {T:TT} {v:Value} {R:Nat} {W W':World} (h:T.Mid2 v R W) (he: ∀b,(b=T.m∨v.ownBlock=some b∨b∈T.rows.map (·.b))->W'.heap[b]? =W.heap[b]?):T.Mid2 v R W':=
 ⟨h.1.block (he _ (.inl rfl)),h.2.1.block (fun g hg=>he g (.inr (.inl hg))),fun r hr=>(h.2.2 r hr).block (he _ (.inr (.inr (List.mem_map.2 ⟨r,hr,rfl⟩))))⟩
theorem TT.Mid2.drew {T:TT} {v:Value} {R:Nat} {W:World} (h:T.Mid2 v R W):T.Mid2 v R W.drew:=h.block (fun _ _=>rfl)
theorem TT.Mid2.lt {T:TT} {v:Value} {R:Nat} {W:World} (h:T.Mid2 v R W): ∀b,(b=T.m∨v.ownBlock=some b∨b∈T.rows.map (·.b))->b<W.heap.size:=by
 intro b hb
 rcases hb with rfl|hb|hb
 ·exact h.1.lt
 ·exact h.2.1.lt b hb
 ·obtain⟨r,hr,rfl⟩:=List.mem_map.1 hb
  exact(h.2.2 r hr).lt (by simp[Ed])
theorem TT.Mid2.fr {T:TT} {v:Value} {R:Nat} {w W W':World} (h:T.Mid2 v R W) (hf:Fr W W' [T.t]) (hT:T.Is w) (hv: ∀g,v.ownBlock=some g->(T.rv.ownBlock=some g∨w.heap.size<=g)/\g≠R):T.Mid2 v R W':=by
 refine h.block (fun b hb=>hf.block b (h.lt b hb) ?_)
 intro hm
 obtain rfl:b=T.t:=by simpa using hm
 rcases hb with hb|hb|hb
 ·exact TT.Part.ne (.inl hb) hT.nd rfl
 ·rcases (hv _ hb).1 with h1|h1
  ·exact TT.Part.ne (.inr (.inl h1)) hT.nd rfl
  ·have:=hT.lt T.t (by simp[TT.blocks]);omega
 ·exact TT.Part.ne (.inr (.inr hb)) hT.nd rfl
theorem TT.Mid2.fin {T:TT} {v:Value} {R:Nat} {w W X:World} (h:T.Mid2 v R W) (hf:Fr W X [T.m]) (hT:T.Is w) (hv: ∀g,v.ownBlock=some g->(T.rv.ownBlock=some g∨w.heap.size<=g)/\g≠R):OwnP X v (T.rows.map (·.b)++ [R])/\ ∀r∈T.rows,Holds X r.b r.cs:=by
 have hn:=TT.nd_rv hT.nd
 have hm:T.m ∉ T.rows.map (·.b):=by
  have hnd:=hT.nd
  simp only[TT.blocks,List.nodup_cons,List.mem_cons,List.mem_append,not_or] at hnd
  exact hnd.2.1.2
 refine⟨h.2.1.block (fun g hg=>hf.block g (h.lt g (.inr (.inl hg))) ?_),fun r hr=>(h.2.2 r hr).block (hf.block r.b (h.lt _ (.inr (.inr (List.mem_map.2 ⟨r,hr,rfl⟩)))) ?_)⟩
 ·intro e
  obtain rfl:g=T.m:=by simpa using e
  rcases (hv _ hg).1 with h1|h1
  ·exact(hn _ h1).1 rfl
  ·have:=hT.lt T.m (by simp[TT.blocks]);omega
 ·intro e
  have e2:r.b=T.m:=by simpa using e
  exact hm (e2▸List.mem_map.2 ⟨r,hr,rfl⟩)
theorem MapIs.drew {w:World} {b n sz:Nat} {F:KK->Option Nat} (h:MapIs w b n sz F):MapIs w.drew b n sz F:=h.block rfl
theorem gupd {md:Region.Mode} {ops:Array Oper} {Q:Exit->Act->World->Prop} {S:World->Prop} {w:World} {fuel:Nat} {listed:Array Bool} {a:Act} {o:Oper} (i:Nat) {m x y:Operand} {b n sz r:Nat} {F:KK->Option Nat} {k:KK} {rs:List Nat} (hi:ops[i]? =some o)  
  (ho:o.op= .mapUpdate 190 m x y) (hm:a.eval m= .map (some b)) (hx:a.eval x=k.agg) (hy:a.eval y=pv (some r)) (h:MapIs w b n sz F) (hk:OkK k) (hn:n<maxLen) (hon: ∀X,Fr w X [b]->S X)
  (hh: ∀X,MapIs X b (n+1) (if (F k).isSome then sz else sz+1) (Rg F k (some r))->Fr w X [b]->wpAnyH prog md ops Q S fuel (listed.setIfInBounds i true) (a.put none undef) X) (hs:AllReadyH prog md ops Q S fuel listed a w rs) (hd:o.dst=none:=by kernel_rfl) (hw:Region.wanted o (yielded ops a.tmps)=true:=by kernel_rfl):AllReadyH prog md ops Q S fuel listed a w (i::rs):=by
 obtain⟨X,h1,h2,h3⟩:=ex_upd ho hm hx hy h hk hn
 exact Zbk i none hi hd hw h1 (hon X h3) (hh X h2 h3) hs
theorem ZaD:(prog.info? 203).map (fun i=>(i.zero,i.size,i.bytes))=some (some (.pointer none),1,8):=by kernel_rfl
theorem siz71:(prog.info? 114).map (·.size)=some 1:=by kernel_rfl
theorem siz70:(prog.info? 191).map (·.size)=some 1:=by kernel_rfl
theorem ZcH {o:Oper} {a:Act} {w:World} {x:Operand} {n:Nat} (ho:o.op= .binOp .add 114 x (.const (.int .u64 1)) 114) (hx:a.eval x= .int .u64 (n:Nat)) (hc:a.eval (.const (.int .u64 1))= .int .u64 1) (hn:n<4000000):(execOp a.eval o).run prog w= .ok (.value (.int .u64 ((n:Int)+1))) w:=by
 unfold execOp
 simp only[ho,hx,hc]
 have e:IntKind.u64.wrap ((n:Int)+1)=(n:Int)+1:=by
  rw[IntKind.wrap_u64]
  omega
 simp[go_sem,eqGuard,underlying114,e]
theorem add34 (T:TT) (k:KK) (d:DD) (w:World) (hT:T.Is w) (hk:OkK k) (hg:goodK k=true) (hn:T.find k=none) (hl:T.last<4000000):Calls prog 144 #[.pointer (some ⟨T.t,0,none⟩), .agg (k.cs++d.cs).toArray] w fun e w'=>e= .returned (.tuple #[])/\ ∃rv R,(T.added rv R k d).Is w'/\Fr w w' T.blocks/\w.heap.size<=R/\(∀g,rv.ownBlock=some g->T.rv.ownBlock=some g∨w.heap.size<=g):=by
 have hlen:=hT.len
 have hlt:=hT.lt
 have LL:=Ab (((Hq.nil w T.blocks).add hT.tab (Nat.succ_pos _) (fun q hq=>by cases hq)).new (k.cs++d.cs) 80 (Nat.succ_pos _))
 have MM:=Ab (hT.mid.on ((Below.refl _ _).alloc (Nat.le_refl _) (Obj.cells (k.cs++d.cs).toArray 80)))
 have hl2:Hid (T.last<4000000):=Ab hl
 have HH:=Ab hT
 have hnd:=Ab hT.nd
 have hlen2:=Ab hlen
 have hlt2:=Ab hlt
 have hk2:=Ab hk
 have hn2:=Ab hn
 have hg2:=Ab hg
 clear hT hlen hlt hl hk hn hg
 go_enter func144,ntmps144
 go_wp2_with (first|go_skip|(refine rd rfl (Ad 114 isAgg114 rfl rfl ((Aa LL).get 0 rfl) rfl) ?_)|(refine rd rfl (ZcH rfl rfl rfl (Aa hl2)) ?_)|((refine st (vs:= [.int .u64 ((T.last:Int)+1)]) 0 114 (by rfl) rfl rfl rfl rfl (by simp[Value.oneCell']) siz71 (Aa LL) rfl (by simp[TT.cs,Bt]) (Or.inl (List.mem_cons_self ..)) ?_);intro w3 L3 hf3 hs3;replace LL:=Ab L3;replace MM:=Ab ((Aa MM).fr hf3 (fun b hb=>by simpa using hb.ne (Aa hnd)));clear L3 hf3 hs3;simp only[nn]))
 obtain⟨R,hRe⟩: ∃R,R=w3.drew.heap.size:=⟨_,rfl⟩
 refine wp_region_held_drew (P:=prog) (S:=fun X=>Hq w X T.blocks [(T.t, [.map (some T.m),T.rv, .int .u64 ((T.last:Int)+1)]),(w.heap.size,(k.cs++d.cs))]/\T.Mid X) (by kernel_rfl) ⟨(Aa LL).drew,(Aa MM).drew⟩ (fun hS0=> ?_)
 refine y1 0 (some 12) (.agg (k.cs++d.cs).toArray) rfl (fun X hX=>Af (vs:=(k.cs++d.cs)) 80 20 row58 siz58 rfl rfl (hX.1.get 1 rfl) rfl rfl) hS0 ?_
 refine y0 1 (some 13) (.pointer (some ⟨T.t,0,none⟩)) rfl hS0 ?_
 refine y0 2 (some 14) (.pointer (some ⟨T.t,0,none⟩)) rfl hS0 ?_
 refine y0 3 (some 15) (.pointer (some ⟨T.t,2,none⟩)) rfl hS0 ?_
 refine y1 4 (some 16) (.int .u64 ((T.last:Int)+1)) rfl (fun X hX=>Ad 114 isAgg114 rfl rfl (hX.1.get 0 rfl) rfl) hS0 ?_
 refine y0 5 (some 17) (.agg (RR.mk R k d (T.last+1) false).cs.toArray) rfl hS0 ?_
 have bl:=(Below.refl w3.drew.heap.size w3.drew).alloc (Nat.le_refl _) (Obj.cells (RR.mk R k d (T.last+1) false).cs.toArray 206)
 have L2:=hS0.1.new (RR.mk R k d (T.last+1) false).cs 206 (Nat.succ_pos _)
 refine wpAnyH_ready (rs:= [6]) (by kernel_rfl) (by simp) (Qb 6 (some 18) rfl (by kernel_rfl) (by kernel_rfl) (ex_box 206 (RR.mk R k d (T.last+1) false).cs rfl rfl rfl) (And.intro (hS0.1.on bl) (hS0.2.on bl)) ?_ AllReadyH.nil)
 have hR:=Ab (Nat.le_trans hS0.1.fr.size (Nat.le_of_eq hRe.symm))
 replace hS0:=And.intro (hS0.1.on bl) (hS0.2.on bl)
 simp only[nn]
 rw[←hRe] at L2 ⊢
 clear bl
 generalize w3.drew.alloc (Obj.cells (RR.mk R k d (T.last+1) false).cs.toArray 206)=w4 at *
 clear hRe
 refine y0 7 (some 4) (.pointer (some ⟨R,0,none⟩)) rfl hS0 ?_
 refine dn ?_
 try simp only[nn]
 replace MM:=Ab hS0.2
 replace LL:=Ab L2
 clear hS0 L2
 go_wp2_with (first|go_skip|(refine rd rfl (Ad 191 isAgg191 rfl rfl ((Aa LL).get 0 rfl) rfl) ?_)|((refine ZbU (t:=191) (e:=203) (size:=1) (bytes:=8) (z:= .pointer none) (cs:= [.pointer (some ⟨R,0,none⟩)]) rfl rfl underlying191 ZaD rfl rfl (Aa LL) ?_);intro w5 B5 hB5 L5 hb5;have hB5:=Ab (Nat.le_trans (Aa LL).fr.size (Nat.le_of_eq hB5.symm));replace LL:=Ab L5;replace MM:=Ab ((Aa MM).on hb5);clear L5 hb5;simp only[nn])|((refine Uq (v:=T.rv) rfl rfl rfl rfl underlying191 ZaD rfl (by decide) (Aa MM).own ((Aa LL).get 3 rfl) rfl (by simp[Value.oneCell']) (by have h1:=Aa hlen2;have h2:=Aa hl2;simp;omega) (by decide) (Nat.zero_le _) ?_);intro A6 c6 w6 ho6 hg6 hf6;have V6:=Ab (rv_new (Aa HH) hf6 (Aa hR) ((Aa LL).lt (R,RR.cs ⟨R,k,d,T.last+1,false⟩) (by simp)) (Aa LL).fr.size);have M6:=Ab ((Aa MM).app (Aa hnd) (Fr.grown hg6) ho6);replace LL:=Ab ((Aa LL).step (Fr.grown hg6) (fun b hb=>Or.inl (TT.Part.mem (.inr (.inl (by simpa using hb))))) (fun q hq=>not_rv (Aa HH) (four hq (Aa hR) (Aa hB5))));clear MM ho6 hg6 hf6;simp only[nn])|((refine st (vs:= [.slice A6 _ c6]) 0 191 (by rfl) rfl rfl rfl rfl (by simp[Value.oneCell']) siz70 (Aa LL) rfl (by simp[TT.cs,Bt]) (Or.inl (List.mem_cons_self ..)) ?_);intro w7 L7 hf7 hs7;replace LL:=Ab L7;replace M6:=Ab ((Aa M6).fr hf7 (Aa HH) (Aa V6));clear L7 hf7 hs7;simp only[nn]))
 rw[List.length_map] at LL M6 V6 ⊢
 refine wp_region_held_drew (P:=prog) (S:=fun X=>Hq w X T.blocks [(T.t, [.map (some T.m), .slice A6 (T.rows.length+1) c6, .int .u64 ((T.last:Int)+1)]),(w.heap.size,(k.cs++d.cs)),(R,(RR.mk R k d (T.last+1) false).cs),(B5, [.pointer (some ⟨R,0,none⟩)])]) (by kernel_rfl) (Aa LL).drew (fun hS0=> ?_)
 refine y0 0 (some 29) (.pointer (some ⟨T.t,0,none⟩)) rfl hS0 ?_
 refine y0 1 (some 30) (.pointer (some ⟨T.t,0,none⟩)) rfl hS0 ?_
 refine y0 2 (some 31) (.pointer (some ⟨T.t,0,none⟩)) rfl hS0 ?_
 refine y1 3 (some 32) (.map (some T.m)) rfl (fun X hX=>Ad 190 isAgg190 rfl rfl (hX.get 0 rfl) rfl) hS0 ?_
 refine y0 4 (some 33) (.pointer (some ⟨w.heap.size,0,none⟩)) rfl hS0 ?_
 refine y1 5 (some 34) (k.agg) rfl (fun X hX=>Af (vs:=k.cs) 37 2 Jh Kh rfl rfl (hX.get 1 rfl) rfl rfl) hS0 ?_
 refine y0 6 (some 35) (.pointer (some ⟨R,0,none⟩)) rfl hS0 ?_
 refine wpAnyH_ready (rs:= [7]) (by kernel_rfl) (by simp) (gupd (r:=R) 7 rfl rfl rfl rfl rfl (Aa M6).1.drew (Aa hk2) (by have h2:=Aa hl2;unfold maxLen;omega) (fun X hX=>hS0.step hX (fun b hb=>Or.inl (by obtain rfl:b=T.m:=(by simpa using hb);exact TT.Part.mem (.inl rfl))) (fun q hq=>not_m (Aa HH) (four hq (Aa hR) (Aa hB5)))) ?_ AllReadyH.nil)
 intro X hM hX
 replace hS0:=hS0.step hX (fun b hb=>Or.inl (by obtain rfl:b=T.m:=(by simpa using hb);exact TT.Part.mem (.inl rfl))) (fun q hq=>not_m (Aa HH) (four hq (Aa hR) (Aa hB5)))
 have hM2:Hid (MapIs X T.m (T.last+1) (T.live.length+1) (Rg (fun q=>(T.find q).map (·.b)) k (some R))):=by
  have e:=Aa hn2
  have:=hM
  simp only[e,Option.map_none,Option.isSome_none] at this
  exact Ab this
 have hF:=Ab ((Aa M6).drew.fin hX (Aa HH) (Aa V6))
 clear hM hX M6
 simp only[nn]
 refine dn ?_
 try simp only[nn]
 have LS:=Ab hS0
 clear hS0 LL
 go_wp2
 go_end0
 refine⟨rfl, .slice A6 (T.rows.length+1) c6,R, ?_,(Aa LS).fr,Aa hR,fun g hg=>((Aa V6) g hg).1⟩
 exact TT.Is.added (Aa HH) (Aa hn2) (Aa hg2) ((Aa LS).get 0 rfl) (Aa hM2) (Aa hF).1 (Aa hF).2 ((Aa LS).get 2 rfl) (Aa hR) (Aa V6)
end
section
open Go Go.Proofs Go.Maps Go.RowKit
def Rt (b:Nat) (d:DD) (r:RR):RR:=if r.b=b then {r with d:=d} else r
theorem Nf (b:Nat) (d:DD) (r:RR):(Rt b d r).b=r.b/\(Rt b d r).k=r.k/\(Rt b d r).n=r.n/\(Rt b d r).gone=r.gone:=by
 unfold Rt
 split<;>simp
def TT.upd (T:TT) (b:Nat) (d:DD):TT:={T with rows:=T.rows.map (Rt b d)}
theorem TT.upd_live (T:TT) (b:Nat) (d:DD):(T.upd b d).live=T.live.map (Rt b d):=by
 unfold TT.live TT.upd
 simp only[List.filter_map]
 congr 1
 apply List.filter_congr
 intro r _
 simp[(Nf b d r).2.2.2]
theorem TT.upd_find (T:TT) (b:Nat) (d:DD) (k:KK):(T.upd b d).find k=(T.find k).map (Rt b d):=by
 unfold TT.find
 rw[TT.upd_live,List.find?_map]
 congr 1
 congr 1
 funext r
 simp[(Nf b d r).2.1]
theorem TT.upd_bs (T:TT) (b:Nat) (d:DD):(T.upd b d).rows.map (·.b)=T.rows.map (·.b):=by
 unfold TT.upd
 simp only[List.map_map]
 apply List.map_congr_left
 intro r _
 exact(Nf b d r).1
theorem TT.upd_blocks (T:TT) (b:Nat) (d:DD):(T.upd b d).blocks=T.blocks:=by
 unfold TT.blocks
 rw[TT.upd_bs]
 rfl
theorem TT.Is.upd {T:TT} {w X:World} {r:RR} {d:DD} (hT:T.Is w) (hr:r∈T.rows) (hf:Fr w X [r.b]) (hn:Holds X r.b (r.k.cs++(d.cs++ [.int .u64 r.n, .bool r.gone]))):(T.upd r.b d).Is X:=by
 have hnd:=hT.nd
 simp only[TT.blocks,List.nodup_cons,List.mem_cons,List.mem_append,List.nodup_append,not_or] at hnd
 obtain⟨⟨h1,h2,h3⟩,⟨h4,h5⟩,h6,h7,h8⟩:=hnd
 have hm:r.b∈T.rows.map (·.b):=List.mem_map.2 ⟨r,hr,rfl⟩
 have hlt:=hT.lt
 have part: ∀b∈T.blocks,b≠r.b->X.heap[b]? =w.heap[b]? :=fun b hb hne=>hf.block b (hlt b hb) (by simpa using hne)
 refine⟨?_, ?_, ?_, ?_, ?_, ?_, ?_, ?_, ?_⟩
 ·exact hT.tab.block (part _ (by simp[TT.blocks]) (fun e=>h3 (e▸hm)))
 ·have e:(fun k=>((T.upd r.b d).find k).map (·.b))=fun k=>(T.find k).map (·.b):=by
   funext k
   rw[TT.upd_find]
   cases T.find k with
   |none=>rfl
   |some q=>simp[(Nf r.b d q).1]
  rw[e,TT.upd_live,List.length_map]
  exact hT.map.block (part _ (by simp[TT.blocks]) (fun e=>h5 (by rw[show T.m=r.b from e];exact hm)))
 ·rw[TT.upd_bs]
  exact hT.own.block (fun g hg=>part _ (TT.Part.mem (.inr (.inl hg))) (fun e=>h8 g (by rw[hg];simp) r.b hm e))
 ·intro q hq
  obtain⟨p,hp,rfl⟩:=List.mem_map.1 (show q∈T.rows.map (Rt r.b d) from hq)
  by_cases e:p.b=r.b
  ·have hpr:p=r:=by
    have:=hT.rise
    rcases List.getElem?_of_mem hp with ⟨i,hi⟩
    rcases List.getElem?_of_mem hr with ⟨j,hj⟩
    have e1:(T.rows.map (·.b))[i]? =some r.b:=by simp[hi,e]
    have e2:(T.rows.map (·.b))[j]? =some r.b:=by simp[hj]
    have hij:=(List.getElem?_inj (by simpa using (List.getElem?_eq_some_iff.1 hi).1) h7).1 (e1.trans e2.symm)
    subst hij
    rw[hi] at hj
    exact Option.some.inj hj
   subst hpr
   unfold Rt
   rw[if_pos rfl]
   exact hn
  ·unfold Rt
   rw[if_neg e]
   exact(hT.rows p hp).block (part _ (TT.Part.mem (.inr (.inr (List.mem_map.2 ⟨p,hp,rfl⟩)))) e)
 ·rw[TT.upd_blocks]
  exact hT.nd
 ·show (T.rows.map (Rt r.b d)).Pairwise _
  rw[List.pairwise_map]
  exact hT.rise.imp (fun {a b} h=>by rw[(Nf r.b d a).2.2.1,(Nf r.b d b).2.2.1];exact h)
 ·intro q hq
  obtain⟨p,hp,rfl⟩:=List.mem_map.1 (show q∈T.rows.map (Rt r.b d) from hq)
  rw[(Nf r.b d p).2.2.1]
  exact hT.num p hp
 ·rw[TT.upd_live,List.pairwise_map]
  exact hT.keys.imp (fun {a b} h=>by rw[(Nf r.b d a).2.1,(Nf r.b d b).2.1];exact h)
 ·rw[TT.upd_live]
  intro q hq
  obtain⟨p,hp,rfl⟩:=List.mem_map.1 hq
  rw[(Nf r.b d p).2.1]
  exact hT.good p hp
