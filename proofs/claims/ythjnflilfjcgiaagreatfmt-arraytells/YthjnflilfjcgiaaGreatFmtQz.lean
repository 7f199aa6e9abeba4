import Derived.Test.YthjnflilfjcgiaaGreatFmtQy
import Derived.Test.YthjnflilfjcgiaaGreatFmtQn
set_option linter.all false
namespace Go.Proofs.YthjnflilfjcgiaaGreatFmt
set_option maxRecDepth 100000
set_option maxHeartbeats 0
section
open Go Go.Proofs Go.Maps Go.RowKit Tryz
theorem Hq.three (w:World) (E:List Nat) {b0:Nat} {c0:List Value} (h0:Holds w b0 c0) (hc0:0<c0.length) (a b:List Value) (s t:TypeId) (ha:0<a.length) (hb:0<b.length):Hq w ((w.alloc (Obj.cells a.toArray s)).alloc (Obj.cells b.toArray t)) E [(b0,c0),(w.heap.size,a),(w.heap.size+1,b)]:=by
 have h:=(((Hq.nil w E).add h0 hc0 (fun q hq=>by cases hq)).new a s ha).new b t hb
 rw[show (w.alloc (Obj.cells a.toArray s)).heap.size=w.heap.size+1 by simp] at h
 exact h
theorem ex_build58 {o:Oper} {a:Act} {w:World} {x y:Operand} {k:KK} {d:DD} (ho:o.op= .build 106 #[(0,x),(1,y)]) (hx:a.eval x= .agg k.cs.toArray) (hy:a.eval y= .agg d.cs.toArray):(execOp a.eval o).run prog w= .ok (.value (.agg (k.cs++d.cs).toArray)) w:=by
 have e:(Instr.build 106 #[(0, .agg k.cs.toArray),(1, .agg d.cs.toArray)]).run prog w= .ok (.agg (k.cs++d.cs).toArray) w:=by kernel_rfl
 unfold execOp
 simp only[ho,List.map_toArray,List.map_cons,List.map_nil,hx,hy]
 simp[e]
theorem tabs_fr {w X:World} {E:List Nat} (h:Lib.Utf8Tabs 4 5 w) (hf:Fr w X E) (hE: ∀b∈E,6<=b):Lib.Utf8Tabs 4 5 X:=by
 have hs:=tabs_size h
 have e2:X.heap[4]? =w.heap[4]? :=hf.block 4 (by omega) (fun hm=>by have:=hE _ hm;omega)
 have e3:X.heap[5]? =w.heap[5]? :=hf.block 5 (by omega) (fun hm=>by have:=hE _ hm;omega)
 exact⟨fun c hc=>(World.cell?_of_block (a:=⟨4,c,none⟩) e2).trans (h.1 c hc),fun i hi=>⟨(World.cell?_of_block (a:=⟨5,2 * i,none⟩) e3).trans (h.2 i hi).1,(World.cell?_of_block (a:=⟨5,2 * i+1,none⟩) e3).trans (h.2 i hi).2⟩⟩
theorem added_blocks {T:TT} {w X:World} {rv:Value} {R:Nat} {k:KK} {d:DD} (hg: ∀g,rv.ownBlock=some g->T.rv.ownBlock=some g∨X.heap.size<=g) (hR:w.heap.size<=R) (hs:w.heap.size<=X.heap.size): ∀b∈(T.added rv R k d).blocks,b∈T.blocks∨w.heap.size<=b:=by
 intro b hb
 simp only[TT.blocks,TT.added,List.mem_cons,List.mem_append,List.map_append,List.map_cons,List.map_nil,List.not_mem_nil,or_false] at hb ⊢
 rcases hb with h|h|h|h|h
 ·exact .inl (.inl h)
 ·exact .inl (.inr (.inl h))
 ·rcases hg b (by simpa using h) with h|h
  ·exact .inl (.inr (.inr (.inl (by rw[h];simp))))
  ·exact .inr (by omega)
 ·exact .inl (.inr (.inr (.inr h)))
 ·exact .inr (by omega)
theorem put_some (T:TT) (k:KK) (d:DD) (w:World) (hT:T.Is w) (hU:Lib.Utf8Tabs 4 5 w) (hk:OkK k) (hl:T.last<4000000) (r:RR) (hf:T.find k=some r):Calls prog 78 #[.pointer (some ⟨T.t,0,none⟩),k.agg,d.agg] w fun e w'=>e= .returned (.int .i64 (0))/\ ∃T':TT,T'.Is w'/\T'.t=T.t/\Fr w w' T.blocks/\(∀b∈T'.blocks,b∈T.blocks∨w.heap.size<=b)/\((∃r,T.find k=some r/\T'=T.upd r.b d)∨(T.find k=none/\goodK k=true/\ ∃rv R,T'=T.added rv R k d)∨(T.find k=none/\goodK k=false/\T'=T)):=by
 have hr:=(T.find_mem hf).1
 have LL:=hide (Hq.three w T.blocks (hT.rows r hr) (Nat.succ_pos _) k.cs d.cs 42 53 (Nat.succ_pos _) (Nat.succ_pos _))
 have HT:=hide (hT.on (two_below w k.cs.toArray d.cs.toArray 42 53))
 have HH:=hide hT
 clear hT
 rw[show k.agg= .agg k.cs.toArray from rfl,show d.agg= .agg d.cs.toArray from rfl]
 go_enter func78,ntmps78
 go_wp2
 refine wp_region_held_drew (P:=prog) (S:=fun X=>T.Is X/\Hq w X T.blocks [(r.b,r.cs),(w.heap.size,k.cs),(w.heap.size+1,d.cs)]) (by kernel_rfl) ⟨(uh HT).drew,(uh LL).drew⟩ (fun hS0=> ?_)
 refine gsem 0 (some 11) (.pointer (some ⟨T.t,0,none⟩)) rfl (by kernel_rfl) (by kernel_rfl) (by kernel_rfl) (fun _ _ _ h=>h) (by kernel_rfl) (by kernel_rfl) (fun _ _=>by kernel_rfl) hS0 ?_
 simp only[nn]
 refine gsem 1 (some 12) (.pointer (some ⟨T.t,0,none⟩)) rfl (by kernel_rfl) (by kernel_rfl) (by kernel_rfl) (fun _ _ _ h=>h) (by kernel_rfl) (by kernel_rfl) (fun _ _=>by kernel_rfl) hS0 ?_
 simp only[nn]
 refine gsem 2 (some 13) (.pointer (some ⟨T.t,0,none⟩)) rfl (by kernel_rfl) (by kernel_rfl) (by kernel_rfl) (fun _ _ _ h=>h) (by kernel_rfl) (by kernel_rfl) (fun _ _=>by kernel_rfl) hS0 ?_
 simp only[nn]
 refine gsem 3 (some 14) (.map (some T.m)) rfl (by kernel_rfl) (by kernel_rfl) (by kernel_rfl) (fun _ _ _ h=>h) (by kernel_rfl) (by kernel_rfl) (fun X hX=>ex_load1 167 isAgg167 rfl rfl (hX.1.tab) rfl) hS0 ?_
 simp only[nn]
 refine gsem 4 (some 15) (k.agg) rfl (by kernel_rfl) (by kernel_rfl) (by kernel_rfl) (fun _ _ _ h=>h) (by kernel_rfl) (by kernel_rfl) (fun X hX=>ex_loadN (vs:=k.cs) 42 2 row33x siz33 rfl rfl (hX.2.get 1 rfl) rfl rfl) hS0 ?_
 simp only[nn]
 refine gsem 5 (some 16) (.tuple #[pv (some r.b), .bool true]) rfl (by kernel_rfl) (by kernel_rfl) (by kernel_rfl) (fun _ _ _ h=>h) (by kernel_rfl) (by kernel_rfl) (fun X hX=>ex_look (r:=some r.b) rfl rfl rfl hX.1.map hk (by rw[hf];rfl)) hS0 ?_
 simp only[nn]
 refine gsem 6 (some 10) (.tuple #[pv (some r.b), .bool true]) rfl (by kernel_rfl) (by kernel_rfl) (by kernel_rfl) (fun _ _ _ h=>h) (by kernel_rfl) (by kernel_rfl) (fun _ _=>by kernel_rfl) hS0 ?_
 simp only[nn]
 refine gsem 7 (some 17) (pv (some r.b)) rfl (by kernel_rfl) (by kernel_rfl) (by kernel_rfl) (fun _ _ _ h=>h) (by kernel_rfl) (by kernel_rfl) (fun _ _=>by kernel_rfl) hS0 ?_
 simp only[nn]
 refine gsem 9 (some 7) (pv (some r.b)) rfl (by kernel_rfl) (by kernel_rfl) (by kernel_rfl) (fun _ _ _ h=>h) (by kernel_rfl) (by kernel_rfl) (fun _ _=>by kernel_rfl) hS0 ?_
 simp only[nn]
 refine gsem 8 (some 18) (.bool true) rfl (by kernel_rfl) (by kernel_rfl) (by kernel_rfl) (fun _ _ _ h=>h) (by kernel_rfl) (by kernel_rfl) (fun _ _=>by kernel_rfl) hS0 ?_
 simp only[nn]
 refine gsem 10 (some 8) (.bool true) rfl (by kernel_rfl) (by kernel_rfl) (by kernel_rfl) (fun _ _ _ h=>h) (by kernel_rfl) (by kernel_rfl) (fun _ _=>by kernel_rfl) hS0 ?_
 simp only[nn]
 refine wpAnyH_done (by kernel_rfl) ?_ _
 try simp only[nn]
 replace HT:=hide hS0.1
 replace LL:=hide hS0.2
 clear hS0
 unfold pv
 have hrb:=hide (TT.Part.mem (T:=T) (.inr (.inr (List.mem_map.2 ⟨r,hr,rfl⟩))))
 go_wp2_with (first|go_skip|((refine rd rfl (ex_loadN (vs:=d.cs) 53 18 row39 siz39 rfl rfl ((uh LL).get 2 rfl) rfl rfl) ?_);simp only[nn])|((refine st (vs:=d.cs) 0 53 (by rfl) rfl rfl rfl rfl (by simp[DD.cs,VV.cs,Value.oneCell']) siz39 (uh LL) rfl (by simp[dcs_length,rcs_length]) (Or.inl (uh hrb)) ?_);intro w3 L3 hf3 hs3;replace LL:=hide L3;have HF:=hide hf3;clear L3 hf3 hs3;simp only[nn]))
 go_ret
 exact⟨rfl,T.upd r.b d,(uh HT).upd hr (uh HF) ((uh LL).get 0 rfl),rfl,(uh LL).fr,(fun b hb=>Or.inl (T.upd_blocks r.b d▸hb)),Or.inl ⟨r,hf,rfl⟩⟩
theorem put_good (T:TT) (k:KK) (d:DD) (w:World) (hT:T.Is w) (hU:Lib.Utf8Tabs 4 5 w) (hk:OkK k) (hl:T.last<4000000) (hTT:Hid (∀b∈T.blocks,6<=b)) (hf:T.find k=none) (hg:goodK k=true):Calls prog 78 #[.pointer (some ⟨T.t,0,none⟩),k.agg,d.agg] w fun e w'=>e= .returned (.int .i64 (0))/\ ∃T':TT,T'.Is w'/\T'.t=T.t/\Fr w w' T.blocks/\(∀b∈T'.blocks,b∈T.blocks∨w.heap.size<=b)/\((∃r,T.find k=some r/\T'=T.upd r.b d)∨(T.find k=none/\goodK k=true/\ ∃rv R,T'=T.added rv R k d)∨(T.find k=none/\goodK k=false/\T'=T)):=by
 have HU:=hide hU
 clear hU
 have LL:=hide (Hq.two w T.blocks k.cs d.cs 42 53 (Nat.succ_pos _) (Nat.succ_pos _))
 have HT:=hide (hT.on (two_below w k.cs.toArray d.cs.toArray 42 53))
 have HH:=hide hT
 clear hT
 rw[show k.agg= .agg k.cs.toArray from rfl,show d.agg= .agg d.cs.toArray from rfl]
 go_enter func78,ntmps78
 go_wp2
 refine wp_region_held_drew (P:=prog) (S:=fun X=>T.Is X/\Hq w X T.blocks [(w.heap.size,k.cs),(w.heap.size+1,d.cs)]) (by kernel_rfl) ⟨(uh HT).drew,(uh LL).drew⟩ (fun hS0=> ?_)
 refine gsem 0 (some 11) (.pointer (some ⟨T.t,0,none⟩)) rfl (by kernel_rfl) (by kernel_rfl) (by kernel_rfl) (fun _ _ _ h=>h) (by kernel_rfl) (by kernel_rfl) (fun _ _=>by kernel_rfl) hS0 ?_
 simp only[nn]
 refine gsem 1 (some 12) (.pointer (some ⟨T.t,0,none⟩)) rfl (by kernel_rfl) (by kernel_rfl) (by kernel_rfl) (fun _ _ _ h=>h) (by kernel_rfl) (by kernel_rfl) (fun _ _=>by kernel_rfl) hS0 ?_
 simp only[nn]
 refine gsem 2 (some 13) (.pointer (some ⟨T.t,0,none⟩)) rfl (by kernel_rfl) (by kernel_rfl) (by kernel_rfl) (fun _ _ _ h=>h) (by kernel_rfl) (by kernel_rfl) (fun _ _=>by kernel_rfl) hS0 ?_
 simp only[nn]
 refine gsem 3 (some 14) (.map (some T.m)) rfl (by kernel_rfl) (by kernel_rfl) (by kernel_rfl) (fun _ _ _ h=>h) (by kernel_rfl) (by kernel_rfl) (fun X hX=>ex_load1 167 isAgg167 rfl rfl (hX.1.tab) rfl) hS0 ?_
 simp only[nn]
 refine gsem 4 (some 15) (k.agg) rfl (by kernel_rfl) (by kernel_rfl) (by kernel_rfl) (fun _ _ _ h=>h) (by kernel_rfl) (by kernel_rfl) (fun X hX=>ex_loadN (vs:=k.cs) 42 2 row33x siz33 rfl rfl (hX.2.get 0 rfl) rfl rfl) hS0 ?_
 simp only[nn]
 refine gsem 5 (some 16) (.tuple #[pv (none), .bool false]) rfl (by kernel_rfl) (by kernel_rfl) (by kernel_rfl) (fun _ _ _ h=>h) (by kernel_rfl) (by kernel_rfl) (fun X hX=>ex_look (r:=none) rfl rfl rfl hX.1.map hk (by rw[hf];rfl)) hS0 ?_
 simp only[nn]
 refine gsem 6 (some 10) (.tuple #[pv (none), .bool false]) rfl (by kernel_rfl) (by kernel_rfl) (by kernel_rfl) (fun _ _ _ h=>h) (by kernel_rfl) (by kernel_rfl) (fun _ _=>by kernel_rfl) hS0 ?_
 simp only[nn]
 refine gsem 7 (some 17) (pv (none)) rfl (by kernel_rfl) (by kernel_rfl) (by kernel_rfl) (fun _ _ _ h=>h) (by kernel_rfl) (by kernel_rfl) (fun _ _=>by kernel_rfl) hS0 ?_
 simp only[nn]
 refine gsem 9 (some 7) (pv (none)) rfl (by kernel_rfl) (by kernel_rfl) (by kernel_rfl) (fun _ _ _ h=>h) (by kernel_rfl) (by kernel_rfl) (fun _ _=>by kernel_rfl) hS0 ?_
 simp only[nn]
 refine gsem 8 (some 18) (.bool false) rfl (by kernel_rfl) (by kernel_rfl) (by kernel_rfl) (fun _ _ _ h=>h) (by kernel_rfl) (by kernel_rfl) (fun _ _=>by kernel_rfl) hS0 ?_
 simp only[nn]
 refine gsem 10 (some 8) (.bool false) rfl (by kernel_rfl) (by kernel_rfl) (by kernel_rfl) (fun _ _ _ h=>h) (by kernel_rfl) (by kernel_rfl) (fun _ _=>by kernel_rfl) hS0 ?_
 simp only[nn]
 refine wpAnyH_done (by kernel_rfl) ?_ _
 try simp only[nn]
 replace HT:=hide hS0.1
 replace LL:=hide hS0.2
 clear hS0
 unfold pv
 go_wp2_with (first|go_skip|((refine rd rfl (ex_loadN (vs:=k.cs) 42 2 row33x siz33 rfl rfl ((uh LL).get 0 rfl) rfl rfl) ?_);simp only[nn]))
 refine(check12 k.s k.n _ (tabs_fr (uh HU) (uh LL).fr (uh hTT))).mono ?_
 rintro _ w4 ⟨rfl,hb⟩
 rw[show (kVal k.s k.n).good=goodK k from rfl,hg]
 replace HT:=hide ((uh HT).on hb)
 replace LL:=hide ((uh LL).on hb)
 clear hb
 simp only[if_true]
 go_wp2_with (first|go_skip|((refine rd rfl (ex_loadN (vs:=k.cs) 42 2 row33x siz33 rfl rfl ((uh LL).get 0 rfl) rfl rfl) ?_);simp only[nn])|((refine rd rfl (ex_loadN (vs:=d.cs) 53 18 row39 siz39 rfl rfl ((uh LL).get 1 rfl) rfl rfl) ?_);simp only[nn])|((refine rd rfl (ex_build58 rfl rfl rfl) ?_);simp only[nn]))
 refine(add34 T k d _ (uh HT) hk hg hf hl).mono ?_
 rintro _ w5 ⟨rfl,rv,R,hT5,hF5,hR5,hg5⟩
 have HF:=hide ((uh LL).fr.trans hF5 (fun b hb=>Or.inl hb))
 have hs:=(uh LL).fr.size
 have H5:=hide hT5
 have H6:=hide hg5
 have H7:=hide (Nat.le_trans hs hR5)
 have H8:=hide hs
 clear hT5 hF5 hg5 hR5 hs
 go_wp2
 go_ret
 refine⟨rfl,_,uh H5,rfl,uh HF, ?_,Or.inr (Or.inl ⟨hf,hg,rv,R,rfl⟩)⟩
 exact added_blocks (uh H6) (uh H7) (uh H8)
theorem put_bad (T:TT) (k:KK) (d:DD) (w:World) (hT:T.Is w) (hU:Lib.Utf8Tabs 4 5 w) (hk:OkK k) (hl:T.last<4000000) (hTT:Hid (∀b∈T.blocks,6<=b)) (hf:T.find k=none) (hg:goodK k=false):Calls prog 78 #[.pointer (some ⟨T.t,0,none⟩),k.agg,d.agg] w fun e w'=>e= .returned (.int .i64 (5))/\ ∃T':TT,T'.Is w'/\T'.t=T.t/\Fr w w' T.blocks/\(∀b∈T'.blocks,b∈T.blocks∨w.heap.size<=b)/\((∃r,T.find k=some r/\T'=T.upd r.b d)∨(T.find k=none/\goodK k=true/\ ∃rv R,T'=T.added rv R k d)∨(T.find k=none/\goodK k=false/\T'=T)):=by
 have HU:=hide hU
 clear hU
 have LL:=hide (Hq.two w T.blocks k.cs d.cs 42 53 (Nat.succ_pos _) (Nat.succ_pos _))
 have HT:=hide (hT.on (two_below w k.cs.toArray d.cs.toArray 42 53))
 have HH:=hide hT
 clear hT
 rw[show k.agg= .agg k.cs.toArray from rfl,show d.agg= .agg d.cs.toArray from rfl]
 go_enter func78,ntmps78
 go_wp2
 refine wp_region_held_drew (P:=prog) (S:=fun X=>T.Is X/\Hq w X T.blocks [(w.heap.size,k.cs),(w.heap.size+1,d.cs)]) (by kernel_rfl) ⟨(uh HT).drew,(uh LL).drew⟩ (fun hS0=> ?_)
 refine gsem 0 (some 11) (.pointer (some ⟨T.t,0,none⟩)) rfl (by kernel_rfl) (by kernel_rfl) (by kernel_rfl) (fun _ _ _ h=>h) (by kernel_rfl) (by kernel_rfl) (fun _ _=>by kernel_rfl) hS0 ?_
 simp only[nn]
 refine gsem 1 (some 12) (.pointer (some ⟨T.t,0,none⟩)) rfl (by kernel_rfl) (by kernel_rfl) (by kernel_rfl) (fun _ _ _ h=>h) (by kernel_rfl) (by kernel_rfl) (fun _ _=>by kernel_rfl) hS0 ?_
 simp only[nn]
 refine gsem 2 (some 13) (.pointer (some ⟨T.t,0,none⟩)) rfl (by kernel_rfl) (by kernel_rfl) (by kernel_rfl) (fun _ _ _ h=>h) (by kernel_rfl) (by kernel_rfl) (fun _ _=>by kernel_rfl) hS0 ?_
 simp only[nn]
 refine gsem 3 (some 14) (.map (some T.m)) rfl (by kernel_rfl) (by kernel_rfl) (by kernel_rfl) (fun _ _ _ h=>h) (by kernel_rfl) (by kernel_rfl) (fun X hX=>ex_load1 167 isAgg167 rfl rfl (hX.1.tab) rfl) hS0 ?_
 simp only[nn]
 refine gsem 4 (some 15) (k.agg) rfl (by kernel_rfl) (by kernel_rfl) (by kernel_rfl) (fun _ _ _ h=>h) (by kernel_rfl) (by kernel_rfl) (fun X hX=>ex_loadN (vs:=k.cs) 42 2 row33x siz33 rfl rfl (hX.2.get 0 rfl) rfl rfl) hS0 ?_
 simp only[nn]
 refine gsem 5 (some 16) (.tuple #[pv (none), .bool false]) rfl (by kernel_rfl) (by kernel_rfl) (by kernel_rfl) (fun _ _ _ h=>h) (by kernel_rfl) (by kernel_rfl) (fun X hX=>ex_look (r:=none) rfl rfl rfl hX.1.map hk (by rw[hf];rfl)) hS0 ?_
 simp only[nn]
 refine gsem 6 (some 10) (.tuple #[pv (none), .bool false]) rfl (by kernel_rfl) (by kernel_rfl) (by kernel_rfl) (fun _ _ _ h=>h) (by kernel_rfl) (by kernel_rfl) (fun _ _=>by kernel_rfl) hS0 ?_
 simp only[nn]
 refine gsem 7 (some 17) (pv (none)) rfl (by kernel_rfl) (by kernel_rfl) (by kernel_rfl) (fun _ _ _ h=>h) (by kernel_rfl) (by kernel_rfl) (fun _ _=>by kernel_rfl) hS0 ?_
 simp only[nn]
 refine gsem 9 (some 7) (pv (none)) rfl (by kernel_rfl) (by kernel_rfl) (by kernel_rfl) (fun _ _ _ h=>h) (by kernel_rfl) (by kernel_rfl) (fun _ _=>by kernel_rfl) hS0 ?_
 simp only[nn]
 refine gsem 8 (some 18) (.bool false) rfl (by kernel_rfl) (by kernel_rfl) (by kernel_rfl) (fun _ _ _ h=>h) (by kernel_rfl) (by kernel_rfl) (fun _ _=>by kernel_rfl) hS0 ?_
 simp only[nn]
 refine gsem 10 (some 8) (.bool false) rfl (by kernel_rfl) (by kernel_rfl) (by kernel_rfl) (fun _ _ _ h=>h) (by kernel_rfl) (by kernel_rfl) (fun _ _=>by kernel_rfl) hS0 ?_
 simp only[nn]
 refine wpAnyH_done (by kernel_rfl) ?_ _
 try simp only[nn]
 replace HT:=hide hS0.1
 replace LL:=hide hS0.2
 clear hS0
 unfold pv
 go_wp2_with (first|go_skip|((refine rd rfl (ex_loadN (vs:=k.cs) 42 2 row33x siz33 rfl rfl ((uh LL).get 0 rfl) rfl rfl) ?_);simp only[nn]))
 refine(check12 k.s k.n _ (tabs_fr (uh HU) (uh LL).fr (uh hTT))).mono ?_
 rintro _ w4 ⟨rfl,hb⟩
 rw[show (kVal k.s k.n).good=goodK k from rfl,hg]
 replace HT:=hide ((uh HT).on hb)
 replace LL:=hide ((uh LL).on hb)
 clear hb
 simp only[Bool.false_eq_true,if_false]
 go_wp2_with (first|go_skip|((refine rd rfl (ex_loadN (vs:=k.cs) 42 2 row33x siz33 rfl rfl ((uh LL).get 0 rfl) rfl rfl) ?_);simp only[nn])|((refine rd rfl (ex_loadN (vs:=d.cs) 53 18 row39 siz39 rfl rfl ((uh LL).get 1 rfl) rfl rfl) ?_);simp only[nn])|((refine rd rfl (ex_build58 rfl rfl rfl) ?_);simp only[nn]))
 go_ret
 exact⟨rfl,T,uh HT,rfl,(uh LL).fr,(fun b hb=>Or.inl hb),Or.inr (Or.inr ⟨hf,hg,rfl⟩)⟩
theorem put12 (T:TT) (k:KK) (d:DD) (w:World) (hT:T.Is w) (hU:Lib.Utf8Tabs 4 5 w) (hk:OkK k) (hl:T.last<4000000) (hTT: ∀b∈T.blocks,6<=b):Calls prog 78 #[.pointer (some ⟨T.t,0,none⟩),k.agg,d.agg] w fun e w'=>e= .returned (.int .i64 (if goodK k then 0 else 5))/\ ∃T':TT,T'.Is w'/\T'.t=T.t/\Fr w w' T.blocks/\(∀b∈T'.blocks,b∈T.blocks∨w.heap.size<=b)/\((∃r,T.find k=some r/\T'=T.upd r.b d)∨(T.find k=none/\goodK k=true/\ ∃rv R,T'=T.added rv R k d)∨(T.find k=none/\goodK k=false/\T'=T)):=by
 by_cases hx:T.find k=none
 rotate_left
 ·obtain⟨r,hf⟩:=Option.ne_none_iff_exists'.1 hx
  have hg:goodK k=true:=by
   have h1:=T.find_mem hf
   rw[←h1.2.2]
   exact hT.good r (by simp[TT.live,h1.1,h1.2.1])
  rw[if_pos hg]
  have:=put_some T k d w hT hU hk hl r hf
  exact this
 ·have hf:=hx
  by_cases hg:goodK k=true
  ·rw[if_pos hg]
   have:=put_good T k d w hT hU hk hl (hide hTT) hf hg
   exact this
  ·rw[if_neg hg]
   have:=put_bad T k d w hT hU hk hl (hide hTT) hf (by simpa using hg)
   exact this
end
section
open Go Go.Proofs Go.RowKit FM Tryz
def Kr (w:World) (b:Nat) (l:List (Nat×PB)) (X:World):Prop:= ∃r,Kp w X ((b, .D r)::l)
theorem Kr.on {w X X1:World} {b:Nat} {l:List (Nat×PB)} (h:Kr w b l X) (hb:Below X.heap.size X X1):Kr w b l X1:=by
 obtain⟨r,hr⟩:=h
 exact⟨r,hr.on hb⟩
theorem Kp.of3 {w X:World} {p p2 p3:PB} (h:Lie w X [p,p2,p3]):Kp w X [(w.heap.size+2,p3),(w.heap.size,p),(w.heap.size+1,p2)]:=
 ⟨h.below,fun q hq=>by
  have hs:=h.size
  simp at hs hq
  rcases hq with rfl|rfl|rfl
  ·exact⟨Nat.le_add_right _ _,by show w.heap.size+2<X.heap.size;omega,h.holds.2.2.1⟩
  ·exact⟨Nat.le_refl _,by show w.heap.size<X.heap.size;omega,h.holds.1⟩
  ·exact⟨Nat.le_succ _,by show w.heap.size+1<X.heap.size;omega,h.holds.2.1⟩,by simp⟩
section
variable {md : Region.Mode} {ops : Array Oper} {Q : Exit → Act → World → Prop} {w0 w : World} {l : List (Nat × PB)} {rb : Nat} {fuel : Nat} {listed : Array Bool} {a : Act} {o : Oper}
theorem rtake (i:Nat) (dst:Option Tmp) (v:Value) (hi:ops[i]? =some o) (hs:Region.noSelect ops=true) (hf:Region.free md ops listed i=true) (hr:(Region.ready md ops listed).contains i=true)
  (hQ: ∀c a w,Q (.panic c) (a.put dst v) w->Q (.panic c) a w) (hd:o.dst=dst) (hy:YieldsIf prog ops (Kr w0 rb l) o v a)
  (hS:Kr w0 rb l w) (h:wpAnyH prog md ops Q (Kr w0 rb l) fuel (listed.setIfInBounds i true) (a.put dst v) w):wpAnyH prog md ops Q (Kr w0 rb l) (fuel+1) listed a w:=by
 subst hd
 exact wpAnyH_take hi hs hf hr hQ hy hS h
theorem rcall (i:Nat) (dst:Option Tmp) {f:FuncId} {args:Array Value} {V:Value} (hi:ops[i]? =some o) (hr:Region.ready md ops listed= [i]) (hd:o.dst=dst) (hw:Region.wanted o (yielded ops a.tmps)=true)
  (he:(execOp a.eval o).run prog w= .ok (.enter f args) w) (hC:Calls prog f args w fun e w'=>e= .returned V/\Below w.heap.size w w') (hS:Kr w0 rb l w)
  (h: ∀X,Kr w0 rb l X->wpAnyH prog md ops Q (Kr w0 rb l) fuel (listed.setIfInBounds i true) (a.put dst V) X):wpAnyH prog md ops Q (Kr w0 rb l) (fuel+1) listed a w:=by
 subst hd
 refine wpAnyH_ready hr (by simp) (AllReadyH.cons hi (fun K hK=> ?_) AllReadyH.nil)
 rw[if_pos hw]
 unfold Oper.wp
 rw[he,Oper.upon_enter]
 refine hC.mono ?_
 rintro _ X ⟨rfl,hb⟩
 exact hK.out _ _ (hS.on hb) (fun hX=>h X hX)
theorem rstore (i:Nat) {x y:Operand} {u:DD} (hi:ops[i]? =some o) (hr:Region.ready md ops listed= [i]) (hd:o.dst=none) (hw:Region.wanted o (yielded ops a.tmps)=true)
  (ho:o.op= .store 53 x y) (hx:a.eval x= .pointer (some ⟨rb,0,none⟩)) (hy:a.eval y=u.agg) (hS:Kr w0 rb l w)
  (h: ∀X,Kp w0 X ((rb, .D u)::l)->wpAnyH prog md ops Q (Kr w0 rb l) fuel (listed.setIfInBounds i true) (a.put none undef) X):wpAnyH prog md ops Q (Kr w0 rb l) (fuel+1) listed a w:=by
 obtain⟨r,hK0⟩:=hS
 rw[←hd] at h
 refine wpAnyH_ready hr (by simp) (AllReadyH.cons hi (fun K hK=> ?_) AllReadyH.nil)
 rw[if_pos hw]
 have hP:=hK0.put 0 (u:=u) rfl
 exact wp_store_mid 53 x y ho _ 0 u.cs.toArray hx hy (Lies.there (hK0.get 0 rfl)) info53 (by simp[DD.cs,Value.oneCell']) (hK.out _ _ ⟨u,hP⟩ (fun _=>h _ hP))
theorem ry24v (j:Nat) {x:Operand} {b:Nat} {d:DD} (hw:Region.wanted o (yielded ops a.tmps)=true) (ho:o.op= .load 35 x) (hx:a.eval x= .pointer (some ⟨b,0,none⟩)) (hl:l[j]? =some (b, .D d)):YieldsIf prog ops (Kr w0 rb l) o d.v.agg a:=by
 obtain⟨t,hu,hd⟩:=isrow24
 exact yieldsIf_load_mid hw 35 x ho b 0 hx d.v.cs t (fun X ⟨_,hX⟩=>Lies.rv (hX.get (j+1) hl)) hu hd info35'
theorem ry24g (j:Nat) {x:Operand} {b:Nat} {d:DD} (hw:Region.wanted o (yielded ops a.tmps)=true) (ho:o.op= .load 35 x) (hx:a.eval x= .pointer (some ⟨b,5,none⟩)) (hl:l[j]? =some (b, .D d)):YieldsIf prog ops (Kr w0 rb l) o d.g.agg a:=by
 obtain⟨t,hu,hd⟩:=isrow24
 exact yieldsIf_load_mid hw 35 x ho b 5 hx d.g.cs t (fun X ⟨_,hX⟩=>Lies.rg (hX.get (j+1) hl)) hu hd info35'
theorem ry24s (j:Nat) {x:Operand} {b:Nat} {d:DD} (hw:Region.wanted o (yielded ops a.tmps)=true) (ho:o.op= .load 35 x) (hx:a.eval x= .pointer (some ⟨b,10,none⟩)) (hl:l[j]? =some (b, .D d)):YieldsIf prog ops (Kr w0 rb l) o d.s.agg a:=by
 obtain⟨t,hu,hd⟩:=isrow24
 exact yieldsIf_load_mid hw 35 x ho b 10 hx d.s.cs t (fun X ⟨_,hX⟩=>Lies.rs (hX.get (j+1) hl)) hu hd info35'
theorem ry25w (j:Nat) {x:Operand} {b:Nat} {d:DD} (hw:Region.wanted o (yielded ops a.tmps)=true) (ho:o.op= .load 51 x) (hx:a.eval x= .pointer (some ⟨b,15,none⟩)) (hl:l[j]? =some (b, .D d)):YieldsIf prog ops (Kr w0 rb l) o (.int .i64 d.w) a:=by
 refine Or.inl ⟨hw,fun X hX=> ?_⟩
 obtain⟨_,hX⟩:=hX
 obtain⟨-,h0,h1,h2,h3,h4,h5,h6,h7,h8,h9,h10,h11,h12,h13,h14,h15,h16,h17⟩:=hX.get (j+1) hl
 unfold execOp
 simp only[ho,hx]
 simp[go_sem,h15,isAgg51]
theorem ry25e (j:Nat) {x:Operand} {b:Nat} {d:DD} (hw:Region.wanted o (yielded ops a.tmps)=true) (ho:o.op= .load 51 x) (hx:a.eval x= .pointer (some ⟨b,16,none⟩)) (hl:l[j]? =some (b, .D d)):YieldsIf prog ops (Kr w0 rb l) o (.int .i64 d.e) a:=by
 refine Or.inl ⟨hw,fun X hX=> ?_⟩
 obtain⟨_,hX⟩:=hX
 obtain⟨-,h0,h1,h2,h3,h4,h5,h6,h7,h8,h9,h10,h11,h12,h13,h14,h15,h16,h17⟩:=hX.get (j+1) hl
 unfold execOp
 simp only[ho,hx]
 simp[go_sem,h16,isAgg51]
theorem ry25c (j:Nat) {x:Operand} {b:Nat} {d:DD} (hw:Region.wanted o (yielded ops a.tmps)=true) (ho:o.op= .load 51 x) (hx:a.eval x= .pointer (some ⟨b,17,none⟩)) (hl:l[j]? =some (b, .D d)):YieldsIf prog ops (Kr w0 rb l) o (.int .i64 d.c) a:=by
 refine Or.inl ⟨hw,fun X hX=> ?_⟩
 obtain⟨_,hX⟩:=hX
 obtain⟨-,h0,h1,h2,h3,h4,h5,h6,h7,h8,h9,h10,h11,h12,h13,h14,h15,h16,h17⟩:=hX.get (j+1) hl
 unfold execOp
 simp only[ho,hx]
 simp[go_sem,h17,isAgg51]
end
theorem triOr_B (t a:Int) (w:World):Calls prog 114 #[.int .i64 t, .int .i64 a] w fun e w'=>e= .returned (.int .i64 (orT t a))/\Below w.heap.size w w':=
 (triOr_T t a w).mono fun e w' h=>⟨h.1,by rw[h.2];exact Below.refl _ _⟩
theorem become_any (n d:DD) (hn:FD n) (hd:FD d) (w:World):Calls prog 95 #[n.agg,d.agg] w fun e w'=>e= .returned (becV n d).agg/\Below w.heap.size w w':=by
 have HTu:=hide (turns_any n d hn hd)
 have HF:=hide (filled_any ⟨d.v,d.g,d.s,d.w,orT d.e n.e,orT d.c n.c⟩ ⟨hd.1,hd.2.1,hd.2.2⟩)
 have HOv:=hide (valueOr_any d.v n.v hd.1)
 have HOg:=hide (valueOr_any d.g n.g hd.2.1)
 have HOs:=hide (valueOr_any d.s n.s hd.2.2)
 clear hn hd
 have LL:=hide (Lie.new3 w (.D n) (.D d) (.D zeroD))
 unfold becV
 generalize turnV n d=tu at *
 generalize fillV ⟨d.v,d.g,d.s,d.w,orT d.e n.e,orT d.c n.c⟩=fd at *
 have hq0:=aggE n
 have hq1:=aggE d
 rw[hq0,hq1]
 clear hq0 hq1
 go_enter func95,ntmps95
 go_wp2_with (first|go_skip|((with_reducible apply load27);(case ho=>rfl);(case hw=>rfl);(case hx=>rfl);(case hc=>first|exact(uh LL).one|exact(uh LL).two|exact(uh LL).three);simp only[nn]))
 refine(uh HTu _).mono ?_
 rintro _ w11 ⟨rfl,hb⟩
 replace LL:=hide ((uh LL).on hb)
 clear hb
 cases tu
 ·go_wp2_with fail
  refine wp_region_held_drew (P:=prog) (S:=Kr w (w.heap.size+2) [(w.heap.size, .D n),(w.heap.size+1, .D d)]) (by kernel_rfl) (Kr.on ⟨zeroD,(Kp.of3 (uh LL)).drew⟩ (Below.refl _ _)) (fun hS0=> ?_)
  refine rtake 0 (some 22) (.pointer (some ⟨w.heap.size+1,0,none⟩)) rfl (by kernel_rfl) (by kernel_rfl) (by kernel_rfl) (fun _ _ _ h=>h) (by kernel_rfl) (Or.inl ⟨by kernel_rfl,fun _ _=>by kernel_rfl⟩) hS0 ?_
  simp only[nn]
  refine rtake 1 (some 23) d.v.agg rfl (by kernel_rfl) (by kernel_rfl) (by kernel_rfl) (fun _ _ _ h=>h) (by kernel_rfl) (ry24v 1 (x:= .tmp 22) (b:=w.heap.size+1) (d:=d) (by kernel_rfl) (by kernel_rfl) (by kernel_rfl) rfl) hS0 ?_
  simp only[nn]
  refine rtake 2 (some 24) (.pointer (some ⟨w.heap.size,0,none⟩)) rfl (by kernel_rfl) (by kernel_rfl) (by kernel_rfl) (fun _ _ _ h=>h) (by kernel_rfl) (Or.inl ⟨by kernel_rfl,fun _ _=>by kernel_rfl⟩) hS0 ?_
  simp only[nn]
  refine rtake 3 (some 25) n.v.agg rfl (by kernel_rfl) (by kernel_rfl) (by kernel_rfl) (fun _ _ _ h=>h) (by kernel_rfl) (ry24v 0 (x:= .tmp 24) (b:=w.heap.size) (d:=n) (by kernel_rfl) (by kernel_rfl) (by kernel_rfl) rfl) hS0 ?_
  simp only[nn]
  refine rtake 5 (some 27) (.pointer (some ⟨w.heap.size+1,5,none⟩)) rfl (by kernel_rfl) (by kernel_rfl) (by kernel_rfl) (fun _ _ _ h=>h) (by kernel_rfl) (Or.inl ⟨by kernel_rfl,fun _ _=>by kernel_rfl⟩) hS0 ?_
  simp only[nn]
  refine rtake 6 (some 28) d.g.agg rfl (by kernel_rfl) (by kernel_rfl) (by kernel_rfl) (fun _ _ _ h=>h) (by kernel_rfl) (ry24g 1 (x:= .tmp 27) (b:=w.heap.size+1) (d:=d) (by kernel_rfl) (by kernel_rfl) (by kernel_rfl) rfl) hS0 ?_
  simp only[nn]
  refine rtake 7 (some 29) (.pointer (some ⟨w.heap.size,5,none⟩)) rfl (by kernel_rfl) (by kernel_rfl) (by kernel_rfl) (fun _ _ _ h=>h) (by kernel_rfl) (Or.inl ⟨by kernel_rfl,fun _ _=>by kernel_rfl⟩) hS0 ?_
  simp only[nn]
  refine rtake 8 (some 30) n.g.agg rfl (by kernel_rfl) (by kernel_rfl) (by kernel_rfl) (fun _ _ _ h=>h) (by kernel_rfl) (ry24g 0 (x:= .tmp 29) (b:=w.heap.size) (d:=n) (by kernel_rfl) (by kernel_rfl) (by kernel_rfl) rfl) hS0 ?_
  simp only[nn]
  refine rtake 10 (some 32) (.pointer (some ⟨w.heap.size+1,10,none⟩)) rfl (by kernel_rfl) (by kernel_rfl) (by kernel_rfl) (fun _ _ _ h=>h) (by kernel_rfl) (Or.inl ⟨by kernel_rfl,fun _ _=>by kernel_rfl⟩) hS0 ?_
  simp only[nn]
  refine rtake 11 (some 33) d.s.agg rfl (by kernel_rfl) (by kernel_rfl) (by kernel_rfl) (fun _ _ _ h=>h) (by kernel_rfl) (ry24s 1 (x:= .tmp 32) (b:=w.heap.size+1) (d:=d) (by kernel_rfl) (by kernel_rfl) (by kernel_rfl) rfl) hS0 ?_
  simp only[nn]
  refine rtake 12 (some 34) (.pointer (some ⟨w.heap.size,10,none⟩)) rfl (by kernel_rfl) (by kernel_rfl) (by kernel_rfl) (fun _ _ _ h=>h) (by kernel_rfl) (Or.inl ⟨by kernel_rfl,fun _ _=>by kernel_rfl⟩) hS0 ?_
  simp only[nn]
  refine rtake 13 (some 35) n.s.agg rfl (by kernel_rfl) (by kernel_rfl) (by kernel_rfl) (fun _ _ _ h=>h) (by kernel_rfl) (ry24s 0 (x:= .tmp 34) (b:=w.heap.size) (d:=n) (by kernel_rfl) (by kernel_rfl) (by kernel_rfl) rfl) hS0 ?_
  simp only[nn]
  refine rtake 15 (some 37) (.pointer (some ⟨w.heap.size+1,15,none⟩)) rfl (by kernel_rfl) (by kernel_rfl) (by kernel_rfl) (fun _ _ _ h=>h) (by kernel_rfl) (Or.inl ⟨by kernel_rfl,fun _ _=>by kernel_rfl⟩) hS0 ?_
  simp only[nn]
  refine rtake 16 (some 38) (.int .i64 d.w) rfl (by kernel_rfl) (by kernel_rfl) (by kernel_rfl) (fun _ _ _ h=>h) (by kernel_rfl) (ry25w 1 (x:= .tmp 37) (b:=w.heap.size+1) (d:=d) (by kernel_rfl) (by kernel_rfl) (by kernel_rfl) rfl) hS0 ?_
  simp only[nn]
  refine rtake 17 (some 39) (.pointer (some ⟨w.heap.size,15,none⟩)) rfl (by kernel_rfl) (by kernel_rfl) (by kernel_rfl) (fun _ _ _ h=>h) (by kernel_rfl) (Or.inl ⟨by kernel_rfl,fun _ _=>by kernel_rfl⟩) hS0 ?_
  simp only[nn]
  refine rtake 18 (some 40) (.int .i64 n.w) rfl (by kernel_rfl) (by kernel_rfl) (by kernel_rfl) (fun _ _ _ h=>h) (by kernel_rfl) (ry25w 0 (x:= .tmp 39) (b:=w.heap.size) (d:=n) (by kernel_rfl) (by kernel_rfl) (by kernel_rfl) rfl) hS0 ?_
  simp only[nn]
  refine rtake 20 (some 42) (.pointer (some ⟨w.heap.size+1,16,none⟩)) rfl (by kernel_rfl) (by kernel_rfl) (by kernel_rfl) (fun _ _ _ h=>h) (by kernel_rfl) (Or.inl ⟨by kernel_rfl,fun _ _=>by kernel_rfl⟩) hS0 ?_
  simp only[nn]
  refine rtake 21 (some 43) (.int .i64 d.e) rfl (by kernel_rfl) (by kernel_rfl) (by kernel_rfl) (fun _ _ _ h=>h) (by kernel_rfl) (ry25e 1 (x:= .tmp 42) (b:=w.heap.size+1) (d:=d) (by kernel_rfl) (by kernel_rfl) (by kernel_rfl) rfl) hS0 ?_
  simp only[nn]
  refine rtake 22 (some 44) (.pointer (some ⟨w.heap.size,16,none⟩)) rfl (by kernel_rfl) (by kernel_rfl) (by kernel_rfl) (fun _ _ _ h=>h) (by kernel_rfl) (Or.inl ⟨by kernel_rfl,fun _ _=>by kernel_rfl⟩) hS0 ?_
  simp only[nn]
  refine rtake 23 (some 45) (.int .i64 n.e) rfl (by kernel_rfl) (by kernel_rfl) (by kernel_rfl) (fun _ _ _ h=>h) (by kernel_rfl) (ry25e 0 (x:= .tmp 44) (b:=w.heap.size) (d:=n) (by kernel_rfl) (by kernel_rfl) (by kernel_rfl) rfl) hS0 ?_
  simp only[nn]
  refine rtake 25 (some 47) (.pointer (some ⟨w.heap.size+1,17,none⟩)) rfl (by kernel_rfl) (by kernel_rfl) (by kernel_rfl) (fun _ _ _ h=>h) (by kernel_rfl) (Or.inl ⟨by kernel_rfl,fun _ _=>by kernel_rfl⟩) hS0 ?_
  simp only[nn]
  refine rtake 26 (some 48) (.int .i64 d.c) rfl (by kernel_rfl) (by kernel_rfl) (by kernel_rfl) (fun _ _ _ h=>h) (by kernel_rfl) (ry25c 1 (x:= .tmp 47) (b:=w.heap.size+1) (d:=d) (by kernel_rfl) (by kernel_rfl) (by kernel_rfl) rfl) hS0 ?_
  simp only[nn]
  refine rtake 27 (some 49) (.pointer (some ⟨w.heap.size,17,none⟩)) rfl (by kernel_rfl) (by kernel_rfl) (by kernel_rfl) (fun _ _ _ h=>h) (by kernel_rfl) (Or.inl ⟨by kernel_rfl,fun _ _=>by kernel_rfl⟩) hS0 ?_
  simp only[nn]
  refine rtake 28 (some 50) (.int .i64 n.c) rfl (by kernel_rfl) (by kernel_rfl) (by kernel_rfl) (fun _ _ _ h=>h) (by kernel_rfl) (ry25c 0 (x:= .tmp 49) (b:=w.heap.size) (d:=n) (by kernel_rfl) (by kernel_rfl) (by kernel_rfl) rfl) hS0 ?_
  simp only[nn]
  refine rcall 4 (some 26) rfl (by kernel_rfl) (by kernel_rfl) (by kernel_rfl) (by kernel_rfl) (uh HOv _) hS0 (fun w1 hS1=> ?_)
  clear hS0
  simp only[nn]
  refine rcall 9 (some 31) rfl (by kernel_rfl) (by kernel_rfl) (by kernel_rfl) (by kernel_rfl) (uh HOg _) hS1 (fun w2 hS2=> ?_)
  clear hS1
  simp only[nn]
  refine rcall 14 (some 36) rfl (by kernel_rfl) (by kernel_rfl) (by kernel_rfl) (by kernel_rfl) (uh HOs _) hS2 (fun w3 hS3=> ?_)
  clear hS2
  simp only[nn]
  refine rcall 19 (some 41) rfl (by kernel_rfl) (by kernel_rfl) (by kernel_rfl) (by kernel_rfl) (triOr_B d.w n.w _) hS3 (fun w4 hS4=> ?_)
  clear hS3
  simp only[nn]
  refine rcall 24 (some 46) rfl (by kernel_rfl) (by kernel_rfl) (by kernel_rfl) (by kernel_rfl) (triOr_B d.e n.e _) hS4 (fun w5 hS5=> ?_)
  clear hS4
  simp only[nn]
  refine rcall 29 (some 51) rfl (by kernel_rfl) (by kernel_rfl) (by kernel_rfl) (by kernel_rfl) (triOr_B d.c n.c _) hS5 (fun w6 hS6=> ?_)
  clear hS5
  simp only[nn]
  refine rtake 30 (some 52) (DD.agg ⟨orV d.v n.v,orV d.g n.g,orV d.s n.s,orT d.w n.w,orT d.e n.e,orT d.c n.c⟩) rfl (by kernel_rfl) (by kernel_rfl) (by kernel_rfl) (fun _ _ _ h=>h) (by kernel_rfl) (Or.inl ⟨by kernel_rfl,fun _ _=>by kernel_rfl⟩) hS6 ?_
  simp only[nn]
  refine rstore 31 (x:= .tmp 4) (y:= .tmp 52) (u:=⟨orV d.v n.v,orV d.g n.g,orV d.s n.s,orT d.w n.w,orT d.e n.e,orT d.c n.c⟩) rfl (by kernel_rfl) (by kernel_rfl) (by kernel_rfl) (by kernel_rfl) (by kernel_rfl) (by kernel_rfl) hS6 (fun w7 hK=> ?_)
  clear hS6
  try simp only[nn]
  refine wpAnyH_done (by kernel_rfl) ?_ _
  go_wp2_with fail
  refine ret27 rfl rfl rfl (hK.get 0 rfl) ?_
  exact⟨rfl,hK.below⟩
 ·go_wp2_with (first|go_skip|((with_reducible apply load27);(case ho=>rfl);(case hw=>rfl);(case hx=>rfl);(case hc=>first|exact(uh LL).one|exact(uh LL).two|exact(uh LL).three);simp only[nn])|((with_reducible apply load25e);(case ho=>rfl);(case hw=>rfl);(case hx=>rfl);(case hc=>first|exact(uh LL).one|exact(uh LL).two|exact(uh LL).three);simp only[nn])|((with_reducible apply load25c);(case ho=>rfl);(case hw=>rfl);(case hx=>rfl);(case hc=>first|exact(uh LL).one|exact(uh LL).two|exact(uh LL).three);simp only[nn])|((with_reducible apply store25e 1);(case ho=>rfl);(case hw=>rfl);(case hL=>exact uh LL);(case hi=>rfl);(case hx=>rfl);(case hy=>rfl);(intro X LX;simp only[nn];replace LL:=hide LX;clear LX))|((with_reducible apply store25c 1);(case ho=>rfl);(case hw=>rfl);(case hL=>exact uh LL);(case hi=>rfl);(case hx=>rfl);(case hy=>rfl);(intro X LX;simp only[nn];replace LL:=hide LX;clear LX))|((with_reducible apply store27 2);(case ho=>rfl);(case hw=>rfl);(case hL=>exact uh LL);(case hi=>rfl);(case hx=>rfl);(case hy=>rfl);(intro X LX;simp only[nn];replace LL:=hide LX;clear LX))|(go_at_call 114;refine(triOr_T _ _ _).mono ?_;rintro _ _ ⟨rfl,rfl⟩))
  refine(uh HF _).mono ?_
  rintro _ w11 ⟨rfl,hb⟩
  replace LL:=hide ((uh LL).on hb)
  clear hb
  go_wp2_with (first|go_skip|((with_reducible apply load27);(case ho=>rfl);(case hw=>rfl);(case hx=>rfl);(case hc=>first|exact(uh LL).one|exact(uh LL).two|exact(uh LL).three);simp only[nn])|((with_reducible apply load25e);(case ho=>rfl);(case hw=>rfl);(case hx=>rfl);(case hc=>first|exact(uh LL).one|exact(uh LL).two|exact(uh LL).three);simp only[nn])|((with_reducible apply load25c);(case ho=>rfl);(case hw=>rfl);(case hx=>rfl);(case hc=>first|exact(uh LL).one|exact(uh LL).two|exact(uh LL).three);simp only[nn])|((with_reducible apply store25e 1);(case ho=>rfl);(case hw=>rfl);(case hL=>exact uh LL);(case hi=>rfl);(case hx=>rfl);(case hy=>rfl);(intro X LX;simp only[nn];replace LL:=hide LX;clear LX))|((with_reducible apply store25c 1);(case ho=>rfl);(case hw=>rfl);(case hL=>exact uh LL);(case hi=>rfl);(case hx=>rfl);(case hy=>rfl);(intro X LX;simp only[nn];replace LL:=hide LX;clear LX))|((with_reducible apply store27 2);(case ho=>rfl);(case hw=>rfl);(case hL=>exact uh LL);(case hi=>rfl);(case hx=>rfl);(case hy=>rfl);(intro X LX;simp only[nn];replace LL:=hide LX;clear LX))|(go_at_call 114;refine(triOr_T _ _ _).mono ?_;rintro _ _ ⟨rfl,rfl⟩))
  refine ret27 rfl rfl rfl (uh LL).three ?_
  exact⟨rfl,(uh LL).below⟩
def appD (x:Bool) (n d:DD):DD:=if kindV d==0|| !stV n then zeroD else if noV n then (if x then fillV d else zeroD) else if n.c==1 && forbV n d then n else becV n d
def appB (x:Bool) (n d:DD):Bool:=if kindV d==0|| !stV n then false else if noV n then x else !(n.c==1 && forbV n d)
def appE (n d:DD):Int:=if kindV d==0|| !stV n then 5 else 0
theorem no_str {n:DD} (h:noV n=true):n.v.s.size<=1048576:=by
 refine none_str ?_
 unfold noV shapeV at h
 cases ht:thV n.v
 ·rfl
 ·rw[ht] at h
  simp at h
  split at h<;>simp_all
theorem st_str {n:DD} (h:stV n=true):n.v.s.size<=1048576:=by
 unfold stV at h
 simp only[Bool.or_eq_true] at h
 rcases h with h|h
 ·exact no_str h
 ·exact sound_str (kind_sound (whole_kind h))
theorem bec_str {n d:DD} (h1:n.v.s.size<=1048576) (h2:d.v.s.size<=1048576):(becV n d).v.s.size<=1048576:=by
 unfold becV
 cases turnV n d
 ·show (orV d.v n.v).s.size<=1048576
  unfold orV
  cases thV d.v
  ·exact h1
  ·exact h2
 ·exact fill_str h2
theorem apply_any (x:Bool) (n d:DD) (hn:FD n) (hd:FD d) (w:World) (hT:Lib.Utf8Tabs 4 5 w):Calls prog 77 #[.bool x,n.agg,d.agg] w fun e w'=>e= .returned (.tuple #[(appD x n d).agg, .bool (appB x n d), .int .i64 (appE n d)])/\Below w.heap.size w w':=by
 have HT:=hide hT
 clear hT
 have HC:=hide (fun w hT=>check12D d hd w hT)
 have HSt:=hide (fun w hT=>stands_any n hn w hT)
 have HNo:=hide (nothing_any n hn)
 have HFi:=hide (filled_any d hd)
 have HFb:=hide (fun w hT=>forbidden_any n d hn hd w hT)
 have HBe:=hide (become_any n d hn hd)
 have HAf:=hide (fun (h: ¬kindV d=0) w=>anew_any (fillV d) (fill_str (sound_str (kind_sound h))) w)
 have HAn:=hide (fun (h:stV n=true) w=>anew_any n (st_str h) w)
 have HAb:=hide (fun (h: ¬kindV d=0) (h2:stV n=true) w=>anew_any (becV n d) (bec_str (st_str h2) (sound_str (kind_sound h))) w)
 clear hn hd
 have LL:=hide (Lie.new3 w (.D n) (.D d) (.D zeroD))
 unfold appD appB appE
 unfold chkV at HC
 generalize kindV d=k at *
 generalize stV n=st at *
 generalize noV n=no at *
 generalize fillV d=fd at *
 generalize forbV n d=fb at *
 generalize becV n d=be at *
 generalize hq:(n.c==1)=q at *
 have hq0:=aggE n
 have hq1:=aggE d
 rw[hq0,hq1]
 clear hq0 hq1
 by_cases hk:k=0
 ·clear HAf HAb HAn
  subst hk
  go_enter func77,ntmps77
  go_wp2_with (first|go_skip|((with_reducible apply load27);(case ho=>rfl);(case hw=>rfl);(case hx=>rfl);(case hc=>first|exact(uh LL).one|exact(uh LL).two);simp only[nn])|((with_reducible apply store27 (u:=zeroD) 2);(case ho=>rfl);(case hw=>rfl);(case hL=>exact uh LL);(case hi=>rfl);(case hx=>rfl);(case hy=>rfl);(intro X LX;simp only[nn];replace LL:=hide LX;clear LX)))
  refine(uh HC _ (tabs_below (uh HT) (uh LL).below)).mono ?_
  rintro _ w11 ⟨rfl,hb⟩
  replace LL:=hide ((uh LL).on hb)
  clear hb
  go_wp2_with (first|go_skip|((with_reducible apply load27);(case ho=>rfl);(case hw=>rfl);(case hx=>rfl);(case hc=>first|exact(uh LL).one|exact(uh LL).two);simp only[nn])|((with_reducible apply store27 (u:=zeroD) 2);(case ho=>rfl);(case hw=>rfl);(case hL=>exact uh LL);(case hi=>rfl);(case hx=>rfl);(case hy=>rfl);(intro X LX;simp only[nn];replace LL:=hide LX;clear LX)))
  refine ret27_2 rfl rfl rfl rfl rfl (uh LL).three ?_
  exact⟨rfl,(uh LL).below⟩
 ·have e0:(k==0)=false:=by simp[hk]
  simp only[e0] at HC ⊢
  replace HAf:=hide (uh HAf hk)
  replace HAb:=hide (uh HAb hk)
  clear hk e0
  cases st
  ·clear HAn HAb
   go_enter func77,ntmps77
   go_wp2_with (first|go_skip|((with_reducible apply load27);(case ho=>rfl);(case hw=>rfl);(case hx=>rfl);(case hc=>first|exact(uh LL).one|exact(uh LL).two);simp only[nn])|((with_reducible apply store27 (u:=zeroD) 2);(case ho=>rfl);(case hw=>rfl);(case hL=>exact uh LL);(case hi=>rfl);(case hx=>rfl);(case hy=>rfl);(intro X LX;simp only[nn];replace LL:=hide LX;clear LX)))
   refine(uh HC _ (tabs_below (uh HT) (uh LL).below)).mono ?_
   rintro _ w12 ⟨rfl,hb⟩
   replace LL:=hide ((uh LL).on hb)
   clear hb
   go_wp2_with (first|go_skip|((with_reducible apply load27);(case ho=>rfl);(case hw=>rfl);(case hx=>rfl);(case hc=>first|exact(uh LL).one|exact(uh LL).two);simp only[nn])|((with_reducible apply store27 (u:=zeroD) 2);(case ho=>rfl);(case hw=>rfl);(case hL=>exact uh LL);(case hi=>rfl);(case hx=>rfl);(case hy=>rfl);(intro X LX;simp only[nn];replace LL:=hide LX;clear LX)))
   refine(uh HSt _ (tabs_below (uh HT) (uh LL).below)).mono ?_
   rintro _ w13 ⟨rfl,hb⟩
   replace LL:=hide ((uh LL).on hb)
   clear hb
   go_wp2_with (first|go_skip|((with_reducible apply load27);(case ho=>rfl);(case hw=>rfl);(case hx=>rfl);(case hc=>first|exact(uh LL).one|exact(uh LL).two);simp only[nn])|((with_reducible apply store27 (u:=zeroD) 2);(case ho=>rfl);(case hw=>rfl);(case hL=>exact uh LL);(case hi=>rfl);(case hx=>rfl);(case hy=>rfl);(intro X LX;simp only[nn];replace LL:=hide LX;clear LX)))
   refine ret27_2 rfl rfl rfl rfl rfl (uh LL).three ?_
   exact⟨rfl,(uh LL).below⟩
  ·replace HAn:=hide (uh HAn rfl)
   replace HAb:=hide (uh HAb rfl)
   cases no
   ·go_enter func77,ntmps77
    go_wp2_with (first|go_skip|((with_reducible apply load27);(case ho=>rfl);(case hw=>rfl);(case hx=>rfl);(case hc=>first|exact(uh LL).one|exact(uh LL).two);simp only[nn])|((with_reducible apply load25c);(case ho=>rfl);(case hw=>rfl);(case hx=>rfl);(case hc=>first|exact(uh LL).one|exact(uh LL).two);simp only[nn])|((with_reducible apply store27 2);(case ho=>rfl);(case hw=>rfl);(case hL=>exact uh LL);(case hi=>rfl);(case hx=>rfl);(case hy=>rfl);(intro X LX;simp only[nn];replace LL:=hide LX;clear LX)))
    refine(uh HC _ (tabs_below (uh HT) (uh LL).below)).mono ?_
    rintro _ w17 ⟨rfl,hb⟩
    replace LL:=hide ((uh LL).on hb)
    clear hb
    go_wp2_with (first|go_skip|((with_reducible apply load27);(case ho=>rfl);(case hw=>rfl);(case hx=>rfl);(case hc=>first|exact(uh LL).one|exact(uh LL).two);simp only[nn])|((with_reducible apply load25c);(case ho=>rfl);(case hw=>rfl);(case hx=>rfl);(case hc=>first|exact(uh LL).one|exact(uh LL).two);simp only[nn])|((with_reducible apply store27 2);(case ho=>rfl);(case hw=>rfl);(case hL=>exact uh LL);(case hi=>rfl);(case hx=>rfl);(case hy=>rfl);(intro X LX;simp only[nn];replace LL:=hide LX;clear LX)))
    refine(uh HSt _ (tabs_below (uh HT) (uh LL).below)).mono ?_
    rintro _ w18 ⟨rfl,hb⟩
    replace LL:=hide ((uh LL).on hb)
    clear hb
    go_wp2_with (first|go_skip|((with_reducible apply load27);(case ho=>rfl);(case hw=>rfl);(case hx=>rfl);(case hc=>first|exact(uh LL).one|exact(uh LL).two);simp only[nn])|((with_reducible apply load25c);(case ho=>rfl);(case hw=>rfl);(case hx=>rfl);(case hc=>first|exact(uh LL).one|exact(uh LL).two);simp only[nn])|((with_reducible apply store27 2);(case ho=>rfl);(case hw=>rfl);(case hL=>exact uh LL);(case hi=>rfl);(case hx=>rfl);(case hy=>rfl);(intro X LX;simp only[nn];replace LL:=hide LX;clear LX)))
    refine(uh HNo _).mono ?_
    rintro _ w19 ⟨rfl,hb⟩
    replace LL:=hide ((uh LL).on hb)
    clear hb
    go_wp2_with (first|go_skip|((with_reducible apply load27);(case ho=>rfl);(case hw=>rfl);(case hx=>rfl);(case hc=>first|exact(uh LL).one|exact(uh LL).two);simp only[nn])|((with_reducible apply load25c);(case ho=>rfl);(case hw=>rfl);(case hx=>rfl);(case hc=>first|exact(uh LL).one|exact(uh LL).two);simp only[nn])|((with_reducible apply store27 2);(case ho=>rfl);(case hw=>rfl);(case hL=>exact uh LL);(case hi=>rfl);(case hx=>rfl);(case hy=>rfl);(intro X LX;simp only[nn];replace LL:=hide LX;clear LX)))
    refine(uh HNo _).mono ?_
    rintro _ w20 ⟨rfl,hb⟩
    replace LL:=hide ((uh LL).on hb)
    clear hb
    cases q
    ·go_wp2_with (first|go_skip|((with_reducible apply load27);(case ho=>rfl);(case hw=>rfl);(case hx=>rfl);(case hc=>first|exact(uh LL).one|exact(uh LL).two);simp only[nn])|((with_reducible apply load25c);(case ho=>rfl);(case hw=>rfl);(case hx=>rfl);(case hc=>first|exact(uh LL).one|exact(uh LL).two);simp only[nn])|((with_reducible apply store27 2);(case ho=>rfl);(case hw=>rfl);(case hL=>exact uh LL);(case hi=>rfl);(case hx=>rfl);(case hy=>rfl);(intro X LX;simp only[nn];replace LL:=hide LX;clear LX)))
     refine(uh HBe _).mono ?_
     rintro _ w21 ⟨rfl,hb⟩
     replace LL:=hide ((uh LL).on hb)
     clear hb
     go_wp2_with (first|go_skip|((with_reducible apply load27);(case ho=>rfl);(case hw=>rfl);(case hx=>rfl);(case hc=>first|exact(uh LL).one|exact(uh LL).two);simp only[nn])|((with_reducible apply load25c);(case ho=>rfl);(case hw=>rfl);(case hx=>rfl);(case hc=>first|exact(uh LL).one|exact(uh LL).two);simp only[nn])|((with_reducible apply store27 2);(case ho=>rfl);(case hw=>rfl);(case hL=>exact uh LL);(case hi=>rfl);(case hx=>rfl);(case hy=>rfl);(intro X LX;simp only[nn];replace LL:=hide LX;clear LX)))
     refine(uh HAb _).mono ?_
     rintro _ w22 ⟨rfl,hb⟩
     replace LL:=hide ((uh LL).on hb)
     clear hb
     go_wp2_with (first|go_skip|((with_reducible apply load27);(case ho=>rfl);(case hw=>rfl);(case hx=>rfl);(case hc=>first|exact(uh LL).one|exact(uh LL).two);simp only[nn])|((with_reducible apply load25c);(case ho=>rfl);(case hw=>rfl);(case hx=>rfl);(case hc=>first|exact(uh LL).one|exact(uh LL).two);simp only[nn])|((with_reducible apply store27 2);(case ho=>rfl);(case hw=>rfl);(case hL=>exact uh LL);(case hi=>rfl);(case hx=>rfl);(case hy=>rfl);(intro X LX;simp only[nn];replace LL:=hide LX;clear LX)))
     refine ret27_2 rfl rfl rfl rfl rfl (uh LL).three ?_
     exact⟨rfl,(uh LL).below⟩
    ·go_wp2_with (first|go_skip|((with_reducible apply load27);(case ho=>rfl);(case hw=>rfl);(case hx=>rfl);(case hc=>first|exact(uh LL).one|exact(uh LL).two);simp only[nn])|((with_reducible apply load25c);(case ho=>rfl);(case hw=>rfl);(case hx=>rfl);(case hc=>first|exact(uh LL).one|exact(uh LL).two);simp only[nn])|((with_reducible apply store27 2);(case ho=>rfl);(case hw=>rfl);(case hL=>exact uh LL);(case hi=>rfl);(case hx=>rfl);(case hy=>rfl);(intro X LX;simp only[nn];replace LL:=hide LX;clear LX)))
     refine(uh HFb _ (tabs_below (uh HT) (uh LL).below)).mono ?_
     rintro _ w23 ⟨rfl,hb⟩
     replace LL:=hide ((uh LL).on hb)
     clear hb
     cases fb
     ·go_wp2_with (first|go_skip|((with_reducible apply load27);(case ho=>rfl);(case hw=>rfl);(case hx=>rfl);(case hc=>first|exact(uh LL).one|exact(uh LL).two);simp only[nn])|((with_reducible apply load25c);(case ho=>rfl);(case hw=>rfl);(case hx=>rfl);(case hc=>first|exact(uh LL).one|exact(uh LL).two);simp only[nn])|((with_reducible apply store27 2);(case ho=>rfl);(case hw=>rfl);(case hL=>exact uh LL);(case hi=>rfl);(case hx=>rfl);(case hy=>rfl);(intro X LX;simp only[nn];replace LL:=hide LX;clear LX)))
      refine(uh HBe _).mono ?_
      rintro _ w24 ⟨rfl,hb⟩
      replace LL:=hide ((uh LL).on hb)
      clear hb
      go_wp2_with (first|go_skip|((with_reducible apply load27);(case ho=>rfl);(case hw=>rfl);(case hx=>rfl);(case hc=>first|exact(uh LL).one|exact(uh LL).two);simp only[nn])|((with_reducible apply load25c);(case ho=>rfl);(case hw=>rfl);(case hx=>rfl);(case hc=>first|exact(uh LL).one|exact(uh LL).two);simp only[nn])|((with_reducible apply store27 2);(case ho=>rfl);(case hw=>rfl);(case hL=>exact uh LL);(case hi=>rfl);(case hx=>rfl);(case hy=>rfl);(intro X LX;simp only[nn];replace LL:=hide LX;clear LX)))
      refine(uh HAb _).mono ?_
      rintro _ w25 ⟨rfl,hb⟩
      replace LL:=hide ((uh LL).on hb)
      clear hb
      go_wp2_with (first|go_skip|((with_reducible apply load27);(case ho=>rfl);(case hw=>rfl);(case hx=>rfl);(case hc=>first|exact(uh LL).one|exact(uh LL).two);simp only[nn])|((with_reducible apply load25c);(case ho=>rfl);(case hw=>rfl);(case hx=>rfl);(case hc=>first|exact(uh LL).one|exact(uh LL).two);simp only[nn])|((with_reducible apply store27 2);(case ho=>rfl);(case hw=>rfl);(case hL=>exact uh LL);(case hi=>rfl);(case hx=>rfl);(case hy=>rfl);(intro X LX;simp only[nn];replace LL:=hide LX;clear LX)))
      refine ret27_2 rfl rfl rfl rfl rfl (uh LL).three ?_
      exact⟨rfl,(uh LL).below⟩
     ·go_wp2_with (first|go_skip|((with_reducible apply load27);(case ho=>rfl);(case hw=>rfl);(case hx=>rfl);(case hc=>first|exact(uh LL).one|exact(uh LL).two);simp only[nn])|((with_reducible apply load25c);(case ho=>rfl);(case hw=>rfl);(case hx=>rfl);(case hc=>first|exact(uh LL).one|exact(uh LL).two);simp only[nn])|((with_reducible apply store27 2);(case ho=>rfl);(case hw=>rfl);(case hL=>exact uh LL);(case hi=>rfl);(case hx=>rfl);(case hy=>rfl);(intro X LX;simp only[nn];replace LL:=hide LX;clear LX)))
      refine(uh HAn _).mono ?_
      rintro _ w26 ⟨rfl,hb⟩
      replace LL:=hide ((uh LL).on hb)
      clear hb
      go_wp2_with (first|go_skip|((with_reducible apply load27);(case ho=>rfl);(case hw=>rfl);(case hx=>rfl);(case hc=>first|exact(uh LL).one|exact(uh LL).two);simp only[nn])|((with_reducible apply load25c);(case ho=>rfl);(case hw=>rfl);(case hx=>rfl);(case hc=>first|exact(uh LL).one|exact(uh LL).two);simp only[nn])|((with_reducible apply store27 2);(case ho=>rfl);(case hw=>rfl);(case hL=>exact uh LL);(case hi=>rfl);(case hx=>rfl);(case hy=>rfl);(intro X LX;simp only[nn];replace LL:=hide LX;clear LX)))
      refine ret27_2 rfl rfl rfl rfl rfl (uh LL).three ?_
      exact⟨rfl,(uh LL).below⟩
   ·cases x
    ·go_enter func77,ntmps77
     go_wp2_with (first|go_skip|((with_reducible apply load27);(case ho=>rfl);(case hw=>rfl);(case hx=>rfl);(case hc=>first|exact(uh LL).one|exact(uh LL).two);simp only[nn])|((with_reducible apply store27 (u:=zeroD) 2);(case ho=>rfl);(case hw=>rfl);(case hL=>exact uh LL);(case hi=>rfl);(case hx=>rfl);(case hy=>rfl);(intro X LX;simp only[nn];replace LL:=hide LX;clear LX)))
     refine(uh HC _ (tabs_below (uh HT) (uh LL).below)).mono ?_
     rintro _ w14 ⟨rfl,hb⟩
     replace LL:=hide ((uh LL).on hb)
     clear hb
     go_wp2_with (first|go_skip|((with_reducible apply load27);(case ho=>rfl);(case hw=>rfl);(case hx=>rfl);(case hc=>first|exact(uh LL).one|exact(uh LL).two);simp only[nn])|((with_reducible apply store27 (u:=zeroD) 2);(case ho=>rfl);(case hw=>rfl);(case hL=>exact uh LL);(case hi=>rfl);(case hx=>rfl);(case hy=>rfl);(intro X LX;simp only[nn];replace LL:=hide LX;clear LX)))
     refine(uh HSt _ (tabs_below (uh HT) (uh LL).below)).mono ?_
     rintro _ w15 ⟨rfl,hb⟩
     replace LL:=hide ((uh LL).on hb)
     clear hb
     go_wp2_with (first|go_skip|((with_reducible apply load27);(case ho=>rfl);(case hw=>rfl);(case hx=>rfl);(case hc=>first|exact(uh LL).one|exact(uh LL).two);simp only[nn])|((with_reducible apply store27 (u:=zeroD) 2);(case ho=>rfl);(case hw=>rfl);(case hL=>exact uh LL);(case hi=>rfl);(case hx=>rfl);(case hy=>rfl);(intro X LX;simp only[nn];replace LL:=hide LX;clear LX)))
     refine(uh HNo _).mono ?_
     rintro _ w16 ⟨rfl,hb⟩
     replace LL:=hide ((uh LL).on hb)
     clear hb
     go_wp2_with (first|go_skip|((with_reducible apply load27);(case ho=>rfl);(case hw=>rfl);(case hx=>rfl);(case hc=>first|exact(uh LL).one|exact(uh LL).two);simp only[nn])|((with_reducible apply store27 (u:=zeroD) 2);(case ho=>rfl);(case hw=>rfl);(case hL=>exact uh LL);(case hi=>rfl);(case hx=>rfl);(case hy=>rfl);(intro X LX;simp only[nn];replace LL:=hide LX;clear LX)))
     refine ret27_2 rfl rfl rfl rfl rfl (uh LL).three ?_
     exact⟨rfl,(uh LL).below⟩
    ·go_enter func77,ntmps77
     go_wp2_with (first|go_skip|((with_reducible apply load27);(case ho=>rfl);(case hw=>rfl);(case hx=>rfl);(case hc=>first|exact(uh LL).one|exact(uh LL).two);simp only[nn])|((with_reducible apply load25c);(case ho=>rfl);(case hw=>rfl);(case hx=>rfl);(case hc=>first|exact(uh LL).one|exact(uh LL).two);simp only[nn])|((with_reducible apply store27 2);(case ho=>rfl);(case hw=>rfl);(case hL=>exact uh LL);(case hi=>rfl);(case hx=>rfl);(case hy=>rfl);(intro X LX;simp only[nn];replace LL:=hide LX;clear LX)))
     refine(uh HC _ (tabs_below (uh HT) (uh LL).below)).mono ?_
     rintro _ w11 ⟨rfl,hb⟩
     replace LL:=hide ((uh LL).on hb)
     clear hb
     go_wp2_with (first|go_skip|((with_reducible apply load27);(case ho=>rfl);(case hw=>rfl);(case hx=>rfl);(case hc=>first|exact(uh LL).one|exact(uh LL).two);simp only[nn])|((with_reducible apply load25c);(case ho=>rfl);(case hw=>rfl);(case hx=>rfl);(case hc=>first|exact(uh LL).one|exact(uh LL).two);simp only[nn])|((with_reducible apply store27 2);(case ho=>rfl);(case hw=>rfl);(case hL=>exact uh LL);(case hi=>rfl);(case hx=>rfl);(case hy=>rfl);(intro X LX;simp only[nn];replace LL:=hide LX;clear LX)))
     refine(uh HSt _ (tabs_below (uh HT) (uh LL).below)).mono ?_
     rintro _ w12 ⟨rfl,hb⟩
     replace LL:=hide ((uh LL).on hb)
     clear hb
     go_wp2_with (first|go_skip|((with_reducible apply load27);(case ho=>rfl);(case hw=>rfl);(case hx=>rfl);(case hc=>first|exact(uh LL).one|exact(uh LL).two);simp only[nn])|((with_reducible apply load25c);(case ho=>rfl);(case hw=>rfl);(case hx=>rfl);(case hc=>first|exact(uh LL).one|exact(uh LL).two);simp only[nn])|((with_reducible apply store27 2);(case ho=>rfl);(case hw=>rfl);(case hL=>exact uh LL);(case hi=>rfl);(case hx=>rfl);(case hy=>rfl);(intro X LX;simp only[nn];replace LL:=hide LX;clear LX)))
     refine(uh HNo _).mono ?_
     rintro _ w13 ⟨rfl,hb⟩
     replace LL:=hide ((uh LL).on hb)
     clear hb
     go_wp2_with (first|go_skip|((with_reducible apply load27);(case ho=>rfl);(case hw=>rfl);(case hx=>rfl);(case hc=>first|exact(uh LL).one|exact(uh LL).two);simp only[nn])|((with_reducible apply load25c);(case ho=>rfl);(case hw=>rfl);(case hx=>rfl);(case hc=>first|exact(uh LL).one|exact(uh LL).two);simp only[nn])|((with_reducible apply store27 2);(case ho=>rfl);(case hw=>rfl);(case hL=>exact uh LL);(case hi=>rfl);(case hx=>rfl);(case hy=>rfl);(intro X LX;simp only[nn];replace LL:=hide LX;clear LX)))
     refine(uh HNo _).mono ?_
     rintro _ w14 ⟨rfl,hb⟩
     replace LL:=hide ((uh LL).on hb)
     clear hb
     go_wp2_with (first|go_skip|((with_reducible apply load27);(case ho=>rfl);(case hw=>rfl);(case hx=>rfl);(case hc=>first|exact(uh LL).one|exact(uh LL).two);simp only[nn])|((with_reducible apply load25c);(case ho=>rfl);(case hw=>rfl);(case hx=>rfl);(case hc=>first|exact(uh LL).one|exact(uh LL).two);simp only[nn])|((with_reducible apply store27 2);(case ho=>rfl);(case hw=>rfl);(case hL=>exact uh LL);(case hi=>rfl);(case hx=>rfl);(case hy=>rfl);(intro X LX;simp only[nn];replace LL:=hide LX;clear LX)))
     refine(uh HFi _).mono ?_
     rintro _ w15 ⟨rfl,hb⟩
     replace LL:=hide ((uh LL).on hb)
     clear hb
     go_wp2_with (first|go_skip|((with_reducible apply load27);(case ho=>rfl);(case hw=>rfl);(case hx=>rfl);(case hc=>first|exact(uh LL).one|exact(uh LL).two);simp only[nn])|((with_reducible apply load25c);(case ho=>rfl);(case hw=>rfl);(case hx=>rfl);(case hc=>first|exact(uh LL).one|exact(uh LL).two);simp only[nn])|((with_reducible apply store27 2);(case ho=>rfl);(case hw=>rfl);(case hL=>exact uh LL);(case hi=>rfl);(case hx=>rfl);(case hy=>rfl);(intro X LX;simp only[nn];replace LL:=hide LX;clear LX)))
     refine(uh HAf _).mono ?_
     rintro _ w16 ⟨rfl,hb⟩
     replace LL:=hide ((uh LL).on hb)
     clear hb
     go_wp2_with (first|go_skip|((with_reducible apply load27);(case ho=>rfl);(case hw=>rfl);(case hx=>rfl);(case hc=>first|exact(uh LL).one|exact(uh LL).two);simp only[nn])|((with_reducible apply load25c);(case ho=>rfl);(case hw=>rfl);(case hx=>rfl);(case hc=>first|exact(uh LL).one|exact(uh LL).two);simp only[nn])|((with_reducible apply store27 2);(case ho=>rfl);(case hw=>rfl);(case hL=>exact uh LL);(case hi=>rfl);(case hx=>rfl);(case hy=>rfl);(intro X LX;simp only[nn];replace LL:=hide LX;clear LX)))
     refine ret27_2 rfl rfl rfl rfl rfl (uh LL).three ?_
     exact⟨rfl,(uh LL).below⟩
