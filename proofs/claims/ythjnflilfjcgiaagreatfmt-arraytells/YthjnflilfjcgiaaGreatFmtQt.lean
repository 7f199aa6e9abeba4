import Derived.Test.YthjnflilfjcgiaaGreatFmtQs
import Derived.Carry
set_option linter.all false
namespace Go.Proofs.YthjnflilfjcgiaaGreatFmt
set_option maxRecDepth 100000
set_option maxHeartbeats 0
section
open Go Go.Proofs Go.Maps Go.RowKit Tryz
theorem new10 (w:World):Calls prog 75 #[] w fun e w'=> ∃T:TT,e= .returned (.pointer (some ⟨T.t,0,none⟩))/\T.Is w'/\T.rows= []/\T.last=0/\(∀b∈T.blocks,w.heap.size<=b)/\Below w.heap.size w w':=by
 have hmm:= @run_makeMap prog
 go_enter func75,ntmps75
 go_wp2
 go_ret
 have hN:=Holds.new (w.alloc (Obj.map #[] 0)) [.map (some w.heap.size), .slice none 0 0, .int .u64 0] 170
 have hM:=MapIs.made w
 have hz:(w.alloc (Obj.map #[] 0)).heap.size=w.heap.size+1:=by simp
 rw[hz] at hN
 have hb:Below w.heap.size w ((w.alloc (Obj.map #[] 0)).alloc (Obj.cells #[Value.map (some w.heap.size),Value.slice none 0 0,Value.int IntKind.u64 0] 170)):=((Below.refl _ _).alloc (Nat.le_refl _) _).alloc (by simp) _
 refine⟨⟨w.heap.size+1,w.heap.size, .slice none 0 0, [],0⟩,rfl,⟨hN, ?_,OwnP.nil _,(fun r hr=>by cases hr),by simp[TT.blocks,Value.ownBlock],by simp,(fun r hr=>by cases hr),by simp[TT.live],(fun r hr=>by simp[TT.live] at hr)⟩,rfl,rfl, ?_,hb⟩
 ·refine MapIs.block (w:=w.alloc (Obj.map #[] 0)) ?_ (Below.heap_alloc _ _ _ (by simp))
  exact hM
 ·intro b hb
  simp[TT.blocks,Value.ownBlock] at hb
  rcases hb with rfl|rfl<;>simp
theorem ex_len {o:Oper} {a:Act} {w:World} {m:Operand} {b n sz:Nat} {F:KK->Option Nat} (ho:o.op= .call {callee:= .builtin .len,args:= #[m],argTypes:= #[167]}) (hm:a.eval m= .map (some b)) (h:MapIs w b n sz F):(execOp a.eval o).run prog w= .ok (.value (.int .i64 sz)) w:=by
 simp[execOp,ho,resolve,invoke,builtin,hm,h.len o.type,Result.andThen]
theorem len30 (T:TT) (w:World) (hT:T.Is w):Calls prog 88 #[.pointer (some ⟨T.t,0,none⟩)] w fun e w'=>e= .returned (.int .i64 T.live.length)/\w'=w:=by
 have HT:=hide hT
 clear hT
 go_enter func88,ntmps88
 go_wp2_with (first|go_skip|(refine rd rfl (ex_load1 167 isAgg167 rfl rfl (uh HT).tab rfl) ?_;simp only[nn])|(refine rd rfl (ex_len rfl rfl (uh HT).map) ?_;simp only[nn]))
 go_ret
 exact⟨rfl,rfl⟩
theorem TT.live_le (T:TT):T.live.length<=T.rows.length:=List.length_filter_le _ _
theorem ex_lenS {o:Oper} {a:Act} {w:World} {m:Operand} {v:Value} {l:List RR} (ho:o.op= .call {callee:= .builtin .len,args:= #[m],argTypes:= #[168]}) (hm:a.eval m=v) (h:OwnP w v (l.map (·.b))):(execOp a.eval o).run prog w= .ok (.value (.int .i64 (l.length:Nat))) w:=by
 have hv: ∃A c,v= .slice A l.length c:=by
  rcases h.2 with ⟨h1,h2⟩|⟨g,cap,cur,h1,h2⟩
  ·exact⟨none,0,by rw[h1];simp at h2;simp[h2]⟩
  ·exact⟨_,_,by rw[h1];simp;exact⟨rfl,rfl⟩⟩
 obtain⟨A,c,rfl⟩:=hv
 simp[execOp,ho,resolve,invoke,builtin,hm,Builtin.len_,Result.andThen,goInt,underlying168,run_underlying underlying168]
theorem ex_sub {o:Oper} {a:Act} {w:World} {x y:Operand} {m n:Nat} (ho:o.op= .binOp .sub 3 x y 3) (hx:a.eval x= .int .i64 (m:Nat)) (hy:a.eval y= .int .i64 (n:Nat)) (h:n<=m) (hm:m<=4000000):(execOp a.eval o).run prog w= .ok (.value (.int .i64 ((m - n:Nat):Int))) w:=by
 have e:((m - n:Nat):Int)=(m:Int) - (n:Int):=by omega
 rw[e]
 unfold execOp
 simp only[ho,hx,hy]
 have hs:=subI (m:Int) (n:Int) (by omega) (by omega) w
 simp[go_sem,eqGuard,hs,Result.andThen]
 rw[IntKind.wrap_i64]
 omega
theorem gaps38 (T:TT) (w:World) (hT:T.Is w) (hl:T.rows.length<=4000000):Calls prog 212 #[.pointer (some ⟨T.t,0,none⟩)] w fun e w'=>e= .returned (.int .i64 ((T.rows.length - T.live.length:Nat):Int))/\Below w.heap.size w w':=by
 have HT:=hide hT
 clear hT
 go_enter func212,ntmps212
 go_wp2
 refine wp_region_held_drew (P:=prog) (S:=fun X=>T.Is X) (by kernel_rfl) (uh HT).drew (fun hS0=> ?_)
 refine gsem 0 (some 3) (.pointer (some ⟨T.t,0,none⟩)) rfl (by kernel_rfl) (by kernel_rfl) (by kernel_rfl) (fun _ _ _ h=>h) (by kernel_rfl) (by kernel_rfl) (fun _ _=>by kernel_rfl) hS0 ?_
 simp only[nn]
 refine gsem 1 (some 4) (.pointer (some ⟨T.t,0,none⟩)) rfl (by kernel_rfl) (by kernel_rfl) (by kernel_rfl) (fun _ _ _ h=>h) (by kernel_rfl) (by kernel_rfl) (fun _ _=>by kernel_rfl) hS0 ?_
 simp only[nn]
 refine gsem 2 (some 5) (.pointer (some ⟨T.t,1,none⟩)) rfl (by kernel_rfl) (by kernel_rfl) (by kernel_rfl) (fun _ _ _ h=>h) (by kernel_rfl) (by kernel_rfl) (fun _ _=>by kernel_rfl) hS0 ?_
 simp only[nn]
 refine gsem 3 (some 6) (T.rv) rfl (by kernel_rfl) (by kernel_rfl) (by kernel_rfl) (fun _ _ _ h=>h) (by kernel_rfl) (by kernel_rfl) (fun X hX=>ex_load1 168 isAgg168 rfl rfl (hX.tab) rfl) hS0 ?_
 simp only[nn]
 refine gsem 4 (some 7) (.int .i64 (T.rows.length:Nat)) rfl (by kernel_rfl) (by kernel_rfl) (by kernel_rfl) (fun _ _ _ h=>h) (by kernel_rfl) (by kernel_rfl) (fun X hX=>ex_lenS rfl rfl hX.own) hS0 ?_
 simp only[nn]
 refine gsem 5 (some 8) (.pointer (some ⟨T.t,0,none⟩)) rfl (by kernel_rfl) (by kernel_rfl) (by kernel_rfl) (fun _ _ _ h=>h) (by kernel_rfl) (by kernel_rfl) (fun _ _=>by kernel_rfl) hS0 ?_
 simp only[nn]
 refine gsem 6 (some 9) (.pointer (some ⟨T.t,0,none⟩)) rfl (by kernel_rfl) (by kernel_rfl) (by kernel_rfl) (fun _ _ _ h=>h) (by kernel_rfl) (by kernel_rfl) (fun _ _=>by kernel_rfl) hS0 ?_
 simp only[nn]
 refine gsem 7 (some 10) (.pointer (some ⟨T.t,0,none⟩)) rfl (by kernel_rfl) (by kernel_rfl) (by kernel_rfl) (fun _ _ _ h=>h) (by kernel_rfl) (by kernel_rfl) (fun _ _=>by kernel_rfl) hS0 ?_
 simp only[nn]
 refine gsem 8 (some 11) (.map (some T.m)) rfl (by kernel_rfl) (by kernel_rfl) (by kernel_rfl) (fun _ _ _ h=>h) (by kernel_rfl) (by kernel_rfl) (fun X hX=>ex_load1 167 isAgg167 rfl rfl (hX.tab) rfl) hS0 ?_
 simp only[nn]
 refine gsem 9 (some 12) (.int .i64 (T.live.length:Nat)) rfl (by kernel_rfl) (by kernel_rfl) (by kernel_rfl) (fun _ _ _ h=>h) (by kernel_rfl) (by kernel_rfl) (fun X hX=>ex_len rfl rfl hX.map) hS0 ?_
 simp only[nn]
 refine gsem 10 (some 13) (.int .i64 ((T.rows.length - T.live.length:Nat):Int)) rfl (by kernel_rfl) (by kernel_rfl) (by kernel_rfl) (fun _ _ _ h=>h) (by kernel_rfl) (by kernel_rfl) (fun X hX=>ex_sub rfl rfl rfl (by have:=T.live_le;omega) hl) hS0 ?_
 simp only[nn]
 refine gsem 11 (some 2) (.int .i64 ((T.rows.length - T.live.length:Nat):Int)) rfl (by kernel_rfl) (by kernel_rfl) (by kernel_rfl) (fun _ _ _ h=>h) (by kernel_rfl) (by kernel_rfl) (fun _ _=>by kernel_rfl) hS0 ?_
 simp only[nn]
 refine wpAnyH_done (by kernel_rfl) ?_ _
 try simp only[nn]
 go_wp2
 go_ret
 exact⟨rfl,(Below.refl _ _).drew⟩
theorem two_below (w:World) (a b:Array Value) (s t:TypeId):Below w.heap.size w ((w.alloc (Obj.cells a s)).alloc (Obj.cells b t)):=((Below.refl _ _).alloc (Nat.le_refl _) _).alloc (by simp) _
theorem Hq.two (w:World) (E:List Nat) (a b:List Value) (s t:TypeId) (ha:0<a.length) (hb:0<b.length):Hq w ((w.alloc (Obj.cells a.toArray s)).alloc (Obj.cells b.toArray t)) E [(w.heap.size,a),(w.heap.size+1,b)]:=by
 have h:=((Hq.nil w E).new a s ha).new b t hb
 rw[show (w.alloc (Obj.cells a.toArray s)).heap.size=w.heap.size+1 by simp] at h
 exact h
def getD (T:TT) (k:KK):DD:=((T.find k).map (·.d)).getD zeroD
theorem row33x: ∃d,prog.underlying 42=some d/\d.isRow=true:=⟨_,underlying42,rfl⟩
theorem row39: ∃d,prog.underlying 53=some d/\d.isRow=true:=⟨_,underlying53,rfl⟩
theorem row58: ∃d,prog.underlying 106=some d/\d.isRow=true:=⟨_,underlying106,rfl⟩
theorem siz33:(prog.info? 42).map (·.size)=some 2:=by kernel_rfl
theorem siz39:(prog.info? 53).map (·.size)=some 18:=by kernel_rfl
theorem siz58:(prog.info? 106).map (·.size)=some 20:=by kernel_rfl
theorem ex_look {o:Oper} {a:Act} {w:World} {m x:Operand} {b n sz:Nat} {F:KK->Option Nat} {k:KK} {r:Option Nat} (ho:o.op= .lookup 167 m x true) (hm:a.eval m= .map (some b)) (hx:a.eval x=k.agg) (h:MapIs w b n sz F) (hk:OkK k) (hr:F k=r):(execOp a.eval o).run prog w= .ok (.value (.tuple #[pv r, .bool r.isSome])) w:=by
 subst hr
 simp[execOp,ho,hm,hx,h.look hk,Result.andThen]
theorem ret_ct {fn:Func} {R:Ending->World->Prop} {a:Act} {w:World} {b r q:Nat} {d:DD} {v:Value} {cs:List Value} (hr:fn.results= #[.cell r 53, .tmp q]) (hdf:a.defers= [])
  (hx:a.tmps.getD r undef= .pointer (some ⟨b,0,none⟩)) (hq:a.tmps.getD q undef=v) (hc:Holds w b cs) (hcs:(cs.drop 0).take 18=d.cs) (h:R (.returned (.tuple #[d.agg,v])) w):bodyPost prog fn R .ret a w:=by
 obtain⟨t,hu,hd⟩:=row39
 have h0:=hc.mid 0 18
 rw[hcs] at h0
 have hl:=run_loadVar_mid (P:=prog) w b 0 53 _ t h0 hu hd siz39
 refine⟨hdf,_, ?_,h⟩
 simp only[Array.getD_eq_getD_getElem?] at hx hq
 unfold results
 simp[hr,hx,hq,hl,asAddr]
 try rfl
theorem get19 (T:TT) (k:KK) (w:World) (hT:T.Is w) (hk:OkK k):Calls prog 76 #[.pointer (some ⟨T.t,0,none⟩),k.agg] w fun e w'=>e= .returned (.tuple #[(getD T k).agg, .bool (T.find k).isSome])/\Below w.heap.size w w':=by
 cases hf:T.find k with
 |none=>
  have HT:=hide (hT.on (two_below w k.cs.toArray zeroD.cs.toArray 42 53))
  have LL:=hide (Hq.two w [] k.cs zeroD.cs 42 53 (Nat.succ_pos _) (Nat.succ_pos _))
  have hB2:Hid (w.heap.size<=w.heap.size+1):=hide (Nat.le_succ _)
  clear hT
  rw[show k.agg= .agg k.cs.toArray from rfl]
  go_enter func76,ntmps76
  go_wp2
  refine wp_region_held_drew (P:=prog) (S:=fun X=>T.Is X/\Hq w X [] [(w.heap.size,k.cs),(w.heap.size+1,zeroD.cs)]) (by kernel_rfl) ⟨(uh HT).drew,(uh LL).drew⟩ (fun hS0=> ?_)
  refine gsem 0 (some 9) (.pointer (some ⟨T.t,0,none⟩)) rfl (by kernel_rfl) (by kernel_rfl) (by kernel_rfl) (fun _ _ _ h=>h) (by kernel_rfl) (by kernel_rfl) (fun _ _=>by kernel_rfl) hS0 ?_
  simp only[nn]
  refine gsem 1 (some 10) (.pointer (some ⟨T.t,0,none⟩)) rfl (by kernel_rfl) (by kernel_rfl) (by kernel_rfl) (fun _ _ _ h=>h) (by kernel_rfl) (by kernel_rfl) (fun _ _=>by kernel_rfl) hS0 ?_
  simp only[nn]
  refine gsem 2 (some 11) (.pointer (some ⟨T.t,0,none⟩)) rfl (by kernel_rfl) (by kernel_rfl) (by kernel_rfl) (fun _ _ _ h=>h) (by kernel_rfl) (by kernel_rfl) (fun _ _=>by kernel_rfl) hS0 ?_
  simp only[nn]
  refine gsem 3 (some 12) (.map (some T.m)) rfl (by kernel_rfl) (by kernel_rfl) (by kernel_rfl) (fun _ _ _ h=>h) (by kernel_rfl) (by kernel_rfl) (fun X hX=>ex_load1 167 isAgg167 rfl rfl (hX.1.tab) rfl) hS0 ?_
  simp only[nn]
  refine gsem 4 (some 13) (k.agg) rfl (by kernel_rfl) (by kernel_rfl) (by kernel_rfl) (fun _ _ _ h=>h) (by kernel_rfl) (by kernel_rfl) (fun X hX=>ex_loadN (vs:=k.cs) 42 2 row33x siz33 rfl rfl (hX.2.get 0 rfl) rfl rfl) hS0 ?_
  simp only[nn]
  refine gsem 5 (some 14) (.tuple #[pv (none), .bool false]) rfl (by kernel_rfl) (by kernel_rfl) (by kernel_rfl) (fun _ _ _ h=>h) (by kernel_rfl) (by kernel_rfl) (fun X hX=>ex_look (r:=none) rfl rfl rfl hX.1.map hk (by rw[hf];rfl)) hS0 ?_
  simp only[nn]
  refine gsem 6 (some 8) (.tuple #[pv (none), .bool false]) rfl (by kernel_rfl) (by kernel_rfl) (by kernel_rfl) (fun _ _ _ h=>h) (by kernel_rfl) (by kernel_rfl) (fun _ _=>by kernel_rfl) hS0 ?_
  simp only[nn]
  refine gsem 7 (some 15) (pv (none)) rfl (by kernel_rfl) (by kernel_rfl) (by kernel_rfl) (fun _ _ _ h=>h) (by kernel_rfl) (by kernel_rfl) (fun _ _=>by kernel_rfl) hS0 ?_
  simp only[nn]
  refine gsem 9 (some 6) (pv (none)) rfl (by kernel_rfl) (by kernel_rfl) (by kernel_rfl) (fun _ _ _ h=>h) (by kernel_rfl) (by kernel_rfl) (fun _ _=>by kernel_rfl) hS0 ?_
  simp only[nn]
  refine gsem 8 (some 16) (.bool false) rfl (by kernel_rfl) (by kernel_rfl) (by kernel_rfl) (fun _ _ _ h=>h) (by kernel_rfl) (by kernel_rfl) (fun _ _=>by kernel_rfl) hS0 ?_
  simp only[nn]
  refine gsem 10 (some 7) (.bool false) rfl (by kernel_rfl) (by kernel_rfl) (by kernel_rfl) (fun _ _ _ h=>h) (by kernel_rfl) (by kernel_rfl) (fun _ _=>by kernel_rfl) hS0 ?_
  simp only[nn]
  refine wpAnyH_done (by kernel_rfl) ?_ _
  try simp only[nn]
  replace HT:=hide hS0.1
  replace LL:=hide hS0.2
  clear hS0
  unfold pv
  go_wp2_with (first|go_skip|((refine st (vs:=zeroD.cs) 1 53 (by rfl) rfl rfl rfl rfl (by simp[zeroD,zeroV,DD.cs,VV.cs,Value.oneCell']) siz39 (uh LL) rfl (by simp[dcs_length]) (Or.inr (uh hB2)) ?_);intro w3 L3 hf3 hs3;replace LL:=hide L3;clear L3 hf3 hs3;simp only[nn]))
  refine ret_ct (d:=zeroD) (r:=4) (q:=5) (b:=w.heap.size+1) rfl rfl rfl rfl ((uh LL).get 1 rfl) rfl ⟨?_,(uh LL).fr.below⟩
  unfold getD
  rw[hf]
  rfl
 |some r=>
  have HT:=hide (hT.on (two_below w k.cs.toArray zeroD.cs.toArray 42 53))
  have LL:=hide (Hq.two w [] k.cs zeroD.cs 42 53 (Nat.succ_pos _) (Nat.succ_pos _))
  have hB2:Hid (w.heap.size<=w.heap.size+1):=hide (Nat.le_succ _)
  clear hT
  rw[show k.agg= .agg k.cs.toArray from rfl]
  go_enter func76,ntmps76
  go_wp2
  refine wp_region_held_drew (P:=prog) (S:=fun X=>T.Is X/\Hq w X [] [(w.heap.size,k.cs),(w.heap.size+1,zeroD.cs)]) (by kernel_rfl) ⟨(uh HT).drew,(uh LL).drew⟩ (fun hS0=> ?_)
  refine gsem 0 (some 9) (.pointer (some ⟨T.t,0,none⟩)) rfl (by kernel_rfl) (by kernel_rfl) (by kernel_rfl) (fun _ _ _ h=>h) (by kernel_rfl) (by kernel_rfl) (fun _ _=>by kernel_rfl) hS0 ?_
  simp only[nn]
  refine gsem 1 (some 10) (.pointer (some ⟨T.t,0,none⟩)) rfl (by kernel_rfl) (by kernel_rfl) (by kernel_rfl) (fun _ _ _ h=>h) (by kernel_rfl) (by kernel_rfl) (fun _ _=>by kernel_rfl) hS0 ?_
  simp only[nn]
  refine gsem 2 (some 11) (.pointer (some ⟨T.t,0,none⟩)) rfl (by kernel_rfl) (by kernel_rfl) (by kernel_rfl) (fun _ _ _ h=>h) (by kernel_rfl) (by kernel_rfl) (fun _ _=>by kernel_rfl) hS0 ?_
  simp only[nn]
  refine gsem 3 (some 12) (.map (some T.m)) rfl (by kernel_rfl) (by kernel_rfl) (by kernel_rfl) (fun _ _ _ h=>h) (by kernel_rfl) (by kernel_rfl) (fun X hX=>ex_load1 167 isAgg167 rfl rfl (hX.1.tab) rfl) hS0 ?_
  simp only[nn]
  refine gsem 4 (some 13) (k.agg) rfl (by kernel_rfl) (by kernel_rfl) (by kernel_rfl) (fun _ _ _ h=>h) (by kernel_rfl) (by kernel_rfl) (fun X hX=>ex_loadN (vs:=k.cs) 42 2 row33x siz33 rfl rfl (hX.2.get 0 rfl) rfl rfl) hS0 ?_
  simp only[nn]
  refine gsem 5 (some 14) (.tuple #[pv (some r.b), .bool true]) rfl (by kernel_rfl) (by kernel_rfl) (by kernel_rfl) (fun _ _ _ h=>h) (by kernel_rfl) (by kernel_rfl) (fun X hX=>ex_look (r:=some r.b) rfl rfl rfl hX.1.map hk (by rw[hf];rfl)) hS0 ?_
  simp only[nn]
  refine gsem 6 (some 8) (.tuple #[pv (some r.b), .bool true]) rfl (by kernel_rfl) (by kernel_rfl) (by kernel_rfl) (fun _ _ _ h=>h) (by kernel_rfl) (by kernel_rfl) (fun _ _=>by kernel_rfl) hS0 ?_
  simp only[nn]
  refine gsem 7 (some 15) (pv (some r.b)) rfl (by kernel_rfl) (by kernel_rfl) (by kernel_rfl) (fun _ _ _ h=>h) (by kernel_rfl) (by kernel_rfl) (fun _ _=>by kernel_rfl) hS0 ?_
  simp only[nn]
  refine gsem 9 (some 6) (pv (some r.b)) rfl (by kernel_rfl) (by kernel_rfl) (by kernel_rfl) (fun _ _ _ h=>h) (by kernel_rfl) (by kernel_rfl) (fun _ _=>by kernel_rfl) hS0 ?_
  simp only[nn]
  refine gsem 8 (some 16) (.bool true) rfl (by kernel_rfl) (by kernel_rfl) (by kernel_rfl) (fun _ _ _ h=>h) (by kernel_rfl) (by kernel_rfl) (fun _ _=>by kernel_rfl) hS0 ?_
  simp only[nn]
  refine gsem 10 (some 7) (.bool true) rfl (by kernel_rfl) (by kernel_rfl) (by kernel_rfl) (fun _ _ _ h=>h) (by kernel_rfl) (by kernel_rfl) (fun _ _=>by kernel_rfl) hS0 ?_
  simp only[nn]
  refine wpAnyH_done (by kernel_rfl) ?_ _
  try simp only[nn]
  replace HT:=hide hS0.1
  replace LL:=hide hS0.2
  clear hS0
  have HR:=hide ((uh HT).rows r (T.find_mem hf).1)
  unfold pv
  go_wp2_with (first|go_skip|((refine rd rfl (ex_loadN (vs:=r.d.cs) 53 18 row39 siz39 rfl rfl (uh HR) rfl rfl) ?_);simp only[nn])|((refine st (vs:=r.d.cs) 1 53 (by rfl) rfl rfl rfl rfl (by simp[DD.cs,VV.cs,Value.oneCell']) siz39 (uh LL) rfl (by simp[dcs_length]) (Or.inr (uh hB2)) ?_);intro w3 L3 hf3 hs3;replace LL:=hide L3;clear L3 hf3 hs3;simp only[nn]))
  refine ret_ct (d:=r.d) (r:=4) (q:=5) (b:=w.heap.size+1) rfl rfl rfl rfl ((uh LL).get 1 rfl) rfl ⟨?_,(uh LL).fr.below⟩
  unfold getD
  rw[hf]
  rfl
