import Derived.Test.YthjnflilfjcgiaaGreatFmtQx
set_option linter.all false
namespace Go.Proofs.YthjnflilfjcgiaaGreatFmt
set_option maxRecDepth 100000
set_option maxHeartbeats 0
section
open Go Go.Proofs Go.Maps Go.RowKit Tryz
theorem rv_new {T:TT} {w X:World} {v:Value} {R:Nat} (hT:T.Is w) (hf:Fresh X T.rv v) (hR:w.heap.size<=R) (hR2:R<X.heap.size) (hs:w.heap.size<=X.heap.size): ∀g,v.ownBlock=some g->(T.rv.ownBlock=some g∨w.heap.size<=g)/\g≠R:=by
 intro g hg
 rcases hf with h|h
 ·rw[hg] at h
  have:=hT.lt g (TT.Part.mem (.inr (.inl h.symm)))
  exact⟨.inl h.symm,by omega⟩
 ·rw[hg] at h
  have:=Option.some.inj h
  exact⟨.inr (by omega),by omega⟩
theorem not_rv {T:TT} {w:World} (hT:T.Is w) {b:Nat} (hb:b=T.t∨w.heap.size<=b):b ∉ T.rv.ownBlock.toList:=by
 intro hm
 have hp:T.Part b:= .inr (.inl (by simpa using hm))
 rcases hb with hb|hb
 ·exact hp.ne hT.nd hb
 ·have:=hT.lt b hp.mem;omega
theorem not_m {T:TT} {w:World} (hT:T.Is w) {b:Nat} (hb:b=T.t∨w.heap.size<=b):b ∉ [T.m]:=by
 intro hm
 have hp:T.Part b:= .inl (by simpa using hm)
 rcases hb with hb|hb
 ·exact hp.ne hT.nd hb
 ·have:=hT.lt b hp.mem;omega
theorem four {T:TT} {n R B:Nat} {c1 c2 c3 c4:List Value} {q:Nat×List Value} (hq:q∈ [(T.t,c1),(n,c2),(R,c3),(B,c4)]) (hR:n<=R) (hB:n<=B):q.1=T.t∨n<=q.1:=by
 simp only[List.mem_cons,List.not_mem_nil,or_false] at hq
 rcases hq with rfl|rfl|rfl|rfl
 ·exact .inl rfl
 ·exact .inr (Nat.le_refl _)
 ·exact .inr hR
 ·exact .inr hB
def TT.Mid2 (T:TT) (v:Value) (R:Nat) (W:World):Prop:=MapIs W T.m T.last T.live.length (fun k=>(T.find k).map (·.b))/\OwnP W v (T.rows.map (·.b)++ [R])/\ ∀r∈T.rows,Holds W r.b r.cs
theorem TT.nd_rv {T:TT} (hnd:T.blocks.Nodup):(∀b,T.rv.ownBlock=some b->b≠T.m/\b ∉ T.rows.map (·.b)):=by
 intro b hb
 simp only[TT.blocks,List.nodup_cons,List.mem_cons,List.mem_append,List.nodup_append,not_or] at hnd
 obtain⟨⟨h1,h2,h3⟩,⟨h4,h5⟩,h6,h7,h8⟩:=hnd
 refine⟨fun e=>h4 (by rw[←e,hb];simp),fun hm=>h8 b (by rw[hb];simp) b hm rfl⟩
theorem TT.Mid.app {T:TT} {W W':World} {v:Value} {R:Nat} (h:T.Mid W) (hnd:T.blocks.Nodup) (hf:Fr W W' T.rv.ownBlock.toList) (ho:W'.ownsRow 0 171 1 v ((T.rows.map (·.b)).length+1) (ptrs (T.rows.map (·.b))++ [.pointer (some ⟨R,0,none⟩)])):T.Mid2 v R W':=by
 have hn:=TT.nd_rv hnd
 refine⟨h.map.block (hf.block _ (h.lt _ (.inl rfl)) (fun hm=>(hn T.m (by simpa using hm)).1 rfl)), ?_,fun r hr=>(h.rows r hr).block (hf.block _ (h.lt _ (.inr (.inr (List.mem_map.2 ⟨r,hr,rfl⟩)))) (fun hm=>(hn r.b (by simpa using hm)).2 (List.mem_map.2 ⟨r,hr,rfl⟩)))⟩
 unfold OwnP
 rw[List.length_append]
 simpa [ptrs] using ho
theorem TT.Mid2.block {T:TT} {v:Value} {R:Nat} {W W':World} (h:T.Mid2 v R W) (he: ∀b,(b=T.m∨v.ownBlock=some b∨b∈T.rows.map (·.b))->W'.heap[b]? =W.heap[b]?):T.Mid2 v R W':=
 ⟨h.1.block (he _ (.inl rfl)),h.2.1.block (fun g hg=>he g (.inr (.inl hg))),fun r hr=>(h.2.2 r hr).block (he _ (.inr (.inr (List.mem_map.2 ⟨r,hr,rfl⟩))))⟩
theorem TT.Mid2.drew {T:TT} {v:Value} {R:Nat} {W:World} (h:T.Mid2 v R W):T.Mid2 v R W.drew:=h.block (fun _ _=>rfl)
theorem TT.Mid2.lt {T:TT} {v:Value} {R:Nat} {W:World} (h:T.Mid2 v R W): ∀b,(b=T.m∨v.ownBlock=some b∨b∈T.rows.map (·.b))->b<W.heap.size:=by
 intro b hb
 rcases hb with rfl|hb|hb
 ·exact h.1.lt
 ·exact h.2.1.lt b hb
 ·obtain⟨r,hr,rfl⟩:=List.mem_map.1 hb
  exact(h.2.2 r hr).lt (by simp[rcs_length])
theorem TT.Mid2.fr {T:TT} {v:Value} {R:Nat} {w W W':World} (h:T.Mid2 v R W) (hf:Fr W W' [T.t]) (hT:T.Is w) (hv: ∀g,v.ownBlock=some g->(T.rv.ownBlock=some g∨w.heap.size<=g)/\g≠R):T.Mid2 v R W':=by
 refine h.block (fun b hb=>hf.block b (h.lt b hb) ?_)
 intro hm
 obtain rfl:b=T.t:=by simpa using hm
 rcases hb with hb|hb|hb
 ·exact TT.Part.ne (.inl hb) hT.nd rfl
 ·rcases (hv _ hb).1 with h1|h1
  ·exact TT.Part.ne (.inr (.inl h1)) hT.nd rfl
  ·have:=hT.lt T.t (by simp[TT.blocks]);omega
 ·exact TT.Part.ne (.inr (.inr hb)) hT.nd rfl
theorem TT.Mid2.fin {T:TT} {v:Value} {R:Nat} {w W X:World} (h:T.Mid2 v R W) (hf:Fr W X [T.m]) (hT:T.Is w) (hv: ∀g,v.ownBlock=some g->(T.rv.ownBlock=some g∨w.heap.size<=g)/\g≠R):OwnP X v (T.rows.map (·.b)++ [R])/\ ∀r∈T.rows,Holds X r.b r.cs:=by
 have hn:=TT.nd_rv hT.nd
 have hm:T.m ∉ T.rows.map (·.b):=by
  have hnd:=hT.nd
  simp only[TT.blocks,List.nodup_cons,List.mem_cons,List.mem_append,not_or] at hnd
  exact hnd.2.1.2
 refine⟨h.2.1.block (fun g hg=>hf.block g (h.lt g (.inr (.inl hg))) ?_),fun r hr=>(h.2.2 r hr).block (hf.block r.b (h.lt _ (.inr (.inr (List.mem_map.2 ⟨r,hr,rfl⟩)))) ?_)⟩
 ·intro e
  obtain rfl:g=T.m:=by simpa using e
  rcases (hv _ hg).1 with h1|h1
  ·exact(hn _ h1).1 rfl
  ·have:=hT.lt T.m (by simp[TT.blocks]);omega
 ·intro e
  have e2:r.b=T.m:=by simpa using e
  exact hm (e2▸List.mem_map.2 ⟨r,hr,rfl⟩)
theorem MapIs.drew {w:World} {b n sz:Nat} {F:KK->Option Nat} (h:MapIs w b n sz F):MapIs w.drew b n sz F:=h.block rfl
theorem gupd {md:Region.Mode} {ops:Array Oper} {Q:Exit->Act->World->Prop} {S:World->Prop} {w:World} {fuel:Nat} {listed:Array Bool} {a:Act} {o:Oper} (i:Nat) {m x y:Operand} {b n sz r:Nat} {F:KK->Option Nat} {k:KK} {rs:List Nat} (hi:ops[i]? =some o) (hd:o.dst=none) (hw:Region.wanted o (yielded ops a.tmps)=true)
  (ho:o.op= .mapUpdate 167 m x y) (hm:a.eval m= .map (some b)) (hx:a.eval x=k.agg) (hy:a.eval y=pv (some r)) (h:MapIs w b n sz F) (hk:OkK k) (hn:n<maxLen) (hon: ∀X,Fr w X [b]->S X)
  (hh: ∀X,MapIs X b (n+1) (if (F k).isSome then sz else sz+1) (putF F k (some r))->Fr w X [b]->wpAnyH prog md ops Q S fuel (listed.setIfInBounds i true) (a.put none undef) X) (hs:AllReadyH prog md ops Q S fuel listed a w rs):AllReadyH prog md ops Q S fuel listed a w (i::rs):=by
 obtain⟨X,h1,h2,h3⟩:=ex_upd ho hm hx hy h hk hn
 exact gskp i none hi hd hw h1 (hon X h3) (hh X h2 h3) hs
theorem info74:(prog.info? 171).map (fun i=>(i.zero,i.size,i.bytes))=some (some (.pointer none),1,8):=by kernel_rfl
theorem siz71:(prog.info? 46).map (·.size)=some 1:=by kernel_rfl
theorem siz70:(prog.info? 168).map (·.size)=some 1:=by kernel_rfl
theorem ex_addu {o:Oper} {a:Act} {w:World} {x:Operand} {n:Nat} (ho:o.op= .binOp .add 46 x (.const (.int .u64 1)) 46) (hx:a.eval x= .int .u64 (n:Nat)) (hc:a.eval (.const (.int .u64 1))= .int .u64 1) (hn:n<4000000):(execOp a.eval o).run prog w= .ok (.value (.int .u64 ((n:Int)+1))) w:=by
 unfold execOp
 simp only[ho,hx,hc]
 have e:IntKind.u64.wrap ((n:Int)+1)=(n:Int)+1:=by
  rw[IntKind.wrap_u64]
  omega
 simp[go_sem,eqGuard,underlying46,e]
theorem add34 (T:TT) (k:KK) (d:DD) (w:World) (hT:T.Is w) (hk:OkK k) (hg:goodK k=true) (hn:T.find k=none) (hl:T.last<4000000):Calls prog 96 #[.pointer (some ⟨T.t,0,none⟩), .agg (k.cs++d.cs).toArray] w fun e w'=>e= .returned (.tuple #[])/\ ∃rv R,(T.added rv R k d).Is w'/\Fr w w' T.blocks/\w.heap.size<=R/\(∀g,rv.ownBlock=some g->T.rv.ownBlock=some g∨w.heap.size<=g):=by
 have hlen:=hT.len
 have hlt:=hT.lt
 have LL:=hide (((Hq.nil w T.blocks).add hT.tab (Nat.succ_pos _) (fun q hq=>by cases hq)).new (k.cs++d.cs) 106 (Nat.succ_pos _))
 have MM:=hide (hT.mid.on ((Below.refl _ _).alloc (Nat.le_refl _) (Obj.cells (k.cs++d.cs).toArray 106)))
 have hl2:Hid (T.last<4000000):=hide hl
 have HH:=hide hT
 have hnd:=hide hT.nd
 have hlen2:=hide hlen
 have hlt2:=hide hlt
 have hk2:=hide hk
 have hn2:=hide hn
 have hg2:=hide hg
 clear hT hlen hlt hl hk hn hg
 go_enter func96,ntmps96
 go_wp2_with (first|go_skip|((refine rd rfl (ex_load1 46 isAgg46 rfl rfl ((uh LL).get 0 rfl) rfl) ?_);simp only[nn])|((refine rd rfl (ex_addu rfl rfl rfl (uh hl2)) ?_);simp only[nn])|((refine st (vs:= [.int .u64 ((T.last:Int)+1)]) 0 46 (by rfl) rfl rfl rfl rfl (by simp[Value.oneCell']) siz71 (uh LL) rfl (by simp[TT.cs,cput]) (Or.inl (List.mem_cons_self ..)) ?_);intro w3 L3 hf3 hs3;replace LL:=hide L3;replace MM:=hide ((uh MM).fr hf3 (fun b hb=>by simpa using hb.ne (uh hnd)));clear L3 hf3 hs3;simp only[nn]))
 obtain⟨R,hRe⟩: ∃R,R=w3.drew.heap.size:=⟨_,rfl⟩
 refine wp_region_held_drew (P:=prog) (S:=fun X=>Hq w X T.blocks [(T.t, [.map (some T.m),T.rv, .int .u64 ((T.last:Int)+1)]),(w.heap.size,(k.cs++d.cs))]/\T.Mid X) (by kernel_rfl) ⟨(uh LL).drew,(uh MM).drew⟩ (fun hS0=> ?_)
 refine gsem 0 (some 12) (.agg (k.cs++d.cs).toArray) rfl (by kernel_rfl) (by kernel_rfl) (by kernel_rfl) (fun _ _ _ h=>h) (by kernel_rfl) (by kernel_rfl) (fun X hX=>ex_loadN (vs:=(k.cs++d.cs)) 106 20 row58 siz58 rfl rfl (hX.1.get 1 rfl) rfl rfl) hS0 ?_
 simp only[nn]
 refine gsem 1 (some 13) (.pointer (some ⟨T.t,0,none⟩)) rfl (by kernel_rfl) (by kernel_rfl) (by kernel_rfl) (fun _ _ _ h=>h) (by kernel_rfl) (by kernel_rfl) (fun _ _=>by kernel_rfl) hS0 ?_
 simp only[nn]
 refine gsem 2 (some 14) (.pointer (some ⟨T.t,0,none⟩)) rfl (by kernel_rfl) (by kernel_rfl) (by kernel_rfl) (fun _ _ _ h=>h) (by kernel_rfl) (by kernel_rfl) (fun _ _=>by kernel_rfl) hS0 ?_
 simp only[nn]
 refine gsem 3 (some 15) (.pointer (some ⟨T.t,2,none⟩)) rfl (by kernel_rfl) (by kernel_rfl) (by kernel_rfl) (fun _ _ _ h=>h) (by kernel_rfl) (by kernel_rfl) (fun _ _=>by kernel_rfl) hS0 ?_
 simp only[nn]
 refine gsem 4 (some 16) (.int .u64 ((T.last:Int)+1)) rfl (by kernel_rfl) (by kernel_rfl) (by kernel_rfl) (fun _ _ _ h=>h) (by kernel_rfl) (by kernel_rfl) (fun X hX=>ex_load1 46 isAgg46 rfl rfl (hX.1.get 0 rfl) rfl) hS0 ?_
 simp only[nn]
 refine gsem 5 (some 17) (.agg (RR.mk R k d (T.last+1) false).cs.toArray) rfl (by kernel_rfl) (by kernel_rfl) (by kernel_rfl) (fun _ _ _ h=>h) (by kernel_rfl) (by kernel_rfl) (fun _ _=>by kernel_rfl) hS0 ?_
 simp only[nn]
 have bl:=(Below.refl w3.drew.heap.size w3.drew).alloc (Nat.le_refl _) (Obj.cells (RR.mk R k d (T.last+1) false).cs.toArray 174)
 have L2:=hS0.1.new (RR.mk R k d (T.last+1) false).cs 174 (Nat.succ_pos _)
 refine wpAnyH_ready (rs:= [6]) (by kernel_rfl) (by simp) (gval 6 (some 18) rfl (by kernel_rfl) (by kernel_rfl) (ex_box 174 (RR.mk R k d (T.last+1) false).cs rfl rfl rfl) (And.intro (hS0.1.on bl) (hS0.2.on bl)) ?_ AllReadyH.nil)
 have hR:=hide (Nat.le_trans hS0.1.fr.size (Nat.le_of_eq hRe.symm))
 replace hS0:=And.intro (hS0.1.on bl) (hS0.2.on bl)
 simp only[nn]
 rw[←hRe] at L2 ⊢
 clear bl
 generalize w3.drew.alloc (Obj.cells (RR.mk R k d (T.last+1) false).cs.toArray 174)=w4 at *
 clear hRe
 refine gsem 7 (some 4) (.pointer (some ⟨R,0,none⟩)) rfl (by kernel_rfl) (by kernel_rfl) (by kernel_rfl) (fun _ _ _ h=>h) (by kernel_rfl) (by kernel_rfl) (fun _ _=>by kernel_rfl) hS0 ?_
 simp only[nn]
 refine wpAnyH_done (by kernel_rfl) ?_ _
 try simp only[nn]
 replace MM:=hide hS0.2
 replace LL:=hide L2
 clear hS0 L2
 go_wp2_with (first|go_skip|((refine rd rfl (ex_load1 168 isAgg168 rfl rfl ((uh LL).get 0 rfl) rfl) ?_);simp only[nn])|((refine build_any (t:=168) (e:=171) (size:=1) (bytes:=8) (z:= .pointer none) (cs:= [.pointer (some ⟨R,0,none⟩)]) (by rfl) rfl rfl underlying168 info74 (by decide) rfl rfl (by decide) (uh LL) ?_);intro w5 B5 hB5 L5 hb5;have hB5:=hide (Nat.le_trans (uh LL).fr.size (Nat.le_of_eq hB5.symm));replace LL:=hide L5;replace MM:=hide ((uh MM).on hb5);clear L5 hb5;simp only[nn])|((refine append_any (v:=T.rv) rfl rfl rfl rfl underlying168 info74 rfl (by decide) (uh MM).own ((uh LL).get 3 rfl) rfl (by simp[Value.oneCell']) (by have h1:=uh hlen2;have h2:=uh hl2;simp;omega) (by decide) (Nat.zero_le _) ?_);intro A6 c6 w6 ho6 hg6 hf6;have V6:=hide (rv_new (uh HH) hf6 (uh hR) ((uh LL).lt (R,RR.cs ⟨R,k,d,T.last+1,false⟩) (by simp)) (uh LL).fr.size);have M6:=hide ((uh MM).app (uh hnd) (Fr.grown hg6) ho6);replace LL:=hide ((uh LL).step (Fr.grown hg6) (fun b hb=>Or.inl (TT.Part.mem (.inr (.inl (by simpa using hb))))) (fun q hq=>not_rv (uh HH) (four hq (uh hR) (uh hB5))));clear MM ho6 hg6 hf6;simp only[nn])|((refine st (vs:= [.slice A6 _ c6]) 0 168 (by rfl) rfl rfl rfl rfl (by simp[Value.oneCell']) siz70 (uh LL) rfl (by simp[TT.cs,cput]) (Or.inl (List.mem_cons_self ..)) ?_);intro w7 L7 hf7 hs7;replace LL:=hide L7;replace M6:=hide ((uh M6).fr hf7 (uh HH) (uh V6));clear L7 hf7 hs7;simp only[nn]))
 rw[List.length_map] at LL M6 V6 ⊢
 refine wp_region_held_drew (P:=prog) (S:=fun X=>Hq w X T.blocks [(T.t, [.map (some T.m), .slice A6 (T.rows.length+1) c6, .int .u64 ((T.last:Int)+1)]),(w.heap.size,(k.cs++d.cs)),(R,(RR.mk R k d (T.last+1) false).cs),(B5, [.pointer (some ⟨R,0,none⟩)])]) (by kernel_rfl) (uh LL).drew (fun hS0=> ?_)
 refine gsem 0 (some 29) (.pointer (some ⟨T.t,0,none⟩)) rfl (by kernel_rfl) (by kernel_rfl) (by kernel_rfl) (fun _ _ _ h=>h) (by kernel_rfl) (by kernel_rfl) (fun _ _=>by kernel_rfl) hS0 ?_
 simp only[nn]
 refine gsem 1 (some 30) (.pointer (some ⟨T.t,0,none⟩)) rfl (by kernel_rfl) (by kernel_rfl) (by kernel_rfl) (fun _ _ _ h=>h) (by kernel_rfl) (by kernel_rfl) (fun _ _=>by kernel_rfl) hS0 ?_
 simp only[nn]
 refine gsem 2 (some 31) (.pointer (some ⟨T.t,0,none⟩)) rfl (by kernel_rfl) (by kernel_rfl) (by kernel_rfl) (fun _ _ _ h=>h) (by kernel_rfl) (by kernel_rfl) (fun _ _=>by kernel_rfl) hS0 ?_
 simp only[nn]
 refine gsem 3 (some 32) (.map (some T.m)) rfl (by kernel_rfl) (by kernel_rfl) (by kernel_rfl) (fun _ _ _ h=>h) (by kernel_rfl) (by kernel_rfl) (fun X hX=>ex_load1 167 isAgg167 rfl rfl (hX.get 0 rfl) rfl) hS0 ?_
 simp only[nn]
 refine gsem 4 (some 33) (.pointer (some ⟨w.heap.size,0,none⟩)) rfl (by kernel_rfl) (by kernel_rfl) (by kernel_rfl) (fun _ _ _ h=>h) (by kernel_rfl) (by kernel_rfl) (fun _ _=>by kernel_rfl) hS0 ?_
 simp only[nn]
 refine gsem 5 (some 34) (k.agg) rfl (by kernel_rfl) (by kernel_rfl) (by kernel_rfl) (fun _ _ _ h=>h) (by kernel_rfl) (by kernel_rfl) (fun X hX=>ex_loadN (vs:=k.cs) 42 2 row33x siz33 rfl rfl (hX.get 1 rfl) rfl rfl) hS0 ?_
 simp only[nn]
 refine gsem 6 (some 35) (.pointer (some ⟨R,0,none⟩)) rfl (by kernel_rfl) (by kernel_rfl) (by kernel_rfl) (fun _ _ _ h=>h) (by kernel_rfl) (by kernel_rfl) (fun _ _=>by kernel_rfl) hS0 ?_
 simp only[nn]
 refine wpAnyH_ready (rs:= [7]) (by kernel_rfl) (by simp) (gupd (r:=R) 7 rfl (by kernel_rfl) (by kernel_rfl) rfl rfl rfl rfl (uh M6).1.drew (uh hk2) (by have h2:=uh hl2;unfold maxLen;omega) (fun X hX=>hS0.step hX (fun b hb=>Or.inl (by obtain rfl:b=T.m:=(by simpa using hb);exact TT.Part.mem (.inl rfl))) (fun q hq=>not_m (uh HH) (four hq (uh hR) (uh hB5)))) ?_ AllReadyH.nil)
 intro X hM hX
 replace hS0:=hS0.step hX (fun b hb=>Or.inl (by obtain rfl:b=T.m:=(by simpa using hb);exact TT.Part.mem (.inl rfl))) (fun q hq=>not_m (uh HH) (four hq (uh hR) (uh hB5)))
 have hM2:Hid (MapIs X T.m (T.last+1) (T.live.length+1) (putF (fun q=>(T.find q).map (·.b)) k (some R))):=by
  have e:=uh hn2
  have:=hM
  simp only[e,Option.map_none,Option.isSome_none] at this
  exact hide this
 have hF:=hide ((uh M6).drew.fin hX (uh HH) (uh V6))
 clear hM hX M6
 simp only[nn]
 refine wpAnyH_done (by kernel_rfl) ?_ _
 try simp only[nn]
 have LS:=hide hS0
 clear hS0 LL
 go_wp2
 go_end0
 refine⟨rfl, .slice A6 (T.rows.length+1) c6,R, ?_,(uh LS).fr,uh hR,fun g hg=>((uh V6) g hg).1⟩
 exact TT.Is.added (uh HH) (uh hn2) (uh hg2) ((uh LS).get 0 rfl) (uh hM2) (uh hF).1 (uh hF).2 ((uh LS).get 2 rfl) (uh hR) (uh V6)
end
section
open Go Go.Proofs Go.Maps Go.RowKit
def updR (b:Nat) (d:DD) (r:RR):RR:=if r.b=b then {r with d:=d} else r
theorem updR_b (b:Nat) (d:DD) (r:RR):(updR b d r).b=r.b/\(updR b d r).k=r.k/\(updR b d r).n=r.n/\(updR b d r).gone=r.gone:=by
 unfold updR
 split<;>simp
def TT.upd (T:TT) (b:Nat) (d:DD):TT:={T with rows:=T.rows.map (updR b d)}
theorem TT.upd_live (T:TT) (b:Nat) (d:DD):(T.upd b d).live=T.live.map (updR b d):=by
 unfold TT.live TT.upd
 simp only[List.filter_map]
 congr 1
 apply List.filter_congr
 intro r _
 simp[(updR_b b d r).2.2.2]
theorem TT.upd_find (T:TT) (b:Nat) (d:DD) (k:KK):(T.upd b d).find k=(T.find k).map (updR b d):=by
 unfold TT.find
 rw[TT.upd_live,List.find?_map]
 congr 1
 congr 1
 funext r
 simp[(updR_b b d r).2.1]
theorem TT.upd_bs (T:TT) (b:Nat) (d:DD):(T.upd b d).rows.map (·.b)=T.rows.map (·.b):=by
 unfold TT.upd
 simp only[List.map_map]
 apply List.map_congr_left
 intro r _
 exact(updR_b b d r).1
theorem TT.upd_blocks (T:TT) (b:Nat) (d:DD):(T.upd b d).blocks=T.blocks:=by
 unfold TT.blocks
 rw[TT.upd_bs]
 rfl
theorem TT.Is.upd {T:TT} {w X:World} {r:RR} {d:DD} (hT:T.Is w) (hr:r∈T.rows) (hf:Fr w X [r.b]) (hn:Holds X r.b (r.k.cs++(d.cs++ [.int .u64 r.n, .bool r.gone]))):(T.upd r.b d).Is X:=by
 have hnd:=hT.nd
 simp only[TT.blocks,List.nodup_cons,List.mem_cons,List.mem_append,List.nodup_append,not_or] at hnd
 obtain⟨⟨h1,h2,h3⟩,⟨h4,h5⟩,h6,h7,h8⟩:=hnd
 have hm:r.b∈T.rows.map (·.b):=List.mem_map.2 ⟨r,hr,rfl⟩
 have hlt:=hT.lt
 have part: ∀b∈T.blocks,b≠r.b->X.heap[b]? =w.heap[b]? :=fun b hb hne=>hf.block b (hlt b hb) (by simpa using hne)
 refine⟨?_, ?_, ?_, ?_, ?_, ?_, ?_, ?_, ?_⟩
 ·exact hT.tab.block (part _ (by simp[TT.blocks]) (fun e=>h3 (e▸hm)))
 ·have e:(fun k=>((T.upd r.b d).find k).map (·.b))=fun k=>(T.find k).map (·.b):=by
   funext k
   rw[TT.upd_find]
   cases T.find k with
   |none=>rfl
   |some q=>simp[(updR_b r.b d q).1]
  rw[e,TT.upd_live,List.length_map]
  exact hT.map.block (part _ (by simp[TT.blocks]) (fun e=>h5 (by rw[show T.m=r.b from e];exact hm)))
 ·rw[TT.upd_bs]
  exact hT.own.block (fun g hg=>part _ (TT.Part.mem (.inr (.inl hg))) (fun e=>h8 g (by rw[hg];simp) r.b hm e))
 ·intro q hq
  obtain⟨p,hp,rfl⟩:=List.mem_map.1 (show q∈T.rows.map (updR r.b d) from hq)
  by_cases e:p.b=r.b
  ·have hpr:p=r:=by
    have:=hT.rise
    rcases List.getElem?_of_mem hp with ⟨i,hi⟩
    rcases List.getElem?_of_mem hr with ⟨j,hj⟩
    have e1:(T.rows.map (·.b))[i]? =some r.b:=by simp[hi,e]
    have e2:(T.rows.map (·.b))[j]? =some r.b:=by simp[hj]
    have hij:=(List.getElem?_inj (by simpa using (List.getElem?_eq_some_iff.1 hi).1) h7).1 (e1.trans e2.symm)
    subst hij
    rw[hi] at hj
    exact Option.some.inj hj
   subst hpr
   unfold updR
   rw[if_pos rfl]
   exact hn
  ·unfold updR
   rw[if_neg e]
   exact(hT.rows p hp).block (part _ (TT.Part.mem (.inr (.inr (List.mem_map.2 ⟨p,hp,rfl⟩)))) e)
 ·rw[TT.upd_blocks]
  exact hT.nd
 ·show (T.rows.map (updR r.b d)).Pairwise _
  rw[List.pairwise_map]
  exact hT.rise.imp (fun {a b} h=>by rw[(updR_b r.b d a).2.2.1,(updR_b r.b d b).2.2.1];exact h)
 ·intro q hq
  obtain⟨p,hp,rfl⟩:=List.mem_map.1 (show q∈T.rows.map (updR r.b d) from hq)
  rw[(updR_b r.b d p).2.2.1]
  exact hT.num p hp
 ·rw[TT.upd_live,List.pairwise_map]
  exact hT.keys.imp (fun {a b} h=>by rw[(updR_b r.b d a).2.1,(updR_b r.b d b).2.1];exact h)
 ·rw[TT.upd_live]
  intro q hq
  obtain⟨p,hp,rfl⟩:=List.mem_map.1 hq
  rw[(updR_b r.b d p).2.1]
  exact hT.good p hp
