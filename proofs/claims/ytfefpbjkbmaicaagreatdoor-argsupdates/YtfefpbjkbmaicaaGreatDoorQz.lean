import Derived.Test.YtfefpbjkbmaicaaGreatDoorQy
set_option linter.all false
namespace Go.Proofs.YtfefpbjkbmaicaaGreatDoor
set_option maxRecDepth 100000
set_option maxHeartbeats 0
section
open Go Go.Proofs Go.Maps Go.RowKit FM Tryz
theorem Av (w : World) : (method 355 74 (.agg #[]) "GetOwnProperty").run prog w = .ok (170, .agg #[]) w := by kernel_rfl
theorem Ap (w : World) : (method 355 74 (.agg #[]) "DefineOwnProperty").run prog w = .ok (171, .agg #[]) w := by kernel_rfl
theorem Dv (w : World) : (method 355 74 (.agg #[]) "Get").run prog w = .ok (173, .agg #[]) w := by kernel_rfl
theorem Du (w : World) : (method 355 74 (.agg #[]) "Set").run prog w = .ok (174, .agg #[]) w := by kernel_rfl
theorem De (w : World) : (method 355 74 (.agg #[]) "Delete").run prog w = .ok (172, .agg #[]) w := by kernel_rfl
theorem Au (w : World) : (method 355 70 (.agg #[]) "GetOwnProperty").run prog w = .ok (170, .agg #[]) w := by kernel_rfl
theorem Ao (w : World) : (method 355 70 (.agg #[]) "DefineOwnProperty").run prog w = .ok (75, .agg #[]) w := by kernel_rfl
theorem Gu (w:World):(Instr.typeAssert (.iface 74 (.agg #[])) 102 149 true).run prog w= .ok (.tuple #[.nilIface, .bool false]) w:=run_typeAssert_lacksB underlying149 (by kernel_rfl) (by kernel_rfl) _ _ _
theorem Gt (w:World):(Instr.typeAssert (.iface 70 (.agg #[])) 102 149 true).run prog w= .ok (.tuple #[.nilIface, .bool false]) w:=run_typeAssert_lacksB underlying149 (by kernel_rfl) (by kernel_rfl) _ _ _
theorem Dd (b:Bool) (w:World):(Instr.typeAssert (.iface (mt b) (.agg #[])) 102 149 true).run prog w= .ok (.tuple #[.nilIface, .bool false]) w:=by
 cases b
 ·exact Gt w
 ·exact Gu w
theorem Az (b : Bool) (w : World) : (method 355 (mt b) (.agg #[]) "GetOwnProperty").run prog w = .ok (170, .agg #[]) w := by
 cases b
 ·exact Au w
 ·exact Av w
theorem Jg (d:DD): ∀u∈d.cs,u.oneCell'=true:=by simp[DD.cs,VV.cs,Value.oneCell']
theorem Eb (d:VV): ∀u∈d.cs,u.oneCell'=true:=by simp[VV.cs,Value.oneCell']
theorem oneK (d:KK): ∀u∈d.cs,u.oneCell'=true:=by simp[KK.cs,Value.oneCell']
section
variable {ops : Array Oper} {rest : List Oper} {Q : Exit → Act → World → Prop} {w w0 : World} {a : Act} {o : Oper} {E : List Nat} {L : List Ob}
theorem bx0 {x:Operand} (ty:TypeId) (hw:Region.wanted o (yielded ops a.tmps)=true) (ho:o.op= .box ty x) (hx:a.eval x= .agg #[]) (hL:Sy w0 w E L)
  (h: ∀X B,Sy w0 X E L->wpList prog ops Q rest (a.put o.dst (.pointer (some ⟨B,0,none⟩))) X):wpList prog ops Q (o::rest) a w:=by
 refine BigFrame.wpList_want hw fun K hK=> ?_
 have hP:=hK _ _ (h _ w.heap.size (hL.on ((Below.refl _ _).alloc (Nat.le_refl _) (Obj.cells #[] ty))))
 have e2:(Instr.box ty (.agg #[])).run prog w= .ok (.pointer (some ⟨w.heap.size,0,none⟩)) (w.alloc (Obj.cells #[] ty)):=rfl
 unfold Oper.wp execOp
 simp only[ho,hx]
 simp[e2]
 exact hP
end
section
variable {md : Region.Mode} {ops : Array Oper} {Q : Exit → Act → World → Prop} {S : World → Prop} {w w0 : World} {fuel : Nat} {listed : Array Bool} {a : Act} {o : Oper} {E : List Nat} {L : List Ob}
theorem On (i:Nat) (dst:Option Tmp) (ty:TypeId) (cs:List Value) {v:Value} {rs:List Nat} (hi:ops[i]? =some o) (hd:o.dst=dst) (hw:Region.wanted o (yielded ops a.tmps)=true) (ho:o.op= .alloc ty) (hz: ∀w,(zeroValue ty).run prog w= .ok v w) (hv:v.cells.toList=cs) (hc:0<cs.length) (hL:Sy w0 w E L)
  (hS: ∀X,Sy w0 X E (L++ [Al w.heap.size cs])->S X) (h: ∀X B,B=w.heap.size->Sy w0 X E (L++ [Al B cs])->wpAnyH prog md ops Q S fuel (listed.setIfInBounds i true) (a.put dst (.pointer (some ⟨B,0,none⟩))) X) (hs:AllReadyH prog md ops Q S fuel listed a w rs):AllReadyH prog md ops Q S fuel listed a w (i::rs):=by
 have e:v.cells=cs.toArray:=by rw[←hv]
 have he:(execOp a.eval o).run prog w= .ok (.value (.pointer (some ⟨w.heap.size,0,none⟩))) (w.alloc (Obj.cells cs.toArray ty)):=by
  unfold execOp
  simp only[ho]
  simp[go_sem,hz]
  show w.alloc (Obj.cells v.cells ty)=_
  rw[e]
 have hb:=hL.box cs ty hc
 exact ZaW i dst hi hd hw he (hS _ hb) (h _ _ rfl hb) hs
theorem Zak (i:Nat) (dst:Option Tmp) (ty:TypeId) (cs:List Value) {v:Value} {x:Operand} {rs:List Nat} (hi:ops[i]? =some o) (hd:o.dst=dst) (hw:Region.wanted o (yielded ops a.tmps)=true) (ho:o.op= .box ty x) (hx:a.eval x=v) (hv:v.cells.toList=cs) (hc:0<cs.length) (hL:Sy w0 w E L)
  (hS: ∀X,Sy w0 X E (L++ [Al w.heap.size cs])->S X) (h: ∀X B,B=w.heap.size->Sy w0 X E (L++ [Al B cs])->wpAnyH prog md ops Q S fuel (listed.setIfInBounds i true) (a.put dst (.pointer (some ⟨B,0,none⟩))) X) (hs:AllReadyH prog md ops Q S fuel listed a w rs):AllReadyH prog md ops Q S fuel listed a w (i::rs):=by
 have e:v.cells=cs.toArray:=by rw[←hv]
 have e2:(Instr.box ty v).run prog w= .ok (.pointer (some ⟨w.heap.size,0,none⟩)) (w.alloc (Obj.cells cs.toArray ty)):=by rw[←e];rfl
 have he:(execOp a.eval o).run prog w= .ok (.value (.pointer (some ⟨w.heap.size,0,none⟩))) (w.alloc (Obj.cells cs.toArray ty)):=by
  unfold execOp
  simp only[ho,hx]
  simp[e2]
 have hb:=hL.box cs ty hc
 exact ZaW i dst hi hd hw he (hS _ hb) (h _ _ rfl hb) hs
theorem Na {b p:Nat} {cs vs new:List Value} {v:Value} {x y:Operand} {rs:List Nat} (i k:Nat) (ty:TypeId) (hi:ops[i]? =some o) (hd:o.dst=none) (hw:Region.wanted o (yielded ops a.tmps)=true) (ho:o.op= .store ty x y) (hx:a.eval x= .pointer (some ⟨b,p,none⟩)) (hy:a.eval y=v)
  (hv:v.cells.toList=vs) (h1: ∀u∈vs,u.oneCell'=true) (hsz:(prog.info? ty).map (·.size)=some vs.length) (hL:Sy w0 w E L) (hg:L[k]? =some (Al b cs)) (hp:p+vs.length<=cs.length) (hn:Dq cs p vs=new)
  (hS: ∀X,Sy w0 X E (L.set k (Al b new))->S X) (h: ∀X,Sy w0 X E (L.set k (Al b new))->wpAnyH prog md ops Q S fuel (listed.setIfInBounds i true) (a.put none undef) X) (hs:AllReadyH prog md ops Q S fuel listed a w rs):AllReadyH prog md ops Q S fuel listed a w (i::rs):=by
 have hq:=hL.put k hg p vs hp
 rw[hn] at hq
 have he:(execOp a.eval o).run prog w= .ok .skip (w.setCells b p vs):=by
  unfold execOp
  simp only[ho,hx,hy,Instr.storeAt,Instr.sureAddr,Sem.run_bind,Sem.run_pure,Result.andThen_ok,Ei w b p ty v vs hv ((hL.hold k hg).there p vs.length hp) hsz h1]
 exact Nb i none hi hd hw he (hS _ hq) (h _ hq) hs
end
end
section
open Go Go.Proofs Go.Maps Go.RowKit FM Tryz
attribute [local go_sem] Av Ap Dv Du De Au Ao Az Dd Gu Gt
theorem Nq {fn:Func} {tmps:Array Value} {w:World} {b r T n t t2:Nat} {cs:List Value} {v v2:Value} (hT: ∃d,prog.underlying T=some d/\d.isRow=true) (hn:(prog.info? T).map (·.size)=some n) (hr:fn.results= #[.cell r T, .tmp t, .tmp t2])
  (hx:tmps.getD r undef= .pointer (some ⟨b,0,none⟩)) (hv:tmps.getD t undef=v) (hv2:tmps.getD t2 undef=v2) (hc:Holds w b cs) (hcs:cs.length=n):(results fn tmps).run prog w= .ok (.tuple #[.agg cs.toArray,v,v2]) w:=by
 obtain⟨d,hu,hd⟩:=hT
 have h0:=hc.mid 0 n
 rw[List.drop_zero,List.take_of_length_le (by omega)] at h0
 have hl:=run_loadVar_mid (P:=prog) w b 0 T _ d h0 hu hd (by rw[hn,hcs])
 simp only[Array.getD_eq_getD_getElem?] at hx hv hv2
 unfold results
 simp[hr,hx,hl,asAddr,hv,hv2]
 try rfl
theorem Mo {fn:Func} {tmps:Array Value} {w:World} {b r T n t:Nat} {cs:List Value} {v:Value} (hT: ∃d,prog.underlying T=some d/\d.isRow=true) (hn:(prog.info? T).map (·.size)=some n) (hr:fn.results= #[.cell r T, .tmp t])
  (hx:tmps.getD r undef= .pointer (some ⟨b,0,none⟩)) (hv:tmps.getD t undef=v) (hc:Holds w b cs) (hcs:cs.length=n):(results fn tmps).run prog w= .ok (.tuple #[.agg cs.toArray,v]) w:=by
 obtain⟨d,hu,hd⟩:=hT
 have h0:=hc.mid 0 n
 rw[List.drop_zero,List.take_of_length_le (by omega)] at h0
 have hl:=run_loadVar_mid (P:=prog) w b 0 T _ d h0 hu hd (by rw[hn,hcs])
 simp only[Array.getD_eq_getD_getElem?] at hx hv
 unfold results
 simp[hr,hx,hl,asAddr,hv]
 try rfl
theorem Em (d:DD):d.agg= .agg d.cs.toArray:=rfl
theorem Ec (d:KK):d.agg= .agg d.cs.toArray:=rfl
theorem Dk (d:VV):d.agg= .agg d.cs.toArray:=rfl
theorem Yb (h:HP) (j:Nat) (q:OB) (k:KK) (w:World) (H:h.Is w) (hl:h.l.length<=65536) (hj:h.l[j]? =some q) (hk:OkK k):Calls prog 170 #[.agg #[], .pointer (some ⟨h.b,0,none⟩), .int .i64 ((j:Int)+1),k.agg] w fun e w'=>e= .returned (.tuple #[(getD q.T k).agg, .bool (q.T.find k).isSome, .nilIface])/\Below w.heap.size w w':=by
 have SS:=Ac (Sy.nil w [])
 rw[Ec]
 go_enter func170,ntmps170
 go_wp2_with (first|go_skip|((with_reducible show wpList ..);first|((refine bx0 70 (by rfl) rfl rfl (Aa SS) ?_);intro X0 B0 S0;replace SS:=Ac S0;clear S0;simp only[nn])|(refine zB 42 (k.cs) (by rfl) rfl rfl rfl SS ?_;clear SS;intro Xa Ba SS;simp only[nn])|(refine zA 29 (Bx.cs) (by rfl) rfl SS ?_;clear SS;intro Xb Bb SS;simp only[nn])))
 have hS:Sy w _ [] [Al Ba k.cs,Al Bb Bx.cs]:=(Aa SS).drew
 clear SS
 have cu: ∀{X:World} {M:List Ob},Sy w X [] ([Al Ba k.cs,Al Bb Bx.cs]++M)->Sy w X [] [Al Ba k.cs,Al Bb Bx.cs]:=fun h=>Sy.left h
 refine wp_region_held_drew (P:=prog) (S:=fun X=>Sy w X [] _) (by kernel_rfl) (hS) (fun hS0=> ?_)
 refine gp 0 (some 14) (.pointer (some ⟨h.b,0,none⟩)) rfl rfl (hS) ?_
 refine gp 1 (some 15) (.int .i64 ((j:Int)+1)) rfl rfl (hS) ?_
 refine gq 6 (some 20) (.agg k.cs.toArray) rfl rfl (fun X hX=>Ax (vs:=k.cs) 42 2 rwK szK rfl rfl (hX.hold 0 rfl) rfl rfl) (hS) ?_
 refine gr (rs:= [2,11]) (gcW 2 (some 16) rfl rfl (hS) (Qn h j q _ (H.on hS.fr.below) hj hl) ?_ (On (v:= .agg (Bx.cs).toArray) 11 (some 11) 29 (Bx.cs) rfl rfl (by kernel_rfl) rfl (fun w=>by kernel_rfl) rfl (Nat.succ_pos _) hS (fun _ hZ=>cu hZ) ?_ gn))
 ·refine gp 3 (some 17) (.pointer (some ⟨q.b,0,none⟩)) rfl rfl (hS) ?_
  refine gp 4 (some 18) (.pointer (some ⟨q.b,7,none⟩)) rfl rfl (hS) ?_
  refine gq 5 (some 19) (.pointer (some ⟨q.T.t,0,none⟩)) rfl rfl (fun X hX=>Aj 105 isAgg105 rfl rfl ((H.on hX.fr.below).ob hj).1 rfl) (hS) ?_
  refine gr (rs:= [7,11]) (gcB 7 (some 21) rfl rfl hS (Uh q.T k _ ((H.on hS.fr.below).ob hj).2.1 hk) id ?_ (On (v:= .agg (Bx.cs).toArray) 11 (some 11) 29 (Bx.cs) rfl rfl (by kernel_rfl) rfl (fun w=>by kernel_rfl) rfl (Nat.succ_pos _) hS (fun _ hZ=>cu hZ) ?_ gn))
  ·intro Y2 hq2
   refine gp 8 (some 13) (.tuple #[(getD q.T k).agg, .bool (q.T.find k).isSome]) rfl rfl (hq2) ?_
   refine gp 9 (some 22) ((getD q.T k).agg) rfl rfl (hq2) ?_
   refine gp 10 (some 23) (.bool (q.T.find k).isSome) rfl rfl (hq2) ?_
   refine gr (rs:= [11]) (On (v:= .agg (Bx.cs).toArray) 11 (some 11) 29 (Bx.cs) rfl rfl (by kernel_rfl) rfl (fun w=>by kernel_rfl) rfl (Nat.succ_pos _) hq2 (fun _ hZ=>cu hZ) ?_ gn)
   intro Y3 B3 hE3 hq3
   clear hE3
   simp only[nn]
   refine gr (rs:= [12]) (Na (vs:=(getD q.T k).cs) (new:=(getD q.T k).cs) 12 2 29 rfl rfl (by kernel_rfl) rfl rfl rfl rfl (Jg _) szD hq3 rfl (by simp[Dq,VV.cs,KK.cs,DD.cs,OB.cs,hcs,Bx,Bz]) (by simp[Dq,VV.cs,KK.cs,DD.cs,OB.cs,hcs,Bx,Bz]) (fun _ hZ=>cu hZ) ?_ gn)
   intro Y4 hq4
   refine gp 13 (some 12) (.bool (q.T.find k).isSome) rfl rfl (cu hq4) ?_
   refine wpAnyH_done (by kernel_rfl) ?_ _
   try simp only[nn]
   have SS:=Ac hq4
   go_wp2_with (first|go_skip|((with_reducible show wpList ..);first|(refine zL ((getD q.T k).cs) 29 18 2 rwD szD (by rfl) rfl rfl SS rfl rfl rfl ?_;simp only[nn])|(refine zS ((getD q.T k).cs) 1 29 (by rfl) rfl rfl rfl rfl (Jg _) szD SS rfl ?_;clear SS;intro Xr SS;simp only[nn])))
   refine bodyPost_ret (Nq rwD szD rfl rfl rfl rfl ((Aa SS).hold 1 rfl) rfl) rfl ?_
   exact⟨rfl,(Aa SS).fr.below⟩
  ·intro Y5 B5 hE5 hq5
   clear hE5
   simp only[nn]
   refine gr (rs:= [7]) (gcB 7 (some 21) rfl rfl hq5 (Uh q.T k _ ((H.on hq5.fr.below).ob hj).2.1 hk) (fun x=>cu x) ?_ gn)
   intro Y6 hq6
   refine gp 8 (some 13) (.tuple #[(getD q.T k).agg, .bool (q.T.find k).isSome]) rfl rfl (cu hq6) ?_
   refine gp 9 (some 22) ((getD q.T k).agg) rfl rfl (cu hq6) ?_
   refine gp 10 (some 23) (.bool (q.T.find k).isSome) rfl rfl (cu hq6) ?_
   refine gr (rs:= [12]) (Na (vs:=(getD q.T k).cs) (new:=(getD q.T k).cs) 12 2 29 rfl rfl (by kernel_rfl) rfl rfl rfl rfl (Jg _) szD hq6 rfl (by simp[Dq,VV.cs,KK.cs,DD.cs,OB.cs,hcs,Bx,Bz]) (by simp[Dq,VV.cs,KK.cs,DD.cs,OB.cs,hcs,Bx,Bz]) (fun _ hZ=>cu hZ) ?_ gn)
   intro Y7 hq7
   refine gp 13 (some 12) (.bool (q.T.find k).isSome) rfl rfl (cu hq7) ?_
   refine wpAnyH_done (by kernel_rfl) ?_ _
   try simp only[nn]
   have SS:=Ac hq7
   go_wp2_with (first|go_skip|((with_reducible show wpList ..);first|(refine zL ((getD q.T k).cs) 29 18 2 rwD szD (by rfl) rfl rfl SS rfl rfl rfl ?_;simp only[nn])|(refine zS ((getD q.T k).cs) 1 29 (by rfl) rfl rfl rfl rfl (Jg _) szD SS rfl ?_;clear SS;intro Xr SS;simp only[nn])))
   refine bodyPost_ret (Nq rwD szD rfl rfl rfl rfl ((Aa SS).hold 1 rfl) rfl) rfl ?_
   exact⟨rfl,(Aa SS).fr.below⟩
 ·intro Y8 B8 hE8 hq8
  clear hE8
  simp only[nn]
  refine gr (rs:= [2]) (gcW 2 (some 16) rfl rfl (cu hq8) (Qn h j q _ (H.on hq8.fr.below) hj hl) ?_ gn)
  refine gp 3 (some 17) (.pointer (some ⟨q.b,0,none⟩)) rfl rfl (cu hq8) ?_
  refine gp 4 (some 18) (.pointer (some ⟨q.b,7,none⟩)) rfl rfl (cu hq8) ?_
  refine gq 5 (some 19) (.pointer (some ⟨q.T.t,0,none⟩)) rfl rfl (fun X hX=>Aj 105 isAgg105 rfl rfl ((H.on hX.fr.below).ob hj).1 rfl) (cu hq8) ?_
  refine gr (rs:= [7]) (gcB 7 (some 21) rfl rfl hq8 (Uh q.T k _ ((H.on hq8.fr.below).ob hj).2.1 hk) (fun x=>cu x) ?_ gn)
  intro Y10 hq10
  refine gp 8 (some 13) (.tuple #[(getD q.T k).agg, .bool (q.T.find k).isSome]) rfl rfl (cu hq10) ?_
  refine gp 9 (some 22) ((getD q.T k).agg) rfl rfl (cu hq10) ?_
  refine gp 10 (some 23) (.bool (q.T.find k).isSome) rfl rfl (cu hq10) ?_
  refine gr (rs:= [12]) (Na (vs:=(getD q.T k).cs) (new:=(getD q.T k).cs) 12 2 29 rfl rfl (by kernel_rfl) rfl rfl rfl rfl (Jg _) szD hq10 rfl (by simp[Dq,VV.cs,KK.cs,DD.cs,OB.cs,hcs,Bx,Bz]) (by simp[Dq,VV.cs,KK.cs,DD.cs,OB.cs,hcs,Bx,Bz]) (fun _ hZ=>cu hZ) ?_ gn)
  intro Y11 hq11
  refine gp 13 (some 12) (.bool (q.T.find k).isSome) rfl rfl (cu hq11) ?_
  refine wpAnyH_done (by kernel_rfl) ?_ _
  try simp only[nn]
  have SS:=Ac hq11
  go_wp2_with (first|go_skip|((with_reducible show wpList ..);first|(refine zL ((getD q.T k).cs) 29 18 2 rwD szD (by rfl) rfl rfl SS rfl rfl rfl ?_;simp only[nn])|(refine zS ((getD q.T k).cs) 1 29 (by rfl) rfl rfl rfl rfl (Jg _) szD SS rfl ?_;clear SS;intro Xr SS;simp only[nn])))
  refine bodyPost_ret (Nq rwD szD rfl rfl rfl rfl ((Aa SS).hold 1 rfl) rfl) rfl ?_
  exact⟨rfl,(Aa SS).fr.below⟩
