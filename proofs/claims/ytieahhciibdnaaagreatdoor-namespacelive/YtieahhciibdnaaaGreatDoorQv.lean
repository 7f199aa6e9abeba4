import Derived.Test.YtieahhciibdnaaaGreatDoorQu
set_option linter.all false
namespace Go.Proofs.YtieahhciibdnaaaGreatDoor
set_option maxRecDepth 100000
set_option maxHeartbeats 0
section
open Go Go.Proofs Go.Maps Go.RowKit FM Tryz
theorem Ak (w : World) : (method 408 87 (.agg #[]) "GetOwnProperty").run prog w = .ok (227, .agg #[]) w := by kernel_rfl
theorem Ae (w : World) : (method 408 87 (.agg #[]) "DefineOwnProperty").run prog w = .ok (224, .agg #[]) w := by kernel_rfl
theorem Aq (w : World) : (method 408 87 (.agg #[]) "HasProperty").run prog w = .ok (228, .agg #[]) w := by kernel_rfl
theorem Dl (w : World) : (method 408 87 (.agg #[]) "Get").run prog w = .ok (226, .agg #[]) w := by kernel_rfl
theorem Dk (w : World) : (method 408 87 (.agg #[]) "Set").run prog w = .ok (230, .agg #[]) w := by kernel_rfl
theorem Bl (w : World) : (method 408 87 (.agg #[]) "Delete").run prog w = .ok (225, .agg #[]) w := by kernel_rfl
theorem Af (w : World) : (method 408 87 (.agg #[]) "OwnPropertyKeys").run prog w = .ok (229, .agg #[]) w := by kernel_rfl
theorem Aj (w : World) : (method 408 87 (.agg #[]) "SetPrototypeOf").run prog w = .ok (164, .agg #[]) w := by kernel_rfl
theorem Ad (w : World) : (method 408 87 (.agg #[]) "PreventExtensions").run prog w = .ok (67, .agg #[]) w := by kernel_rfl
theorem Et (w:World):(Instr.typeAssert (.iface 87 (.agg #[])) 118 178 true).run prog w= .ok (.tuple #[.nilIface, .bool false]) w:=run_typeAssert_lacksB underlying178 (by kernel_rfl) (by kernel_rfl) _ _ _
theorem Es (w:World):(Instr.typeAssert (.iface 85 (.agg #[])) 118 178 true).run prog w= .ok (.tuple #[.nilIface, .bool false]) w:=run_typeAssert_lacksB underlying178 (by kernel_rfl) (by kernel_rfl) _ _ _
theorem Bj (b:Bool) (w:World):(Instr.typeAssert (.iface (mt b) (.agg #[])) 118 178 true).run prog w= .ok (.tuple #[.nilIface, .bool false]) w:=by
 cases b
 ·exact Es w
 ·exact Et w
theorem Gf (d:DD): ∀u∈d.cs,u.oneCell'=true:=by simp[DD.cs,VV.cs,Value.oneCell']
theorem Ex (d:VV): ∀u∈d.cs,u.oneCell'=true:=by simp[VV.cs,Value.oneCell']
theorem oneK (d:KK): ∀u∈d.cs,u.oneCell'=true:=by simp[KK.cs,Value.oneCell']
section
variable {ops : Array Oper} {rest : List Oper} {Q : Exit → Act → World → Prop} {w w0 : World} {a : Act} {o : Oper} {E : List Nat} {L : List Ob}
theorem bx0 {x:Operand} (ty:TypeId) (hw:Region.wanted o (yielded ops a.tmps)=true) (ho:o.op= .box ty x) (hx:a.eval x= .agg #[]) (hL:Sy w0 w E L)
  (h: ∀X B,Sy w0 X E L->wpList prog ops Q rest (a.put o.dst (.pointer (some ⟨B,0,none⟩))) X):wpList prog ops Q (o::rest) a w:=by
 refine BigFrame.wpList_want hw fun K hK=> ?_
 have hP:=hK _ _ (h _ w.heap.size (hL.on ((Below.refl _ _).alloc (Nat.le_refl _) (Obj.cells #[] ty))))
 have e2:(Instr.box ty (.agg #[])).run prog w= .ok (.pointer (some ⟨w.heap.size,0,none⟩)) (w.alloc (Obj.cells #[] ty)):=rfl
 unfold Oper.wp execOp
 simp only[ho,hx]
 simp[e2]
 exact hP
end
section
variable {md : Region.Mode} {ops : Array Oper} {Q : Exit → Act → World → Prop} {S : World → Prop} {w w0 : World} {fuel : Nat} {listed : Array Bool} {a : Act} {o : Oper} {E : List Nat} {L : List Ob}
theorem Lg (i:Nat) (dst:Option Tmp) (ty:TypeId) (cs:List Value) {v:Value} {rs:List Nat} (hi:ops[i]? =some o) (hd:o.dst=dst) (hw:Region.wanted o (yielded ops a.tmps)=true) (ho:o.op= .alloc ty) (hz: ∀w,(zeroValue ty).run prog w= .ok v w) (hv:v.cells.toList=cs) (hc:0<cs.length) (hL:Sy w0 w E L)
  (hS: ∀X,Sy w0 X E (L++ [Ao w.heap.size cs])->S X) (h: ∀X B,B=w.heap.size->Sy w0 X E (L++ [Ao B cs])->wpAnyH prog md ops Q S fuel (listed.setIfInBounds i true) (a.put dst (.pointer (some ⟨B,0,none⟩))) X) (hs:AllReadyH prog md ops Q S fuel listed a w rs):AllReadyH prog md ops Q S fuel listed a w (i::rs):=by
 have e:v.cells=cs.toArray:=by rw[←hv]
 have he:(execOp a.eval o).run prog w= .ok (.value (.pointer (some ⟨w.heap.size,0,none⟩))) (w.alloc (Obj.cells cs.toArray ty)):=by
  unfold execOp
  simp only[ho]
  simp[go_sem,hz]
  show w.alloc (Obj.cells v.cells ty)=_
  rw[e]
 have hb:=hL.box cs ty hc
 exact Zd i dst hi hd hw he (hS _ hb) (h _ _ rfl hb) hs
theorem Ze (i:Nat) (dst:Option Tmp) (ty:TypeId) (cs:List Value) {v:Value} {x:Operand} {rs:List Nat} (hi:ops[i]? =some o) (hd:o.dst=dst) (hw:Region.wanted o (yielded ops a.tmps)=true) (ho:o.op= .box ty x) (hx:a.eval x=v) (hv:v.cells.toList=cs) (hc:0<cs.length) (hL:Sy w0 w E L)
  (hS: ∀X,Sy w0 X E (L++ [Ao w.heap.size cs])->S X) (h: ∀X B,B=w.heap.size->Sy w0 X E (L++ [Ao B cs])->wpAnyH prog md ops Q S fuel (listed.setIfInBounds i true) (a.put dst (.pointer (some ⟨B,0,none⟩))) X) (hs:AllReadyH prog md ops Q S fuel listed a w rs):AllReadyH prog md ops Q S fuel listed a w (i::rs):=by
 have e:v.cells=cs.toArray:=by rw[←hv]
 have e2:(Instr.box ty v).run prog w= .ok (.pointer (some ⟨w.heap.size,0,none⟩)) (w.alloc (Obj.cells cs.toArray ty)):=by rw[←e];rfl
 have he:(execOp a.eval o).run prog w= .ok (.value (.pointer (some ⟨w.heap.size,0,none⟩))) (w.alloc (Obj.cells cs.toArray ty)):=by
  unfold execOp
  simp only[ho,hx]
  simp[e2]
 have hb:=hL.box cs ty hc
 exact Zd i dst hi hd hw he (hS _ hb) (h _ _ rfl hb) hs
theorem Jd {b p:Nat} {cs vs new:List Value} {v:Value} {x y:Operand} {rs:List Nat} (i k:Nat) (ty:TypeId) (hi:ops[i]? =some o) (hd:o.dst=none) (hw:Region.wanted o (yielded ops a.tmps)=true) (ho:o.op= .store ty x y) (hx:a.eval x= .pointer (some ⟨b,p,none⟩)) (hy:a.eval y=v)
  (hv:v.cells.toList=vs) (h1: ∀u∈vs,u.oneCell'=true) (hsz:(prog.info? ty).map (·.size)=some vs.length) (hL:Sy w0 w E L) (hg:L[k]? =some (Ao b cs)) (hp:p+vs.length<=cs.length) (hn:Bz cs p vs=new)
  (hS: ∀X,Sy w0 X E (L.set k (Ao b new))->S X) (h: ∀X,Sy w0 X E (L.set k (Ao b new))->wpAnyH prog md ops Q S fuel (listed.setIfInBounds i true) (a.put none undef) X) (hs:AllReadyH prog md ops Q S fuel listed a w rs):AllReadyH prog md ops Q S fuel listed a w (i::rs):=by
 have hq:=hL.put k hg p vs hp
 rw[hn] at hq
 have he:(execOp a.eval o).run prog w= .ok .skip (w.setCells b p vs):=by
  unfold execOp
  simp only[ho,hx,hy,Instr.storeAt,Instr.sureAddr,Sem.run_bind,Sem.run_pure,Result.andThen_ok,Dt w b p ty v vs hv ((hL.hold k hg).there p vs.length hp) hsz h1]
 exact Qj i none hi hd hw he (hS _ hq) (h _ hq) hs
end
end
section
open Go Go.Proofs Go.Maps Go.RowKit FM Tryz
attribute [local go_sem] Ak Ae Aq Dl Dk Bl Af Aj Ad Bj Et Es
theorem Ge {fn:Func} {tmps:Array Value} {w:World} {b r T n t t2:Nat} {cs:List Value} {v v2:Value} (hT: ∃d,prog.underlying T=some d/\d.isRow=true) (hn:(prog.info? T).map (·.size)=some n) (hr:fn.results= #[.cell r T, .tmp t, .tmp t2])
  (hx:tmps.getD r undef= .pointer (some ⟨b,0,none⟩)) (hv:tmps.getD t undef=v) (hv2:tmps.getD t2 undef=v2) (hc:Holds w b cs) (hcs:cs.length=n):(results fn tmps).run prog w= .ok (.tuple #[.agg cs.toArray,v,v2]) w:=by
 obtain⟨d,hu,hd⟩:=hT
 have h0:=hc.mid 0 n
 rw[List.drop_zero,List.take_of_length_le (by omega)] at h0
 have hl:=run_loadVar_mid (P:=prog) w b 0 T _ d h0 hu hd (by rw[hn,hcs])
 simp only[Array.getD_eq_getD_getElem?] at hx hv hv2
 unfold results
 simp[hr,hx,hl,asAddr,hv,hv2]
 try rfl
theorem Jt {fn:Func} {tmps:Array Value} {w:World} {b r T n t:Nat} {cs:List Value} {v:Value} (hT: ∃d,prog.underlying T=some d/\d.isRow=true) (hn:(prog.info? T).map (·.size)=some n) (hr:fn.results= #[.cell r T, .tmp t])
  (hx:tmps.getD r undef= .pointer (some ⟨b,0,none⟩)) (hv:tmps.getD t undef=v) (hc:Holds w b cs) (hcs:cs.length=n):(results fn tmps).run prog w= .ok (.tuple #[.agg cs.toArray,v]) w:=by
 obtain⟨d,hu,hd⟩:=hT
 have h0:=hc.mid 0 n
 rw[List.drop_zero,List.take_of_length_le (by omega)] at h0
 have hl:=run_loadVar_mid (P:=prog) w b 0 T _ d h0 hu hd (by rw[hn,hcs])
 simp only[Array.getD_eq_getD_getElem?] at hx hv
 unfold results
 simp[hr,hx,hl,asAddr,hv]
 try rfl
theorem Lh (d:DD):d.agg= .agg d.cs.toArray:=rfl
theorem Dg (d:KK):d.agg= .agg d.cs.toArray:=rfl
theorem Db (d:VV):d.agg= .agg d.cs.toArray:=rfl
theorem ord_own (h:HP) (j:Nat) (q:OB) (k:KK) (w:World) (H:h.Is w) (hl:h.l.length<=65536) (hj:h.l[j]? =some q) (hk:OkK k):Calls prog 223 #[.agg #[], .pointer (some ⟨h.b,0,none⟩), .int .i64 ((j:Int)+1),k.agg] w fun e w'=>e= .returned (.tuple #[(getD q.T k).agg, .bool (q.T.find k).isSome, .nilIface])/\Below w.heap.size w w':=by
 have SS:=Ab (Sy.nil w [])
 rw[Dg]
 go_enter func223,ntmps223
 go_wp2_with (first|go_skip|((with_reducible show wpList ..);first|((refine bx0 85 (by rfl) rfl rfl (Aa SS) ?_);intro X0 B0 S0;replace SS:=Ab S0;clear S0;simp only[nn])|(refine zB 45 (k.cs) (by rfl) rfl rfl rfl SS ?_;clear SS;intro Xa Ba SS;simp only[nn])|(refine zA 48 (Ar.cs) (by rfl) rfl SS ?_;clear SS;intro Xb Bb SS;simp only[nn])))
 have hS:Sy w _ [] [Ao Ba k.cs,Ao Bb Ar.cs]:=(Aa SS).drew
 clear SS
 have cu: ∀{X:World} {M:List Ob},Sy w X [] ([Ao Ba k.cs,Ao Bb Ar.cs]++M)->Sy w X [] [Ao Ba k.cs,Ao Bb Ar.cs]:=fun h=>Sy.left h
 refine wp_region_held_drew (P:=prog) (S:=fun X=>Sy w X [] _) (by kernel_rfl) (hS) (fun hS0=> ?_)
 refine gp 0 (some 14) (.pointer (some ⟨h.b,0,none⟩)) rfl rfl (hS) ?_
 refine gp 1 (some 15) (.int .i64 ((j:Int)+1)) rfl rfl (hS) ?_
 refine gq 6 (some 20) (.agg k.cs.toArray) rfl rfl (fun X hX=>Am (vs:=k.cs) 45 2 rwK szK rfl rfl (hX.hold 0 rfl) rfl rfl) (hS) ?_
 refine gr (rs:= [2,11]) (gcW 2 (some 16) rfl rfl (hS) (Pf h j q _ (H.on hS.fr.below) hj hl) ?_ (Lg (v:= .agg (Ar.cs).toArray) 11 (some 11) 48 (Ar.cs) rfl rfl (by kernel_rfl) rfl (fun w=>by kernel_rfl) rfl (Nat.succ_pos _) hS (fun _ hZ=>cu hZ) ?_ gn))
 ·refine gp 3 (some 17) (.pointer (some ⟨q.b,0,none⟩)) rfl rfl (hS) ?_
  refine gp 4 (some 18) (.pointer (some ⟨q.b,7,none⟩)) rfl rfl (hS) ?_
  refine gq 5 (some 19) (.pointer (some ⟨q.T.t,0,none⟩)) rfl rfl (fun X hX=>Ag 121 isAgg121 rfl rfl ((H.on hX.fr.below).ob hj).1 rfl) (hS) ?_
  refine gr (rs:= [7,11]) (gcB 7 (some 21) rfl rfl hS (Yb q.T k _ ((H.on hS.fr.below).ob hj).2.1 hk) id ?_ (Lg (v:= .agg (Ar.cs).toArray) 11 (some 11) 48 (Ar.cs) rfl rfl (by kernel_rfl) rfl (fun w=>by kernel_rfl) rfl (Nat.succ_pos _) hS (fun _ hZ=>cu hZ) ?_ gn))
  ·intro Y2 hq2
   refine gp 8 (some 13) (.tuple #[(getD q.T k).agg, .bool (q.T.find k).isSome]) rfl rfl (hq2) ?_
   refine gp 9 (some 22) ((getD q.T k).agg) rfl rfl (hq2) ?_
   refine gp 10 (some 23) (.bool (q.T.find k).isSome) rfl rfl (hq2) ?_
   refine gr (rs:= [11]) (Lg (v:= .agg (Ar.cs).toArray) 11 (some 11) 48 (Ar.cs) rfl rfl (by kernel_rfl) rfl (fun w=>by kernel_rfl) rfl (Nat.succ_pos _) hq2 (fun _ hZ=>cu hZ) ?_ gn)
   intro Y3 B3 hE3 hq3
   clear hE3
   simp only[nn]
   refine gr (rs:= [12]) (Jd (vs:=(getD q.T k).cs) (new:=(getD q.T k).cs) 12 2 48 rfl rfl (by kernel_rfl) rfl rfl rfl rfl (Gf _) szD hq3 rfl (by simp[Bz,VV.cs,KK.cs,DD.cs,OB.cs,hcs,Ar,zeroV]) (by simp[Bz,VV.cs,KK.cs,DD.cs,OB.cs,hcs,Ar,zeroV]) (fun _ hZ=>cu hZ) ?_ gn)
   intro Y4 hq4
   refine gp 13 (some 12) (.bool (q.T.find k).isSome) rfl rfl (cu hq4) ?_
   refine dn ?_
   try simp only[nn]
   have SS:=Ab hq4
   go_wp2_with (first|go_skip|((with_reducible show wpList ..);first|(refine zL ((getD q.T k).cs) 48 18 2 rwD szD (by rfl) rfl rfl SS rfl rfl rfl ?_;simp only[nn])|(refine zS ((getD q.T k).cs) 1 48 (by rfl) rfl rfl rfl rfl (Gf _) szD SS rfl ?_;clear SS;intro Xr SS;simp only[nn])))
   refine bodyPost_ret (Ge rwD szD rfl rfl rfl rfl ((Aa SS).hold 1 rfl) rfl) rfl ?_
   exact⟨rfl,(Aa SS).fr.below⟩
  ·intro Y5 B5 hE5 hq5
   clear hE5
   simp only[nn]
   refine gr (rs:= [7]) (gcB 7 (some 21) rfl rfl hq5 (Yb q.T k _ ((H.on hq5.fr.below).ob hj).2.1 hk) (fun x=>cu x) ?_ gn)
   intro Y6 hq6
   refine gp 8 (some 13) (.tuple #[(getD q.T k).agg, .bool (q.T.find k).isSome]) rfl rfl (cu hq6) ?_
   refine gp 9 (some 22) ((getD q.T k).agg) rfl rfl (cu hq6) ?_
   refine gp 10 (some 23) (.bool (q.T.find k).isSome) rfl rfl (cu hq6) ?_
   refine gr (rs:= [12]) (Jd (vs:=(getD q.T k).cs) (new:=(getD q.T k).cs) 12 2 48 rfl rfl (by kernel_rfl) rfl rfl rfl rfl (Gf _) szD hq6 rfl (by simp[Bz,VV.cs,KK.cs,DD.cs,OB.cs,hcs,Ar,zeroV]) (by simp[Bz,VV.cs,KK.cs,DD.cs,OB.cs,hcs,Ar,zeroV]) (fun _ hZ=>cu hZ) ?_ gn)
   intro Y7 hq7
   refine gp 13 (some 12) (.bool (q.T.find k).isSome) rfl rfl (cu hq7) ?_
   refine dn ?_
   try simp only[nn]
   have SS:=Ab hq7
   go_wp2_with (first|go_skip|((with_reducible show wpList ..);first|(refine zL ((getD q.T k).cs) 48 18 2 rwD szD (by rfl) rfl rfl SS rfl rfl rfl ?_;simp only[nn])|(refine zS ((getD q.T k).cs) 1 48 (by rfl) rfl rfl rfl rfl (Gf _) szD SS rfl ?_;clear SS;intro Xr SS;simp only[nn])))
   refine bodyPost_ret (Ge rwD szD rfl rfl rfl rfl ((Aa SS).hold 1 rfl) rfl) rfl ?_
   exact⟨rfl,(Aa SS).fr.below⟩
 ·intro Y8 B8 hE8 hq8
  clear hE8
  simp only[nn]
  refine gr (rs:= [2]) (gcW 2 (some 16) rfl rfl (cu hq8) (Pf h j q _ (H.on hq8.fr.below) hj hl) ?_ gn)
  refine gp 3 (some 17) (.pointer (some ⟨q.b,0,none⟩)) rfl rfl (cu hq8) ?_
  refine gp 4 (some 18) (.pointer (some ⟨q.b,7,none⟩)) rfl rfl (cu hq8) ?_
  refine gq 5 (some 19) (.pointer (some ⟨q.T.t,0,none⟩)) rfl rfl (fun X hX=>Ag 121 isAgg121 rfl rfl ((H.on hX.fr.below).ob hj).1 rfl) (cu hq8) ?_
  refine gr (rs:= [7]) (gcB 7 (some 21) rfl rfl hq8 (Yb q.T k _ ((H.on hq8.fr.below).ob hj).2.1 hk) (fun x=>cu x) ?_ gn)
  intro Y10 hq10
  refine gp 8 (some 13) (.tuple #[(getD q.T k).agg, .bool (q.T.find k).isSome]) rfl rfl (cu hq10) ?_
  refine gp 9 (some 22) ((getD q.T k).agg) rfl rfl (cu hq10) ?_
  refine gp 10 (some 23) (.bool (q.T.find k).isSome) rfl rfl (cu hq10) ?_
  refine gr (rs:= [12]) (Jd (vs:=(getD q.T k).cs) (new:=(getD q.T k).cs) 12 2 48 rfl rfl (by kernel_rfl) rfl rfl rfl rfl (Gf _) szD hq10 rfl (by simp[Bz,VV.cs,KK.cs,DD.cs,OB.cs,hcs,Ar,zeroV]) (by simp[Bz,VV.cs,KK.cs,DD.cs,OB.cs,hcs,Ar,zeroV]) (fun _ hZ=>cu hZ) ?_ gn)
  intro Y11 hq11
  refine gp 13 (some 12) (.bool (q.T.find k).isSome) rfl rfl (cu hq11) ?_
  refine dn ?_
  try simp only[nn]
  have SS:=Ab hq11
  go_wp2_with (first|go_skip|((with_reducible show wpList ..);first|(refine zL ((getD q.T k).cs) 48 18 2 rwD szD (by rfl) rfl rfl SS rfl rfl rfl ?_;simp only[nn])|(refine zS ((getD q.T k).cs) 1 48 (by rfl) rfl rfl rfl rfl (Gf _) szD SS rfl ?_;clear SS;intro Xr SS;simp only[nn])))
  refine bodyPost_ret (Ge rwD szD rfl rfl rfl rfl ((Aa SS).hold 1 rfl) rfl) rfl ?_
  exact⟨rfl,(Aa SS).fr.below⟩
