import Derived.Test.YthcmamjpfigdfaaGreatDoorRe
import Derived.Test.YthcmamjpfigdfaaGreatDoorRf
set_option linter.all false
namespace Go.Proofs.YthcmamjpfigdfaaGreatDoor
set_option maxRecDepth 100000
set_option maxHeartbeats 0
section
open Go Go.Proofs Go.Maps Go.RowKit FM Tryz
theorem Am (w : World) : (method 429 109 (.agg #[]) "GetPrototypeOf").run prog w = .ok (203, .agg #[]) w := by kernel_rfl
theorem Al (w : World) : (method 429 109 (.agg #[]) "SetPrototypeOf").run prog w = .ok (209, .agg #[]) w := by kernel_rfl
theorem Ar (w : World) : (method 429 109 (.agg #[]) "IsExtensible").run prog w = .ok (205, .agg #[]) w := by kernel_rfl
theorem Ah (w : World) : (method 429 109 (.agg #[]) "PreventExtensions").run prog w = .ok (207, .agg #[]) w := by kernel_rfl
theorem Ao (w : World) : (method 429 109 (.agg #[]) "GetOwnProperty").run prog w = .ok (202, .agg #[]) w := by kernel_rfl
theorem Ai (w : World) : (method 429 109 (.agg #[]) "DefineOwnProperty").run prog w = .ok (60, .agg #[]) w := by kernel_rfl
theorem Au (w : World) : (method 429 109 (.agg #[]) "HasProperty").run prog w = .ok (204, .agg #[]) w := by kernel_rfl
theorem Dg (w : World) : (method 429 109 (.agg #[]) "Get").run prog w = .ok (201, .agg #[]) w := by kernel_rfl
theorem Df (w : World) : (method 429 109 (.agg #[]) "Set").run prog w = .ok (208, .agg #[]) w := by kernel_rfl
theorem Bh (w : World) : (method 429 109 (.agg #[]) "Delete").run prog w = .ok (200, .agg #[]) w := by kernel_rfl
theorem Ak (w : World) : (method 429 109 (.agg #[]) "OwnPropertyKeys").run prog w = .ok (206, .agg #[]) w := by kernel_rfl
theorem Az (w:World):(Instr.typeAssert (.iface 109 (.agg #[])) 153 199 true).run prog w= .ok (.tuple #[.nilIface, .bool false]) w:=run_typeAssert_lacksB underlying199 (by kernel_rfl) (by kernel_rfl) _ _ _
theorem Dz (d:DD): ∀u∈d.cs,u.oneCell'=true:=by simp[DD.cs,VV.cs,Value.oneCell']
theorem Ea (d:VV): ∀u∈d.cs,u.oneCell'=true:=by simp[VV.cs,Value.oneCell']
section
variable {ops : Array Oper} {rest : List Oper} {Q : Exit → Act → World → Prop} {w w0 : World} {a : Act} {o : Oper} {E : List Nat} {L : List Ob}
theorem bx0 {x:Operand} (ty:TypeId) (hw:Region.wanted o (yielded ops a.tmps)=true) (ho:o.op= .box ty x) (hx:a.eval x= .agg #[]) (hL:Sy w0 w E L)
  (h: ∀X B,Sy w0 X E L->wpList prog ops Q rest (a.put o.dst (.pointer (some ⟨B,0,none⟩))) X):wpList prog ops Q (o::rest) a w:=by
 refine BigFrame.wpList_want hw fun K hK=> ?_
 have hP:=hK _ _ (h _ w.heap.size (hL.on ((Below.refl _ _).alloc (Nat.le_refl _) (Obj.cells #[] ty))))
 have e2:(Instr.box ty (.agg #[])).run prog w= .ok (.pointer (some ⟨w.heap.size,0,none⟩)) (w.alloc (Obj.cells #[] ty)):=rfl
 unfold Oper.wp execOp
 simp only[ho,hx]
 simp[e2]
 exact hP
end
section
variable {md : Region.Mode} {ops : Array Oper} {Q : Exit → Act → World → Prop} {S : World → Prop} {w w0 : World} {fuel : Nat} {listed : Array Bool} {a : Act} {o : Oper} {E : List Nat} {L : List Ob}
theorem Oj (i:Nat) (dst:Option Tmp) (ty:TypeId) (cs:List Value) {v:Value} {rs:List Nat} (hi:ops[i]? =some o) (hd:o.dst=dst) (hw:Region.wanted o (yielded ops a.tmps)=true) (ho:o.op= .alloc ty) (hz: ∀w,(zeroValue ty).run prog w= .ok v w) (hv:v.cells.toList=cs) (hc:0<cs.length) (hL:Sy w0 w E L)
  (hS: ∀X,Sy w0 X E (L++ [Aq w.heap.size cs])->S X) (h: ∀X B,B=w.heap.size->Sy w0 X E (L++ [Aq B cs])->wpAnyH prog md ops Q S fuel (listed.setIfInBounds i true) (a.put dst (.pointer (some ⟨B,0,none⟩))) X) (hs:AllReadyH prog md ops Q S fuel listed a w rs):AllReadyH prog md ops Q S fuel listed a w (i::rs):=by
 have e:v.cells=cs.toArray:=by rw[←hv]
 have he:(execOp a.eval o).run prog w= .ok (.value (.pointer (some ⟨w.heap.size,0,none⟩))) (w.alloc (Obj.cells cs.toArray ty)):=by
  unfold execOp
  simp only[ho]
  simp[go_sem,hz]
  show w.alloc (Obj.cells v.cells ty)=_
  rw[e]
 have hb:=hL.box cs ty hc
 exact Zej i dst hi hd hw he (hS _ hb) (h _ _ rfl hb) hs
theorem Zdn (i:Nat) (dst:Option Tmp) (ty:TypeId) (cs:List Value) {v:Value} {x:Operand} {rs:List Nat} (hi:ops[i]? =some o) (hd:o.dst=dst) (hw:Region.wanted o (yielded ops a.tmps)=true) (ho:o.op= .box ty x) (hx:a.eval x=v) (hv:v.cells.toList=cs) (hc:0<cs.length) (hL:Sy w0 w E L)
  (hS: ∀X,Sy w0 X E (L++ [Aq w.heap.size cs])->S X) (h: ∀X B,B=w.heap.size->Sy w0 X E (L++ [Aq B cs])->wpAnyH prog md ops Q S fuel (listed.setIfInBounds i true) (a.put dst (.pointer (some ⟨B,0,none⟩))) X) (hs:AllReadyH prog md ops Q S fuel listed a w rs):AllReadyH prog md ops Q S fuel listed a w (i::rs):=by
 have e:v.cells=cs.toArray:=by rw[←hv]
 have e2:(Instr.box ty v).run prog w= .ok (.pointer (some ⟨w.heap.size,0,none⟩)) (w.alloc (Obj.cells cs.toArray ty)):=by rw[←e];rfl
 have he:(execOp a.eval o).run prog w= .ok (.value (.pointer (some ⟨w.heap.size,0,none⟩))) (w.alloc (Obj.cells cs.toArray ty)):=by
  unfold execOp
  simp only[ho,hx]
  simp[e2]
 have hb:=hL.box cs ty hc
 exact Zej i dst hi hd hw he (hS _ hb) (h _ _ rfl hb) hs
theorem Nh {b p:Nat} {cs vs new:List Value} {v:Value} {x y:Operand} {rs:List Nat} (i k:Nat) (ty:TypeId) (hi:ops[i]? =some o) (hd:o.dst=none) (hw:Region.wanted o (yielded ops a.tmps)=true) (ho:o.op= .store ty x y) (hx:a.eval x= .pointer (some ⟨b,p,none⟩)) (hy:a.eval y=v)
  (hv:v.cells.toList=vs) (h1: ∀u∈vs,u.oneCell'=true) (hsz:(prog.info? ty).map (·.size)=some vs.length) (hL:Sy w0 w E L) (hg:L[k]? =some (Aq b cs)) (hp:p+vs.length<=cs.length) (hn:Bo cs p vs=new)
  (hS: ∀X,Sy w0 X E (L.set k (Aq b new))->S X) (h: ∀X,Sy w0 X E (L.set k (Aq b new))->wpAnyH prog md ops Q S fuel (listed.setIfInBounds i true) (a.put none undef) X) (hs:AllReadyH prog md ops Q S fuel listed a w rs):AllReadyH prog md ops Q S fuel listed a w (i::rs):=by
 have hq:=hL.put k hg p vs hp
 rw[hn] at hq
 have he:(execOp a.eval o).run prog w= .ok .skip (w.setCells b p vs):=by
  unfold execOp
  simp only[ho,hx,hy,Instr.storeAt,Instr.sureAddr,Sem.run_bind,Sem.run_pure,Result.andThen_ok,Ee w b p ty v vs hv ((hL.hold k hg).there p vs.length hp) hsz h1]
 exact Zm i none hi hd hw he (hS _ hq) (h _ hq) hs
end
end
section
open Go Go.Proofs Go.Maps Go.RowKit FM Tryz
attribute [local go_sem] Am Al Ar Ah Ao Ai Au Dg Df Bh Ak Az
theorem Lq {fn:Func} {tmps:Array Value} {w:World} {b r T n t t2:Nat} {cs:List Value} {v v2:Value} (hT: ∃d,prog.underlying T=some d/\d.isRow=true) (hn:(prog.info? T).map (·.size)=some n) (hr:fn.results= #[.cell r T, .tmp t, .tmp t2])
  (hx:tmps.getD r undef= .pointer (some ⟨b,0,none⟩)) (hv:tmps.getD t undef=v) (hv2:tmps.getD t2 undef=v2) (hc:Holds w b cs) (hcs:cs.length=n):(results fn tmps).run prog w= .ok (.tuple #[.agg cs.toArray,v,v2]) w:=by
 obtain⟨d,hu,hd⟩:=hT
 have h0:=hc.mid 0 n
 rw[List.drop_zero,List.take_of_length_le (by omega)] at h0
 have hl:=run_loadVar_mid (P:=prog) w b 0 T _ d h0 hu hd (by rw[hn,hcs])
 simp only[Array.getD_eq_getD_getElem?] at hx hv hv2
 unfold results
 simp[hr,hx,hl,asAddr,hv,hv2]
 try rfl
theorem Gf {fn:Func} {tmps:Array Value} {w:World} {b r T n t:Nat} {cs:List Value} {v:Value} (hT: ∃d,prog.underlying T=some d/\d.isRow=true) (hn:(prog.info? T).map (·.size)=some n) (hr:fn.results= #[.cell r T, .tmp t])
  (hx:tmps.getD r undef= .pointer (some ⟨b,0,none⟩)) (hv:tmps.getD t undef=v) (hc:Holds w b cs) (hcs:cs.length=n):(results fn tmps).run prog w= .ok (.tuple #[.agg cs.toArray,v]) w:=by
 obtain⟨d,hu,hd⟩:=hT
 have h0:=hc.mid 0 n
 rw[List.drop_zero,List.take_of_length_le (by omega)] at h0
 have hl:=run_loadVar_mid (P:=prog) w b 0 T _ d h0 hu hd (by rw[hn,hcs])
 simp only[Array.getD_eq_getD_getElem?] at hx hv
 unfold results
 simp[hr,hx,hl,asAddr,hv]
 try rfl
theorem Mi (d:DD):d.agg= .agg d.cs.toArray:=rfl
theorem Dj (d:KK):d.agg= .agg d.cs.toArray:=rfl
theorem Bu (d:VV):d.agg= .agg d.cs.toArray:=rfl
theorem Zcb (h:HP) (j:Nat) (q:OB) (k:KK) (w:World) (H:h.Is w) (hl:h.l.length<=65536) (hj:h.l[j]? =some q) (hk:OkK k):Calls prog 202 #[.agg #[], .pointer (some ⟨h.b,0,none⟩), .int .i64 ((j:Int)+1),k.agg] w fun e w'=>e= .returned (.tuple #[(getD q.T k).agg, .bool (q.T.find k).isSome, .nilIface])/\Below w.heap.size w w':=by
 have SS:=Ab (Sy.nil w [])
 rw[Dj]
 go_enter func202,ntmps202
 go_wp2_with (first|go_skip|((with_reducible show wpList ..);first|((refine bx0 109 (by rfl) rfl rfl (Aa SS) ?_);intro X0 B0 S0;replace SS:=Ab S0;clear S0;simp only[nn])|(refine zB 37 (k.cs) (by rfl) rfl rfl rfl SS ?_;clear SS;intro Xa Ba SS;simp only[nn])|(refine zA 43 (zeroD.cs) (by rfl) rfl SS ?_;clear SS;intro Xb Bb SS;simp only[nn])))
 have hS:Sy w _ [] [Aq Ba k.cs,Aq Bb zeroD.cs]:=(Aa SS).drew
 clear SS
 have cu: ∀{X:World} {M:List Ob},Sy w X [] ([Aq Ba k.cs,Aq Bb zeroD.cs]++M)->Sy w X [] [Aq Ba k.cs,Aq Bb zeroD.cs]:=fun h=>Sy.left h
 refine wp_region_held_drew (P:=prog) (S:=fun X=>Sy w X [] _) (by kernel_rfl) (hS) (fun hS0=> ?_)
 refine gp 0 (some 14) (.pointer (some ⟨h.b,0,none⟩)) rfl rfl (hS) ?_
 refine gp 1 (some 15) (.int .i64 ((j:Int)+1)) rfl rfl (hS) ?_
 refine gq 6 (some 20) (.agg k.cs.toArray) rfl rfl (fun X hX=>Af (vs:=k.cs) 37 2 rwK szK rfl rfl (hX.hold 0 rfl) rfl rfl) (hS) ?_
 refine gr (rs:= [2,11]) (gcW 2 (some 16) rfl rfl (hS) (Jq h j q _ (H.on hS.fr.below) hj hl) ?_ (Oj (v:= .agg (zeroD.cs).toArray) 11 (some 11) 43 (zeroD.cs) rfl rfl (by kernel_rfl) rfl (fun w=>by kernel_rfl) rfl (Nat.succ_pos _) hS (fun _ hZ=>cu hZ) ?_ gn))
 ·refine gp 3 (some 17) (.pointer (some ⟨q.b,0,none⟩)) rfl rfl (hS) ?_
  refine gp 4 (some 18) (.pointer (some ⟨q.b,7,none⟩)) rfl rfl (hS) ?_
  refine gq 5 (some 19) (.pointer (some ⟨q.T.t,0,none⟩)) rfl rfl (fun X hX=>Ad 151 isAgg151 rfl rfl ((H.on hX.fr.below).ob hj).1 rfl) (hS) ?_
  refine gr (rs:= [7,11]) (gcB 7 (some 21) rfl rfl hS (ZaI q.T k _ ((H.on hS.fr.below).ob hj).2.1 hk) id ?_ (Oj (v:= .agg (zeroD.cs).toArray) 11 (some 11) 43 (zeroD.cs) rfl rfl (by kernel_rfl) rfl (fun w=>by kernel_rfl) rfl (Nat.succ_pos _) hS (fun _ hZ=>cu hZ) ?_ gn))
  ·intro Y2 hq2
   refine gp 8 (some 13) (.tuple #[(getD q.T k).agg, .bool (q.T.find k).isSome]) rfl rfl (hq2) ?_
   refine gp 9 (some 22) ((getD q.T k).agg) rfl rfl (hq2) ?_
   refine gp 10 (some 23) (.bool (q.T.find k).isSome) rfl rfl (hq2) ?_
   refine gr (rs:= [11]) (Oj (v:= .agg (zeroD.cs).toArray) 11 (some 11) 43 (zeroD.cs) rfl rfl (by kernel_rfl) rfl (fun w=>by kernel_rfl) rfl (Nat.succ_pos _) hq2 (fun _ hZ=>cu hZ) ?_ gn)
   intro Y3 B3 hE3 hq3
   clear hE3
   simp only[nn]
   refine gr (rs:= [12]) (Nh (vs:=(getD q.T k).cs) (new:=(getD q.T k).cs) 12 2 43 rfl rfl (by kernel_rfl) rfl rfl rfl rfl (Dz _) szD hq3 rfl (by simp[Bo,VV.cs,KK.cs,DD.cs,OB.cs,hcs,zeroD,Av]) (by simp[Bo,VV.cs,KK.cs,DD.cs,OB.cs,hcs,zeroD,Av]) (fun _ hZ=>cu hZ) ?_ gn)
   intro Y4 hq4
   refine gp 13 (some 12) (.bool (q.T.find k).isSome) rfl rfl (cu hq4) ?_
   refine dn ?_
   try simp only[nn]
   have SS:=Ab hq4
   go_wp2_with (first|go_skip|((with_reducible show wpList ..);first|(refine zL ((getD q.T k).cs) 43 18 2 rwD szD (by rfl) rfl rfl SS rfl rfl rfl ?_;simp only[nn])|(refine zS ((getD q.T k).cs) 1 43 (by rfl) rfl rfl rfl rfl (Dz _) szD SS rfl ?_;clear SS;intro Xr SS;simp only[nn])))
   refine bodyPost_ret (Lq rwD szD rfl rfl rfl rfl ((Aa SS).hold 1 rfl) rfl) rfl ?_
   exact⟨rfl,(Aa SS).fr.below⟩
  ·intro Y5 B5 hE5 hq5
   clear hE5
   simp only[nn]
   refine gr (rs:= [7]) (gcB 7 (some 21) rfl rfl hq5 (ZaI q.T k _ ((H.on hq5.fr.below).ob hj).2.1 hk) (fun x=>cu x) ?_ gn)
   intro Y6 hq6
   refine gp 8 (some 13) (.tuple #[(getD q.T k).agg, .bool (q.T.find k).isSome]) rfl rfl (cu hq6) ?_
   refine gp 9 (some 22) ((getD q.T k).agg) rfl rfl (cu hq6) ?_
   refine gp 10 (some 23) (.bool (q.T.find k).isSome) rfl rfl (cu hq6) ?_
   refine gr (rs:= [12]) (Nh (vs:=(getD q.T k).cs) (new:=(getD q.T k).cs) 12 2 43 rfl rfl (by kernel_rfl) rfl rfl rfl rfl (Dz _) szD hq6 rfl (by simp[Bo,VV.cs,KK.cs,DD.cs,OB.cs,hcs,zeroD,Av]) (by simp[Bo,VV.cs,KK.cs,DD.cs,OB.cs,hcs,zeroD,Av]) (fun _ hZ=>cu hZ) ?_ gn)
   intro Y7 hq7
   refine gp 13 (some 12) (.bool (q.T.find k).isSome) rfl rfl (cu hq7) ?_
   refine dn ?_
   try simp only[nn]
   have SS:=Ab hq7
   go_wp2_with (first|go_skip|((with_reducible show wpList ..);first|(refine zL ((getD q.T k).cs) 43 18 2 rwD szD (by rfl) rfl rfl SS rfl rfl rfl ?_;simp only[nn])|(refine zS ((getD q.T k).cs) 1 43 (by rfl) rfl rfl rfl rfl (Dz _) szD SS rfl ?_;clear SS;intro Xr SS;simp only[nn])))
   refine bodyPost_ret (Lq rwD szD rfl rfl rfl rfl ((Aa SS).hold 1 rfl) rfl) rfl ?_
   exact⟨rfl,(Aa SS).fr.below⟩
 ·intro Y8 B8 hE8 hq8
  clear hE8
  simp only[nn]
  refine gr (rs:= [2]) (gcW 2 (some 16) rfl rfl (cu hq8) (Jq h j q _ (H.on hq8.fr.below) hj hl) ?_ gn)
  refine gp 3 (some 17) (.pointer (some ⟨q.b,0,none⟩)) rfl rfl (cu hq8) ?_
  refine gp 4 (some 18) (.pointer (some ⟨q.b,7,none⟩)) rfl rfl (cu hq8) ?_
  refine gq 5 (some 19) (.pointer (some ⟨q.T.t,0,none⟩)) rfl rfl (fun X hX=>Ad 151 isAgg151 rfl rfl ((H.on hX.fr.below).ob hj).1 rfl) (cu hq8) ?_
  refine gr (rs:= [7]) (gcB 7 (some 21) rfl rfl hq8 (ZaI q.T k _ ((H.on hq8.fr.below).ob hj).2.1 hk) (fun x=>cu x) ?_ gn)
  intro Y10 hq10
  refine gp 8 (some 13) (.tuple #[(getD q.T k).agg, .bool (q.T.find k).isSome]) rfl rfl (cu hq10) ?_
  refine gp 9 (some 22) ((getD q.T k).agg) rfl rfl (cu hq10) ?_
  refine gp 10 (some 23) (.bool (q.T.find k).isSome) rfl rfl (cu hq10) ?_
  refine gr (rs:= [12]) (Nh (vs:=(getD q.T k).cs) (new:=(getD q.T k).cs) 12 2 43 rfl rfl (by kernel_rfl) rfl rfl rfl rfl (Dz _) szD hq10 rfl (by simp[Bo,VV.cs,KK.cs,DD.cs,OB.cs,hcs,zeroD,Av]) (by simp[Bo,VV.cs,KK.cs,DD.cs,OB.cs,hcs,zeroD,Av]) (fun _ hZ=>cu hZ) ?_ gn)
  intro Y11 hq11
  refine gp 13 (some 12) (.bool (q.T.find k).isSome) rfl rfl (cu hq11) ?_
  refine dn ?_
  try simp only[nn]
  have SS:=Ab hq11
  go_wp2_with (first|go_skip|((with_reducible show wpList ..);first|(refine zL ((getD q.T k).cs) 43 18 2 rwD szD (by rfl) rfl rfl SS rfl rfl rfl ?_;simp only[nn])|(refine zS ((getD q.T k).cs) 1 43 (by rfl) rfl rfl rfl rfl (Dz _) szD SS rfl ?_;clear SS;intro Xr SS;simp only[nn])))
  refine bodyPost_ret (Lq rwD szD rfl rfl rfl rfl ((Aa SS).hold 1 rfl) rfl) rfl ?_
  exact⟨rfl,(Aa SS).fr.below⟩
theorem Kj (h:HP):h.inn.out=h.less:=by
 unfold HP.inn HP.out HP.less
 simp
def Bl (c:Int):Value:= .iface 31 (.int .i64 c)
theorem Br {P:Program} {fn:Func} {R:Ending->World->Prop} {a:Act} {w:World} {v:Value} (hr:(results fn a.tmps).run P w= .ok v w) (hd:a.defers= []) (h:R (.returned v) w):bodyPostD P fn R .ret a w:=by
 show Leaves P fn a.tmps R a.defers .returning w
 rw[hd]
 exact⟨v,hr,h⟩
theorem Vl {o:Oper} {a:Act} {w:World} (ho:o.op= .build 43 #[]):(execOp a.eval o).run prog w= .ok (.value (.agg zeroD.cs.toArray)) w:=by
 have e:(Instr.build 43 #[]).run prog w= .ok (.agg zeroD.cs.toArray) w:=by kernel_rfl
 unfold execOp
 simp only[ho]
 simp[e]
theorem Ny {o:Oper} {a:Act} {w:World} (ho:o.op= .build 40 #[]):(execOp a.eval o).run prog w= .ok (.value (.agg Av.cs.toArray)) w:=by
 have e:(Instr.build 40 #[]).run prog w= .ok (.agg Av.cs.toArray) w:=by kernel_rfl
 unfold execOp
 simp only[ho]
 simp[e]
theorem Ua (h:HP) (j:Nat)  (w:World) (H:h.Is w) (hf:h.fuel=0):Calls prog 118 #[.pointer (some ⟨h.b,0,none⟩), .int .i64 ((j:Int)+1)] w fun e w'=>e= .returned (.tuple #[Av.agg,Bl 1])/\h.To h w w':=by
 have SS:=Ab H.start
 go_enter_defers func118,ntmps118
 go_wp2_with (first|go_skip|((with_reducible show wpList ..);first|(refine zA 40 (Av.cs) (by rfl) rfl SS ?_;clear SS;intro Xc Bc SS;simp only[nn])))
 refine(Kn h _ _ ((Aa SS).hp 0 rfl) hf).mono ?_
 rintro _ _ ⟨rfl,rfl⟩
 go_wp2_with (first|go_skip|((with_reducible show wpList ..);first|(refine rd rfl (Ny rfl) ?_)|(refine zS (Av.cs) 1 40 (by rfl) rfl rfl rfl rfl (Ea _) szV SS rfl ?_;clear SS;intro Xz SS;simp only[nn])))
 refine Br (Gf rwV szV rfl rfl rfl ((Aa SS).hold 1 rfl) rfl) rfl ?_
 exact⟨rfl,HP.To.end H (Aa SS) rfl⟩
theorem Rz (h:HP) (j:Nat)  (w:World) (H:h.Is w) (K:h.Ok) (hf:h.fuel≠0) (hd:h.ent=h.depth):Calls prog 118 #[.pointer (some ⟨h.b,0,none⟩), .int .i64 ((j:Int)+1)] w fun e w'=>e= .returned (.tuple #[Av.agg,Bl 2])/\h.To h.less w w':=by
 have SS:=Ab H.start
 go_enter_defers func118,ntmps118
 go_wp2_with (first|go_skip|((with_reducible show wpList ..);first|(refine zA 40 (Av.cs) (by rfl) rfl SS ?_;clear SS;intro Xc Bc SS;simp only[nn])))
 refine(Km h _ _ ((Aa SS).hp 0 rfl) K hf hd).mono ?_
 rintro _ Y1 ⟨rfl,T1⟩
 replace SS:=Ab ((Aa SS).heap 0 rfl T1)
 clear T1
 go_wp2_with (first|go_skip|((with_reducible show wpList ..);first|(refine rd rfl (Ny rfl) ?_)|(refine zS (Av.cs) 1 40 (by rfl) rfl rfl rfl rfl (Ea _) szV SS rfl ?_;clear SS;intro Xz SS;simp only[nn])))
 refine Br (Gf rwV szV rfl rfl rfl ((Aa SS).hold 1 rfl) rfl) rfl ?_
 exact⟨rfl,HP.To.end H (Aa SS) rfl⟩
theorem Ry (h:HP) (j:Nat) (q:OB)  (P:HP->VV->Value->Prop) (w:World) (H:h.Is w) (K:h.Ok) (hj:h.l[j]? =some q) (hf:h.fuel≠0) (hd:h.ent≠h.depth) (hC: ∀X,h.To h.inn w X->Calls prog 203 #[.agg #[], .pointer (some ⟨h.b,0,none⟩), .int .i64 ((j:Int)+1)] X fun e w'=> ∃(h1:HP) (V:VV) (er:Value),e= .returned (.tuple #[V.agg,er])/\P h1 V er/\h1.ent=h.ent+1/\h.inn.To h1 X w'):Calls prog 118 #[.pointer (some ⟨h.b,0,none⟩), .int .i64 ((j:Int)+1)] w fun e w'=> ∃(h1:HP) (V:VV) (er:Value),e= .returned (.tuple #[V.agg,er])/\P h1 V er/\h.To h1.out w w':=by
 have SS:=Ab H.start
 have HC:=Ab hC
 have hE0:0<=h.ent+1/\h.ent+1<=100000001:=by have:=K.e0;have:=K.e1;have:=K.d1;omega
 clear hC
 go_enter_defers func118,ntmps118
 go_wp2_with (first|go_skip|((with_reducible show wpList ..);first|(refine zA 40 (Av.cs) (by rfl) rfl SS ?_;clear SS;intro Xc Bc SS;simp only[nn])))
 refine(Kl h j q _ ((Aa SS).hp 0 rfl) K hj hf hd).mono ?_
 rintro _ Y1 ⟨rfl,T1⟩
 replace SS:=Ab ((Aa SS).heap 0 rfl T1)
 clear T1
 unfold Zi
 go_wp2_with fail
 refine(Aa HC _ (HP.To.end H (Aa SS) rfl)).mono ?_
 rintro _ Y2 ⟨h1,V,er,rfl,hP,hen,T2⟩
 replace SS:=Ab ((Aa SS).heap 0 rfl T2)
 have hb1:h1.b=h.b:=T2.hb
 clear T2
 go_wp2_with (first|go_skip|((with_reducible show wpList ..);first|(refine zS (V.cs) 1 40 (by rfl) rfl rfl rfl rfl (Ea _) szV SS rfl ?_;clear SS;intro Xz SS;simp only[nn])))
 refine leaves_cons (f:=95) (args:= #[.pointer (some ⟨h.b,0,none⟩)]) (by simp) (by simp[go_sem]) ?_
 have HL:=Ki h1 .returning _ ((Aa SS).hp 0 rfl) (by rw[hen];exact hE0)
 rw[hb1] at HL
 refine HL.mono ?_
 rintro e u2 w2 ⟨rfl,rfl,T3⟩
 replace SS:=Ab ((Aa SS).heap 0 rfl T3)
 exact⟨_,Gf rwV szV rfl rfl rfl ((Aa SS).hold 1 rfl) rfl,h1,V,er,rfl,hP,HP.To.end H (Aa SS) hb1⟩
theorem Rx (h:HP) (j:Nat) (v:VV) (w:World) (H:h.Is w) (hf:h.fuel=0):Calls prog 119 #[.pointer (some ⟨h.b,0,none⟩), .int .i64 ((j:Int)+1),v.agg] w fun e w'=>e= .returned (.tuple #[.bool false,Bl 1])/\h.To h w w':=by
 have SS:=Ab H.start
 rw[Bu]
 go_enter_defers func119,ntmps119
 go_wp2_with (first|go_skip|((with_reducible show wpList ..);first|(refine zB 40 (v.cs) (by rfl) rfl rfl rfl SS ?_;clear SS;intro Xp0 Bp0 SS;simp only[nn])))
 refine(Kn h _ _ ((Aa SS).hp 0 rfl) hf).mono ?_
 rintro _ _ ⟨rfl,rfl⟩
 go_wp2
 refine Br (results_tmp2 rfl _ _ _) rfl ?_
 exact⟨rfl,HP.To.end H (Aa SS) rfl⟩
theorem Rw (h:HP) (j:Nat) (v:VV) (w:World) (H:h.Is w) (K:h.Ok) (hf:h.fuel≠0) (hd:h.ent=h.depth):Calls prog 119 #[.pointer (some ⟨h.b,0,none⟩), .int .i64 ((j:Int)+1),v.agg] w fun e w'=>e= .returned (.tuple #[.bool false,Bl 2])/\h.To h.less w w':=by
 have SS:=Ab H.start
 rw[Bu]
 go_enter_defers func119,ntmps119
 go_wp2_with (first|go_skip|((with_reducible show wpList ..);first|(refine zB 40 (v.cs) (by rfl) rfl rfl rfl SS ?_;clear SS;intro Xp0 Bp0 SS;simp only[nn])))
 refine(Km h _ _ ((Aa SS).hp 0 rfl) K hf hd).mono ?_
 rintro _ Y1 ⟨rfl,T1⟩
 replace SS:=Ab ((Aa SS).heap 0 rfl T1)
 clear T1
 go_wp2
 refine Br (results_tmp2 rfl _ _ _) rfl ?_
 exact⟨rfl,HP.To.end H (Aa SS) rfl⟩
theorem Rv (h:HP) (j:Nat) (q:OB) (v:VV) (P:HP->Bool->Value->Prop) (w:World) (H:h.Is w) (K:h.Ok) (hj:h.l[j]? =some q) (hf:h.fuel≠0) (hd:h.ent≠h.depth) (hC: ∀X,h.To h.inn w X->Calls prog 209 #[.agg #[], .pointer (some ⟨h.b,0,none⟩), .int .i64 ((j:Int)+1),v.agg] X fun e w'=> ∃(h1:HP) (y:Bool) (er:Value),e= .returned (.tuple #[.bool y,er])/\P h1 y er/\h1.ent=h.ent+1/\h.inn.To h1 X w'):Calls prog 119 #[.pointer (some ⟨h.b,0,none⟩), .int .i64 ((j:Int)+1),v.agg] w fun e w'=> ∃(h1:HP) (y:Bool) (er:Value),e= .returned (.tuple #[.bool y,er])/\P h1 y er/\h.To h1.out w w':=by
 have SS:=Ab H.start
 have HC:=Ab hC
 have hE0:0<=h.ent+1/\h.ent+1<=100000001:=by have:=K.e0;have:=K.e1;have:=K.d1;omega
 clear hC
 rw[Bu] at HC ⊢
 go_enter_defers func119,ntmps119
 go_wp2_with (first|go_skip|((with_reducible show wpList ..);first|(refine zB 40 (v.cs) (by rfl) rfl rfl rfl SS ?_;clear SS;intro Xp0 Bp0 SS;simp only[nn])))
 refine(Kl h j q _ ((Aa SS).hp 0 rfl) K hj hf hd).mono ?_
 rintro _ Y1 ⟨rfl,T1⟩
 replace SS:=Ab ((Aa SS).heap 0 rfl T1)
 clear T1
 unfold Zi
 go_wp2_with (first|go_skip|((with_reducible show wpList ..);first|(refine zL (v.cs) 40 5 1 rwV szV (by rfl) rfl rfl SS rfl rfl rfl ?_;simp only[nn])))
 refine(Aa HC _ (HP.To.end H (Aa SS) rfl)).mono ?_
 rintro _ Y2 ⟨h1,y,er,rfl,hP,hen,T2⟩
 replace SS:=Ab ((Aa SS).heap 0 rfl T2)
 have hb1:h1.b=h.b:=T2.hb
 clear T2
 go_wp2
 refine leaves_cons (f:=95) (args:= #[.pointer (some ⟨h.b,0,none⟩)]) (by simp) (by simp[go_sem]) ?_
 have HL:=Ki h1 .returning _ ((Aa SS).hp 0 rfl) (by rw[hen];exact hE0)
 rw[hb1] at HL
 refine HL.mono ?_
 rintro e u2 w2 ⟨rfl,rfl,T3⟩
 replace SS:=Ab ((Aa SS).heap 0 rfl T3)
 exact⟨_,results_tmp2 rfl _ _ _,h1,y,er,rfl,hP,HP.To.end H (Aa SS) hb1⟩
theorem Yp (h:HP) (j:Nat)  (w:World) (H:h.Is w) (hf:h.fuel=0):Calls prog 120 #[.pointer (some ⟨h.b,0,none⟩), .int .i64 ((j:Int)+1)] w fun e w'=>e= .returned (.tuple #[.bool false,Bl 1])/\h.To h w w':=by
 have SS:=Ab H.start
 go_enter_defers func120,ntmps120
 go_wp2_with fail
 refine(Kn h _ _ ((Aa SS).hp 0 rfl) hf).mono ?_
 rintro _ _ ⟨rfl,rfl⟩
 go_wp2
 refine Br (results_tmp2 rfl _ _ _) rfl ?_
 exact⟨rfl,HP.To.end H (Aa SS) rfl⟩
theorem Yo (h:HP) (j:Nat)  (w:World) (H:h.Is w) (K:h.Ok) (hf:h.fuel≠0) (hd:h.ent=h.depth):Calls prog 120 #[.pointer (some ⟨h.b,0,none⟩), .int .i64 ((j:Int)+1)] w fun e w'=>e= .returned (.tuple #[.bool false,Bl 2])/\h.To h.less w w':=by
 have SS:=Ab H.start
 go_enter_defers func120,ntmps120
 go_wp2_with fail
 refine(Km h _ _ ((Aa SS).hp 0 rfl) K hf hd).mono ?_
 rintro _ Y1 ⟨rfl,T1⟩
 replace SS:=Ab ((Aa SS).heap 0 rfl T1)
 clear T1
 go_wp2
 refine Br (results_tmp2 rfl _ _ _) rfl ?_
 exact⟨rfl,HP.To.end H (Aa SS) rfl⟩
theorem Yn (h:HP) (j:Nat) (q:OB)  (P:HP->Bool->Value->Prop) (w:World) (H:h.Is w) (K:h.Ok) (hj:h.l[j]? =some q) (hf:h.fuel≠0) (hd:h.ent≠h.depth) (hC: ∀X,h.To h.inn w X->Calls prog 205 #[.agg #[], .pointer (some ⟨h.b,0,none⟩), .int .i64 ((j:Int)+1)] X fun e w'=> ∃(h1:HP) (y:Bool) (er:Value),e= .returned (.tuple #[.bool y,er])/\P h1 y er/\h1.ent=h.ent+1/\h.inn.To h1 X w'):Calls prog 120 #[.pointer (some ⟨h.b,0,none⟩), .int .i64 ((j:Int)+1)] w fun e w'=> ∃(h1:HP) (y:Bool) (er:Value),e= .returned (.tuple #[.bool y,er])/\P h1 y er/\h.To h1.out w w':=by
 have SS:=Ab H.start
 have HC:=Ab hC
 have hE0:0<=h.ent+1/\h.ent+1<=100000001:=by have:=K.e0;have:=K.e1;have:=K.d1;omega
 clear hC
 go_enter_defers func120,ntmps120
 go_wp2_with fail
 refine(Kl h j q _ ((Aa SS).hp 0 rfl) K hj hf hd).mono ?_
 rintro _ Y1 ⟨rfl,T1⟩
 replace SS:=Ab ((Aa SS).heap 0 rfl T1)
 clear T1
 unfold Zi
 go_wp2_with fail
 refine(Aa HC _ (HP.To.end H (Aa SS) rfl)).mono ?_
 rintro _ Y2 ⟨h1,y,er,rfl,hP,hen,T2⟩
 replace SS:=Ab ((Aa SS).heap 0 rfl T2)
 have hb1:h1.b=h.b:=T2.hb
 clear T2
 go_wp2
 refine leaves_cons (f:=95) (args:= #[.pointer (some ⟨h.b,0,none⟩)]) (by simp) (by simp[go_sem]) ?_
 have HL:=Ki h1 .returning _ ((Aa SS).hp 0 rfl) (by rw[hen];exact hE0)
 rw[hb1] at HL
 refine HL.mono ?_
 rintro e u2 w2 ⟨rfl,rfl,T3⟩
 replace SS:=Ab ((Aa SS).heap 0 rfl T3)
 exact⟨_,results_tmp2 rfl _ _ _,h1,y,er,rfl,hP,HP.To.end H (Aa SS) hb1⟩
theorem Pc (h:HP) (j:Nat)  (w:World) (H:h.Is w) (hf:h.fuel=0):Calls prog 121 #[.pointer (some ⟨h.b,0,none⟩), .int .i64 ((j:Int)+1)] w fun e w'=>e= .returned (.tuple #[.bool false,Bl 1])/\h.To h w w':=by
 have SS:=Ab H.start
 go_enter_defers func121,ntmps121
 go_wp2_with fail
 refine(Kn h _ _ ((Aa SS).hp 0 rfl) hf).mono ?_
 rintro _ _ ⟨rfl,rfl⟩
 go_wp2
 refine Br (results_tmp2 rfl _ _ _) rfl ?_
 exact⟨rfl,HP.To.end H (Aa SS) rfl⟩
theorem Pb (h:HP) (j:Nat)  (w:World) (H:h.Is w) (K:h.Ok) (hf:h.fuel≠0) (hd:h.ent=h.depth):Calls prog 121 #[.pointer (some ⟨h.b,0,none⟩), .int .i64 ((j:Int)+1)] w fun e w'=>e= .returned (.tuple #[.bool false,Bl 2])/\h.To h.less w w':=by
 have SS:=Ab H.start
 go_enter_defers func121,ntmps121
 go_wp2_with fail
 refine(Km h _ _ ((Aa SS).hp 0 rfl) K hf hd).mono ?_
 rintro _ Y1 ⟨rfl,T1⟩
 replace SS:=Ab ((Aa SS).heap 0 rfl T1)
 clear T1
 go_wp2
 refine Br (results_tmp2 rfl _ _ _) rfl ?_
 exact⟨rfl,HP.To.end H (Aa SS) rfl⟩
theorem Pa (h:HP) (j:Nat) (q:OB)  (P:HP->Bool->Value->Prop) (w:World) (H:h.Is w) (K:h.Ok) (hj:h.l[j]? =some q) (hf:h.fuel≠0) (hd:h.ent≠h.depth) (hC: ∀X,h.To h.inn w X->Calls prog 207 #[.agg #[], .pointer (some ⟨h.b,0,none⟩), .int .i64 ((j:Int)+1)] X fun e w'=> ∃(h1:HP) (y:Bool) (er:Value),e= .returned (.tuple #[.bool y,er])/\P h1 y er/\h1.ent=h.ent+1/\h.inn.To h1 X w'):Calls prog 121 #[.pointer (some ⟨h.b,0,none⟩), .int .i64 ((j:Int)+1)] w fun e w'=> ∃(h1:HP) (y:Bool) (er:Value),e= .returned (.tuple #[.bool y,er])/\P h1 y er/\h.To h1.out w w':=by
 have SS:=Ab H.start
 have HC:=Ab hC
 have hE0:0<=h.ent+1/\h.ent+1<=100000001:=by have:=K.e0;have:=K.e1;have:=K.d1;omega
 clear hC
 go_enter_defers func121,ntmps121
 go_wp2_with fail
 refine(Kl h j q _ ((Aa SS).hp 0 rfl) K hj hf hd).mono ?_
 rintro _ Y1 ⟨rfl,T1⟩
 replace SS:=Ab ((Aa SS).heap 0 rfl T1)
 clear T1
 unfold Zi
 go_wp2_with fail
 refine(Aa HC _ (HP.To.end H (Aa SS) rfl)).mono ?_
 rintro _ Y2 ⟨h1,y,er,rfl,hP,hen,T2⟩
 replace SS:=Ab ((Aa SS).heap 0 rfl T2)
 have hb1:h1.b=h.b:=T2.hb
 clear T2
 go_wp2
 refine leaves_cons (f:=95) (args:= #[.pointer (some ⟨h.b,0,none⟩)]) (by simp) (by simp[go_sem]) ?_
 have HL:=Ki h1 .returning _ ((Aa SS).hp 0 rfl) (by rw[hen];exact hE0)
 rw[hb1] at HL
 refine HL.mono ?_
 rintro e u2 w2 ⟨rfl,rfl,T3⟩
 replace SS:=Ab ((Aa SS).heap 0 rfl T3)
 exact⟨_,results_tmp2 rfl _ _ _,h1,y,er,rfl,hP,HP.To.end H (Aa SS) hb1⟩
theorem Uc (h:HP) (j:Nat) (k:KK) (w:World) (H:h.Is w) (hf:h.fuel=0):Calls prog 122 #[.pointer (some ⟨h.b,0,none⟩), .int .i64 ((j:Int)+1),k.agg] w fun e w'=>e= .returned (.tuple #[zeroD.agg, .bool false,Bl 1])/\h.To h w w':=by
 have SS:=Ab H.start
 rw[Dj]
 go_enter_defers func122,ntmps122
 go_wp2_with (first|go_skip|((with_reducible show wpList ..);first|(refine zB 37 (k.cs) (by rfl) rfl rfl rfl SS ?_;clear SS;intro Xp0 Bp0 SS;simp only[nn])|(refine zA 43 (zeroD.cs) (by rfl) rfl SS ?_;clear SS;intro Xc Bc SS;simp only[nn])))
 refine(Kn h _ _ ((Aa SS).hp 0 rfl) hf).mono ?_
 rintro _ _ ⟨rfl,rfl⟩
 go_wp2_with (first|go_skip|((with_reducible show wpList ..);first|(refine rd rfl (Vl rfl) ?_)|(refine zS (zeroD.cs) 2 43 (by rfl) rfl rfl rfl rfl (Dz _) szD SS rfl ?_;clear SS;intro Xz SS;simp only[nn])))
 refine Br (Lq rwD szD rfl rfl rfl rfl ((Aa SS).hold 2 rfl) rfl) rfl ?_
 exact⟨rfl,HP.To.end H (Aa SS) rfl⟩
theorem Ub (h:HP) (j:Nat) (k:KK) (w:World) (H:h.Is w) (K:h.Ok) (hf:h.fuel≠0) (hd:h.ent=h.depth):Calls prog 122 #[.pointer (some ⟨h.b,0,none⟩), .int .i64 ((j:Int)+1),k.agg] w fun e w'=>e= .returned (.tuple #[zeroD.agg, .bool false,Bl 2])/\h.To h.less w w':=by
 have SS:=Ab H.start
 rw[Dj]
 go_enter_defers func122,ntmps122
 go_wp2_with (first|go_skip|((with_reducible show wpList ..);first|(refine zB 37 (k.cs) (by rfl) rfl rfl rfl SS ?_;clear SS;intro Xp0 Bp0 SS;simp only[nn])|(refine zA 43 (zeroD.cs) (by rfl) rfl SS ?_;clear SS;intro Xc Bc SS;simp only[nn])))
 refine(Km h _ _ ((Aa SS).hp 0 rfl) K hf hd).mono ?_
 rintro _ Y1 ⟨rfl,T1⟩
 replace SS:=Ab ((Aa SS).heap 0 rfl T1)
 clear T1
 go_wp2_with (first|go_skip|((with_reducible show wpList ..);first|(refine rd rfl (Vl rfl) ?_)|(refine zS (zeroD.cs) 2 43 (by rfl) rfl rfl rfl rfl (Dz _) szD SS rfl ?_;clear SS;intro Xz SS;simp only[nn])))
 refine Br (Lq rwD szD rfl rfl rfl rfl ((Aa SS).hold 2 rfl) rfl) rfl ?_
 exact⟨rfl,HP.To.end H (Aa SS) rfl⟩
theorem Mh (h:HP) (j:Nat) (q:OB) (k:KK) (P:HP->DD->Bool->Value->Prop) (w:World) (H:h.Is w) (K:h.Ok) (hj:h.l[j]? =some q) (hf:h.fuel≠0) (hd:h.ent≠h.depth) (hC: ∀X,h.To h.inn w X->Calls prog 202 #[.agg #[], .pointer (some ⟨h.b,0,none⟩), .int .i64 ((j:Int)+1),k.agg] X fun e w'=> ∃(h1:HP) (V:DD) (y:Bool) (er:Value),e= .returned (.tuple #[V.agg, .bool y,er])/\P h1 V y er/\h1.ent=h.ent+1/\h.inn.To h1 X w'):Calls prog 122 #[.pointer (some ⟨h.b,0,none⟩), .int .i64 ((j:Int)+1),k.agg] w fun e w'=> ∃(h1:HP) (V:DD) (y:Bool) (er:Value),e= .returned (.tuple #[V.agg, .bool y,er])/\P h1 V y er/\h.To h1.out w w':=by
 have SS:=Ab H.start
 have HC:=Ab hC
 have hE0:0<=h.ent+1/\h.ent+1<=100000001:=by have:=K.e0;have:=K.e1;have:=K.d1;omega
 clear hC
 rw[Dj] at HC ⊢
 go_enter_defers func122,ntmps122
 go_wp2_with (first|go_skip|((with_reducible show wpList ..);first|(refine zB 37 (k.cs) (by rfl) rfl rfl rfl SS ?_;clear SS;intro Xp0 Bp0 SS;simp only[nn])|(refine zA 43 (zeroD.cs) (by rfl) rfl SS ?_;clear SS;intro Xc Bc SS;simp only[nn])))
 refine(Kl h j q _ ((Aa SS).hp 0 rfl) K hj hf hd).mono ?_
 rintro _ Y1 ⟨rfl,T1⟩
 replace SS:=Ab ((Aa SS).heap 0 rfl T1)
 clear T1
 unfold Zi
 go_wp2_with (first|go_skip|((with_reducible show wpList ..);first|(refine zL (k.cs) 37 2 1 rwK szK (by rfl) rfl rfl SS rfl rfl rfl ?_;simp only[nn])))
 refine(Aa HC _ (HP.To.end H (Aa SS) rfl)).mono ?_
 rintro _ Y2 ⟨h1,V,y,er,rfl,hP,hen,T2⟩
 replace SS:=Ab ((Aa SS).heap 0 rfl T2)
 have hb1:h1.b=h.b:=T2.hb
 clear T2
 go_wp2_with (first|go_skip|((with_reducible show wpList ..);first|(refine zS (V.cs) 2 43 (by rfl) rfl rfl rfl rfl (Dz _) szD SS rfl ?_;clear SS;intro Xz SS;simp only[nn])))
 refine leaves_cons (f:=95) (args:= #[.pointer (some ⟨h.b,0,none⟩)]) (by simp) (by simp[go_sem]) ?_
 have HL:=Ki h1 .returning _ ((Aa SS).hp 0 rfl) (by rw[hen];exact hE0)
 rw[hb1] at HL
 refine HL.mono ?_
 rintro e u2 w2 ⟨rfl,rfl,T3⟩
 replace SS:=Ab ((Aa SS).heap 0 rfl T3)
 exact⟨_,Lq rwD szD rfl rfl rfl rfl ((Aa SS).hold 2 rfl) rfl,h1,V,y,er,rfl,hP,HP.To.end H (Aa SS) hb1⟩
theorem Pe (h:HP) (j:Nat) (k:KK) (d:DD) (w:World) (H:h.Is w) (hf:h.fuel=0):Calls prog 42 #[.pointer (some ⟨h.b,0,none⟩), .int .i64 ((j:Int)+1),k.agg,d.agg] w fun e w'=>e= .returned (.tuple #[.bool false,Bl 1])/\h.To h w w':=by
 have SS:=Ab H.start
 rw[Mi,Dj]
 go_enter_defers func42,ntmps42
 go_wp2_with (first|go_skip|((with_reducible show wpList ..);first|(refine zB 37 (k.cs) (by rfl) rfl rfl rfl SS ?_;clear SS;intro Xp0 Bp0 SS;simp only[nn])|(refine zB 43 (d.cs) (by rfl) rfl rfl rfl SS ?_;clear SS;intro Xp1 Bp1 SS;simp only[nn])))
 refine(Kn h _ _ ((Aa SS).hp 0 rfl) hf).mono ?_
 rintro _ _ ⟨rfl,rfl⟩
 go_wp2
 refine Br (results_tmp2 rfl _ _ _) rfl ?_
 exact⟨rfl,HP.To.end H (Aa SS) rfl⟩
theorem Pd (h:HP) (j:Nat) (k:KK) (d:DD) (w:World) (H:h.Is w) (K:h.Ok) (hf:h.fuel≠0) (hd:h.ent=h.depth):Calls prog 42 #[.pointer (some ⟨h.b,0,none⟩), .int .i64 ((j:Int)+1),k.agg,d.agg] w fun e w'=>e= .returned (.tuple #[.bool false,Bl 2])/\h.To h.less w w':=by
 have SS:=Ab H.start
 rw[Mi,Dj]
 go_enter_defers func42,ntmps42
 go_wp2_with (first|go_skip|((with_reducible show wpList ..);first|(refine zB 37 (k.cs) (by rfl) rfl rfl rfl SS ?_;clear SS;intro Xp0 Bp0 SS;simp only[nn])|(refine zB 43 (d.cs) (by rfl) rfl rfl rfl SS ?_;clear SS;intro Xp1 Bp1 SS;simp only[nn])))
 refine(Km h _ _ ((Aa SS).hp 0 rfl) K hf hd).mono ?_
 rintro _ Y1 ⟨rfl,T1⟩
 replace SS:=Ab ((Aa SS).heap 0 rfl T1)
 clear T1
 go_wp2
 refine Br (results_tmp2 rfl _ _ _) rfl ?_
 exact⟨rfl,HP.To.end H (Aa SS) rfl⟩
theorem Ks (h:HP) (j:Nat) (q:OB) (k:KK) (d:DD) (P:HP->Bool->Value->Prop) (w:World) (H:h.Is w) (K:h.Ok) (hj:h.l[j]? =some q) (hf:h.fuel≠0) (hd:h.ent≠h.depth) (hC: ∀X,h.To h.inn w X->Calls prog 60 #[.agg #[], .pointer (some ⟨h.b,0,none⟩), .int .i64 ((j:Int)+1),k.agg,d.agg] X fun e w'=> ∃(h1:HP) (y:Bool) (er:Value),e= .returned (.tuple #[.bool y,er])/\P h1 y er/\h1.ent=h.ent+1/\h.inn.To h1 X w'):Calls prog 42 #[.pointer (some ⟨h.b,0,none⟩), .int .i64 ((j:Int)+1),k.agg,d.agg] w fun e w'=> ∃(h1:HP) (y:Bool) (er:Value),e= .returned (.tuple #[.bool y,er])/\P h1 y er/\h.To h1.out w w':=by
 have SS:=Ab H.start
 have HC:=Ab hC
 have hE0:0<=h.ent+1/\h.ent+1<=100000001:=by have:=K.e0;have:=K.e1;have:=K.d1;omega
 clear hC
 rw[Mi,Dj] at HC ⊢
 go_enter_defers func42,ntmps42
 go_wp2_with (first|go_skip|((with_reducible show wpList ..);first|(refine zB 37 (k.cs) (by rfl) rfl rfl rfl SS ?_;clear SS;intro Xp0 Bp0 SS;simp only[nn])|(refine zB 43 (d.cs) (by rfl) rfl rfl rfl SS ?_;clear SS;intro Xp1 Bp1 SS;simp only[nn])))
 refine(Kl h j q _ ((Aa SS).hp 0 rfl) K hj hf hd).mono ?_
 rintro _ Y1 ⟨rfl,T1⟩
 replace SS:=Ab ((Aa SS).heap 0 rfl T1)
 clear T1
 unfold Zi
 go_wp2_with (first|go_skip|((with_reducible show wpList ..);first|(refine zL (k.cs) 37 2 1 rwK szK (by rfl) rfl rfl SS rfl rfl rfl ?_;simp only[nn])|(refine zL (d.cs) 43 18 2 rwD szD (by rfl) rfl rfl SS rfl rfl rfl ?_;simp only[nn])))
 refine(Aa HC _ (HP.To.end H (Aa SS) rfl)).mono ?_
 rintro _ Y2 ⟨h1,y,er,rfl,hP,hen,T2⟩
 replace SS:=Ab ((Aa SS).heap 0 rfl T2)
 have hb1:h1.b=h.b:=T2.hb
 clear T2
 go_wp2
 refine leaves_cons (f:=95) (args:= #[.pointer (some ⟨h.b,0,none⟩)]) (by simp) (by simp[go_sem]) ?_
 have HL:=Ki h1 .returning _ ((Aa SS).hp 0 rfl) (by rw[hen];exact hE0)
 rw[hb1] at HL
 refine HL.mono ?_
 rintro e u2 w2 ⟨rfl,rfl,T3⟩
 replace SS:=Ab ((Aa SS).heap 0 rfl T3)
 exact⟨_,results_tmp2 rfl _ _ _,h1,y,er,rfl,hP,HP.To.end H (Aa SS) hb1⟩
theorem Zq (h:HP) (j:Nat) (k:KK) (w:World) (H:h.Is w) (hf:h.fuel=0):Calls prog 123 #[.pointer (some ⟨h.b,0,none⟩), .int .i64 ((j:Int)+1),k.agg] w fun e w'=>e= .returned (.tuple #[.bool false,Bl 1])/\h.To h w w':=by
 have SS:=Ab H.start
 rw[Dj]
 go_enter_defers func123,ntmps123
 go_wp2_with (first|go_skip|((with_reducible show wpList ..);first|(refine zB 37 (k.cs) (by rfl) rfl rfl rfl SS ?_;clear SS;intro Xp0 Bp0 SS;simp only[nn])))
 refine(Kn h _ _ ((Aa SS).hp 0 rfl) hf).mono ?_
 rintro _ _ ⟨rfl,rfl⟩
 go_wp2
 refine Br (results_tmp2 rfl _ _ _) rfl ?_
 exact⟨rfl,HP.To.end H (Aa SS) rfl⟩
theorem Zp (h:HP) (j:Nat) (k:KK) (w:World) (H:h.Is w) (K:h.Ok) (hf:h.fuel≠0) (hd:h.ent=h.depth):Calls prog 123 #[.pointer (some ⟨h.b,0,none⟩), .int .i64 ((j:Int)+1),k.agg] w fun e w'=>e= .returned (.tuple #[.bool false,Bl 2])/\h.To h.less w w':=by
 have SS:=Ab H.start
 rw[Dj]
 go_enter_defers func123,ntmps123
 go_wp2_with (first|go_skip|((with_reducible show wpList ..);first|(refine zB 37 (k.cs) (by rfl) rfl rfl rfl SS ?_;clear SS;intro Xp0 Bp0 SS;simp only[nn])))
 refine(Km h _ _ ((Aa SS).hp 0 rfl) K hf hd).mono ?_
 rintro _ Y1 ⟨rfl,T1⟩
 replace SS:=Ab ((Aa SS).heap 0 rfl T1)
 clear T1
 go_wp2
 refine Br (results_tmp2 rfl _ _ _) rfl ?_
 exact⟨rfl,HP.To.end H (Aa SS) rfl⟩
theorem Zo (h:HP) (j:Nat) (q:OB) (k:KK) (P:HP->Bool->Value->Prop) (w:World) (H:h.Is w) (K:h.Ok) (hj:h.l[j]? =some q) (hf:h.fuel≠0) (hd:h.ent≠h.depth) (hC: ∀X,h.To h.inn w X->Calls prog 204 #[.agg #[], .pointer (some ⟨h.b,0,none⟩), .int .i64 ((j:Int)+1),k.agg] X fun e w'=> ∃(h1:HP) (y:Bool) (er:Value),e= .returned (.tuple #[.bool y,er])/\P h1 y er/\h1.ent=h.ent+1/\h.inn.To h1 X w'):Calls prog 123 #[.pointer (some ⟨h.b,0,none⟩), .int .i64 ((j:Int)+1),k.agg] w fun e w'=> ∃(h1:HP) (y:Bool) (er:Value),e= .returned (.tuple #[.bool y,er])/\P h1 y er/\h.To h1.out w w':=by
 have SS:=Ab H.start
 have HC:=Ab hC
 have hE0:0<=h.ent+1/\h.ent+1<=100000001:=by have:=K.e0;have:=K.e1;have:=K.d1;omega
 clear hC
 rw[Dj] at HC ⊢
 go_enter_defers func123,ntmps123
 go_wp2_with (first|go_skip|((with_reducible show wpList ..);first|(refine zB 37 (k.cs) (by rfl) rfl rfl rfl SS ?_;clear SS;intro Xp0 Bp0 SS;simp only[nn])))
 refine(Kl h j q _ ((Aa SS).hp 0 rfl) K hj hf hd).mono ?_
 rintro _ Y1 ⟨rfl,T1⟩
 replace SS:=Ab ((Aa SS).heap 0 rfl T1)
 clear T1
 unfold Zi
 go_wp2_with (first|go_skip|((with_reducible show wpList ..);first|(refine zL (k.cs) 37 2 1 rwK szK (by rfl) rfl rfl SS rfl rfl rfl ?_;simp only[nn])))
 refine(Aa HC _ (HP.To.end H (Aa SS) rfl)).mono ?_
 rintro _ Y2 ⟨h1,y,er,rfl,hP,hen,T2⟩
 replace SS:=Ab ((Aa SS).heap 0 rfl T2)
 have hb1:h1.b=h.b:=T2.hb
 clear T2
 go_wp2
 refine leaves_cons (f:=95) (args:= #[.pointer (some ⟨h.b,0,none⟩)]) (by simp) (by simp[go_sem]) ?_
 have HL:=Ki h1 .returning _ ((Aa SS).hp 0 rfl) (by rw[hen];exact hE0)
 rw[hb1] at HL
 refine HL.mono ?_
 rintro e u2 w2 ⟨rfl,rfl,T3⟩
 replace SS:=Ab ((Aa SS).heap 0 rfl T3)
 exact⟨_,results_tmp2 rfl _ _ _,h1,y,er,rfl,hP,HP.To.end H (Aa SS) hb1⟩
theorem enGet_0 (h:HP) (j:Nat) (k:KK) (r:VV) (w:World) (H:h.Is w) (hf:h.fuel=0):Calls prog 44 #[.pointer (some ⟨h.b,0,none⟩), .int .i64 ((j:Int)+1),k.agg,r.agg] w fun e w'=>e= .returned (.tuple #[Av.agg,Bl 1])/\h.To h w w':=by
 have SS:=Ab H.start
 rw[Dj,Bu]
 go_enter_defers func44,ntmps44
 go_wp2_with (first|go_skip|((with_reducible show wpList ..);first|(refine zB 37 (k.cs) (by rfl) rfl rfl rfl SS ?_;clear SS;intro Xp0 Bp0 SS;simp only[nn])|(refine zB 40 (r.cs) (by rfl) rfl rfl rfl SS ?_;clear SS;intro Xp1 Bp1 SS;simp only[nn])|(refine zA 40 (Av.cs) (by rfl) rfl SS ?_;clear SS;intro Xc Bc SS;simp only[nn])))
 refine(Kn h _ _ ((Aa SS).hp 0 rfl) hf).mono ?_
 rintro _ _ ⟨rfl,rfl⟩
 go_wp2_with (first|go_skip|((with_reducible show wpList ..);first|(refine rd rfl (Ny rfl) ?_)|(refine zS (Av.cs) 3 40 (by rfl) rfl rfl rfl rfl (Ea _) szV SS rfl ?_;clear SS;intro Xz SS;simp only[nn])))
 refine Br (Gf rwV szV rfl rfl rfl ((Aa SS).hold 3 rfl) rfl) rfl ?_
 exact⟨rfl,HP.To.end H (Aa SS) rfl⟩
theorem enGet_d (h:HP) (j:Nat) (k:KK) (r:VV) (w:World) (H:h.Is w) (K:h.Ok) (hf:h.fuel≠0) (hd:h.ent=h.depth):Calls prog 44 #[.pointer (some ⟨h.b,0,none⟩), .int .i64 ((j:Int)+1),k.agg,r.agg] w fun e w'=>e= .returned (.tuple #[Av.agg,Bl 2])/\h.To h.less w w':=by
 have SS:=Ab H.start
 rw[Dj,Bu]
 go_enter_defers func44,ntmps44
 go_wp2_with (first|go_skip|((with_reducible show wpList ..);first|(refine zB 37 (k.cs) (by rfl) rfl rfl rfl SS ?_;clear SS;intro Xp0 Bp0 SS;simp only[nn])|(refine zB 40 (r.cs) (by rfl) rfl rfl rfl SS ?_;clear SS;intro Xp1 Bp1 SS;simp only[nn])|(refine zA 40 (Av.cs) (by rfl) rfl SS ?_;clear SS;intro Xc Bc SS;simp only[nn])))
 refine(Km h _ _ ((Aa SS).hp 0 rfl) K hf hd).mono ?_
 rintro _ Y1 ⟨rfl,T1⟩
 replace SS:=Ab ((Aa SS).heap 0 rfl T1)
 clear T1
 go_wp2_with (first|go_skip|((with_reducible show wpList ..);first|(refine rd rfl (Ny rfl) ?_)|(refine zS (Av.cs) 3 40 (by rfl) rfl rfl rfl rfl (Ea _) szV SS rfl ?_;clear SS;intro Xz SS;simp only[nn])))
 refine Br (Gf rwV szV rfl rfl rfl ((Aa SS).hold 3 rfl) rfl) rfl ?_
 exact⟨rfl,HP.To.end H (Aa SS) rfl⟩
theorem Zcz (h:HP) (j:Nat) (q:OB) (k:KK) (r:VV) (P:HP->VV->Value->Prop) (w:World) (H:h.Is w) (K:h.Ok) (hj:h.l[j]? =some q) (hf:h.fuel≠0) (hd:h.ent≠h.depth) (hC: ∀X,h.To h.inn w X->Calls prog 201 #[.agg #[], .pointer (some ⟨h.b,0,none⟩), .int .i64 ((j:Int)+1),k.agg,r.agg] X fun e w'=> ∃(h1:HP) (V:VV) (er:Value),e= .returned (.tuple #[V.agg,er])/\P h1 V er/\h1.ent=h.ent+1/\h.inn.To h1 X w'):Calls prog 44 #[.pointer (some ⟨h.b,0,none⟩), .int .i64 ((j:Int)+1),k.agg,r.agg] w fun e w'=> ∃(h1:HP) (V:VV) (er:Value),e= .returned (.tuple #[V.agg,er])/\P h1 V er/\h.To h1.out w w':=by
 have SS:=Ab H.start
 have HC:=Ab hC
 have hE0:0<=h.ent+1/\h.ent+1<=100000001:=by have:=K.e0;have:=K.e1;have:=K.d1;omega
 clear hC
 rw[Dj,Bu] at HC ⊢
 go_enter_defers func44,ntmps44
 go_wp2_with (first|go_skip|((with_reducible show wpList ..);first|(refine zB 37 (k.cs) (by rfl) rfl rfl rfl SS ?_;clear SS;intro Xp0 Bp0 SS;simp only[nn])|(refine zB 40 (r.cs) (by rfl) rfl rfl rfl SS ?_;clear SS;intro Xp1 Bp1 SS;simp only[nn])|(refine zA 40 (Av.cs) (by rfl) rfl SS ?_;clear SS;intro Xc Bc SS;simp only[nn])))
 refine(Kl h j q _ ((Aa SS).hp 0 rfl) K hj hf hd).mono ?_
 rintro _ Y1 ⟨rfl,T1⟩
 replace SS:=Ab ((Aa SS).heap 0 rfl T1)
 clear T1
 unfold Zi
 go_wp2_with (first|go_skip|((with_reducible show wpList ..);first|(refine zL (k.cs) 37 2 1 rwK szK (by rfl) rfl rfl SS rfl rfl rfl ?_;simp only[nn])|(refine zL (r.cs) 40 5 2 rwV szV (by rfl) rfl rfl SS rfl rfl rfl ?_;simp only[nn])))
 refine(Aa HC _ (HP.To.end H (Aa SS) rfl)).mono ?_
 rintro _ Y2 ⟨h1,V,er,rfl,hP,hen,T2⟩
 replace SS:=Ab ((Aa SS).heap 0 rfl T2)
 have hb1:h1.b=h.b:=T2.hb
 clear T2
 go_wp2_with (first|go_skip|((with_reducible show wpList ..);first|(refine zS (V.cs) 3 40 (by rfl) rfl rfl rfl rfl (Ea _) szV SS rfl ?_;clear SS;intro Xz SS;simp only[nn])))
 refine leaves_cons (f:=95) (args:= #[.pointer (some ⟨h.b,0,none⟩)]) (by simp) (by simp[go_sem]) ?_
 have HL:=Ki h1 .returning _ ((Aa SS).hp 0 rfl) (by rw[hen];exact hE0)
 rw[hb1] at HL
 refine HL.mono ?_
 rintro e u2 w2 ⟨rfl,rfl,T3⟩
 replace SS:=Ab ((Aa SS).heap 0 rfl T3)
 exact⟨_,Gf rwV szV rfl rfl rfl ((Aa SS).hold 3 rfl) rfl,h1,V,er,rfl,hP,HP.To.end H (Aa SS) hb1⟩
theorem enSet_0 (h:HP) (j:Nat) (k:KK) (v:VV) (r:VV) (w:World) (H:h.Is w) (hf:h.fuel=0):Calls prog 45 #[.pointer (some ⟨h.b,0,none⟩), .int .i64 ((j:Int)+1),k.agg,v.agg,r.agg] w fun e w'=>e= .returned (.tuple #[.bool false,Bl 1])/\h.To h w w':=by
 have SS:=Ab H.start
 rw[Dj,Bu,Bu]
 go_enter_defers func45,ntmps45
 go_wp2_with (first|go_skip|((with_reducible show wpList ..);first|(refine zB 37 (k.cs) (by rfl) rfl rfl rfl SS ?_;clear SS;intro Xp0 Bp0 SS;simp only[nn])|(refine zB 40 (v.cs) (by rfl) rfl rfl rfl SS ?_;clear SS;intro Xp1 Bp1 SS;simp only[nn])|(refine zB 40 (r.cs) (by rfl) rfl rfl rfl SS ?_;clear SS;intro Xp2 Bp2 SS;simp only[nn])))
 refine(Kn h _ _ ((Aa SS).hp 0 rfl) hf).mono ?_
 rintro _ _ ⟨rfl,rfl⟩
 go_wp2
 refine Br (results_tmp2 rfl _ _ _) rfl ?_
 exact⟨rfl,HP.To.end H (Aa SS) rfl⟩
theorem enSet_d (h:HP) (j:Nat) (k:KK) (v:VV) (r:VV) (w:World) (H:h.Is w) (K:h.Ok) (hf:h.fuel≠0) (hd:h.ent=h.depth):Calls prog 45 #[.pointer (some ⟨h.b,0,none⟩), .int .i64 ((j:Int)+1),k.agg,v.agg,r.agg] w fun e w'=>e= .returned (.tuple #[.bool false,Bl 2])/\h.To h.less w w':=by
 have SS:=Ab H.start
 rw[Dj,Bu,Bu]
 go_enter_defers func45,ntmps45
 go_wp2_with (first|go_skip|((with_reducible show wpList ..);first|(refine zB 37 (k.cs) (by rfl) rfl rfl rfl SS ?_;clear SS;intro Xp0 Bp0 SS;simp only[nn])|(refine zB 40 (v.cs) (by rfl) rfl rfl rfl SS ?_;clear SS;intro Xp1 Bp1 SS;simp only[nn])|(refine zB 40 (r.cs) (by rfl) rfl rfl rfl SS ?_;clear SS;intro Xp2 Bp2 SS;simp only[nn])))
 refine(Km h _ _ ((Aa SS).hp 0 rfl) K hf hd).mono ?_
 rintro _ Y1 ⟨rfl,T1⟩
 replace SS:=Ab ((Aa SS).heap 0 rfl T1)
 clear T1
 go_wp2
 refine Br (results_tmp2 rfl _ _ _) rfl ?_
 exact⟨rfl,HP.To.end H (Aa SS) rfl⟩
theorem Zcy (h:HP) (j:Nat) (q:OB) (k:KK) (v:VV) (r:VV) (P:HP->Bool->Value->Prop) (w:World) (H:h.Is w) (K:h.Ok) (hj:h.l[j]? =some q) (hf:h.fuel≠0) (hd:h.ent≠h.depth) (hC: ∀X,h.To h.inn w X->Calls prog 208 #[.agg #[], .pointer (some ⟨h.b,0,none⟩), .int .i64 ((j:Int)+1),k.agg,v.agg,r.agg] X fun e w'=> ∃(h1:HP) (y:Bool) (er:Value),e= .returned (.tuple #[.bool y,er])/\P h1 y er/\h1.ent=h.ent+1/\h.inn.To h1 X w'):Calls prog 45 #[.pointer (some ⟨h.b,0,none⟩), .int .i64 ((j:Int)+1),k.agg,v.agg,r.agg] w fun e w'=> ∃(h1:HP) (y:Bool) (er:Value),e= .returned (.tuple #[.bool y,er])/\P h1 y er/\h.To h1.out w w':=by
 have SS:=Ab H.start
 have HC:=Ab hC
 have hE0:0<=h.ent+1/\h.ent+1<=100000001:=by have:=K.e0;have:=K.e1;have:=K.d1;omega
 clear hC
 rw[Dj,Bu,Bu] at HC ⊢
 go_enter_defers func45,ntmps45
 go_wp2_with (first|go_skip|((with_reducible show wpList ..);first|(refine zB 37 (k.cs) (by rfl) rfl rfl rfl SS ?_;clear SS;intro Xp0 Bp0 SS;simp only[nn])|(refine zB 40 (v.cs) (by rfl) rfl rfl rfl SS ?_;clear SS;intro Xp1 Bp1 SS;simp only[nn])|(refine zB 40 (r.cs) (by rfl) rfl rfl rfl SS ?_;clear SS;intro Xp2 Bp2 SS;simp only[nn])))
 refine(Kl h j q _ ((Aa SS).hp 0 rfl) K hj hf hd).mono ?_
 rintro _ Y1 ⟨rfl,T1⟩
 replace SS:=Ab ((Aa SS).heap 0 rfl T1)
 clear T1
 unfold Zi
 go_wp2_with (first|go_skip|((with_reducible show wpList ..);first|(refine zL (k.cs) 37 2 1 rwK szK (by rfl) rfl rfl SS rfl rfl rfl ?_;simp only[nn])|(refine zL (v.cs) 40 5 2 rwV szV (by rfl) rfl rfl SS rfl rfl rfl ?_;simp only[nn])|(refine zL (r.cs) 40 5 3 rwV szV (by rfl) rfl rfl SS rfl rfl rfl ?_;simp only[nn])))
 refine(Aa HC _ (HP.To.end H (Aa SS) rfl)).mono ?_
 rintro _ Y2 ⟨h1,y,er,rfl,hP,hen,T2⟩
 replace SS:=Ab ((Aa SS).heap 0 rfl T2)
 have hb1:h1.b=h.b:=T2.hb
 clear T2
 go_wp2
 refine leaves_cons (f:=95) (args:= #[.pointer (some ⟨h.b,0,none⟩)]) (by simp) (by simp[go_sem]) ?_
 have HL:=Ki h1 .returning _ ((Aa SS).hp 0 rfl) (by rw[hen];exact hE0)
 rw[hb1] at HL
 refine HL.mono ?_
 rintro e u2 w2 ⟨rfl,rfl,T3⟩
 replace SS:=Ab ((Aa SS).heap 0 rfl T3)
 exact⟨_,results_tmp2 rfl _ _ _,h1,y,er,rfl,hP,HP.To.end H (Aa SS) hb1⟩
theorem Zex (h:HP) (j:Nat) (k:KK) (w:World) (H:h.Is w) (hf:h.fuel=0):Calls prog 124 #[.pointer (some ⟨h.b,0,none⟩), .int .i64 ((j:Int)+1),k.agg] w fun e w'=>e= .returned (.tuple #[.bool false,Bl 1])/\h.To h w w':=by
 have SS:=Ab H.start
 rw[Dj]
 go_enter_defers func124,ntmps124
 go_wp2_with (first|go_skip|((with_reducible show wpList ..);first|(refine zB 37 (k.cs) (by rfl) rfl rfl rfl SS ?_;clear SS;intro Xp0 Bp0 SS;simp only[nn])))
 refine(Kn h _ _ ((Aa SS).hp 0 rfl) hf).mono ?_
 rintro _ _ ⟨rfl,rfl⟩
 go_wp2
 refine Br (results_tmp2 rfl _ _ _) rfl ?_
 exact⟨rfl,HP.To.end H (Aa SS) rfl⟩
theorem Zew (h:HP) (j:Nat) (k:KK) (w:World) (H:h.Is w) (K:h.Ok) (hf:h.fuel≠0) (hd:h.ent=h.depth):Calls prog 124 #[.pointer (some ⟨h.b,0,none⟩), .int .i64 ((j:Int)+1),k.agg] w fun e w'=>e= .returned (.tuple #[.bool false,Bl 2])/\h.To h.less w w':=by
 have SS:=Ab H.start
 rw[Dj]
 go_enter_defers func124,ntmps124
 go_wp2_with (first|go_skip|((with_reducible show wpList ..);first|(refine zB 37 (k.cs) (by rfl) rfl rfl rfl SS ?_;clear SS;intro Xp0 Bp0 SS;simp only[nn])))
 refine(Km h _ _ ((Aa SS).hp 0 rfl) K hf hd).mono ?_
 rintro _ Y1 ⟨rfl,T1⟩
 replace SS:=Ab ((Aa SS).heap 0 rfl T1)
 clear T1
 go_wp2
 refine Br (results_tmp2 rfl _ _ _) rfl ?_
 exact⟨rfl,HP.To.end H (Aa SS) rfl⟩
theorem Zev (h:HP) (j:Nat) (q:OB) (k:KK) (P:HP->Bool->Value->Prop) (w:World) (H:h.Is w) (K:h.Ok) (hj:h.l[j]? =some q) (hf:h.fuel≠0) (hd:h.ent≠h.depth) (hC: ∀X,h.To h.inn w X->Calls prog 200 #[.agg #[], .pointer (some ⟨h.b,0,none⟩), .int .i64 ((j:Int)+1),k.agg] X fun e w'=> ∃(h1:HP) (y:Bool) (er:Value),e= .returned (.tuple #[.bool y,er])/\P h1 y er/\h1.ent=h.ent+1/\h.inn.To h1 X w'):Calls prog 124 #[.pointer (some ⟨h.b,0,none⟩), .int .i64 ((j:Int)+1),k.agg] w fun e w'=> ∃(h1:HP) (y:Bool) (er:Value),e= .returned (.tuple #[.bool y,er])/\P h1 y er/\h.To h1.out w w':=by
 have SS:=Ab H.start
 have HC:=Ab hC
 have hE0:0<=h.ent+1/\h.ent+1<=100000001:=by have:=K.e0;have:=K.e1;have:=K.d1;omega
 clear hC
 rw[Dj] at HC ⊢
 go_enter_defers func124,ntmps124
 go_wp2_with (first|go_skip|((with_reducible show wpList ..);first|(refine zB 37 (k.cs) (by rfl) rfl rfl rfl SS ?_;clear SS;intro Xp0 Bp0 SS;simp only[nn])))
 refine(Kl h j q _ ((Aa SS).hp 0 rfl) K hj hf hd).mono ?_
 rintro _ Y1 ⟨rfl,T1⟩
 replace SS:=Ab ((Aa SS).heap 0 rfl T1)
 clear T1
 unfold Zi
 go_wp2_with (first|go_skip|((with_reducible show wpList ..);first|(refine zL (k.cs) 37 2 1 rwK szK (by rfl) rfl rfl SS rfl rfl rfl ?_;simp only[nn])))
 refine(Aa HC _ (HP.To.end H (Aa SS) rfl)).mono ?_
 rintro _ Y2 ⟨h1,y,er,rfl,hP,hen,T2⟩
 replace SS:=Ab ((Aa SS).heap 0 rfl T2)
 have hb1:h1.b=h.b:=T2.hb
 clear T2
 go_wp2
 refine leaves_cons (f:=95) (args:= #[.pointer (some ⟨h.b,0,none⟩)]) (by simp) (by simp[go_sem]) ?_
 have HL:=Ki h1 .returning _ ((Aa SS).hp 0 rfl) (by rw[hen];exact hE0)
 rw[hb1] at HL
 refine HL.mono ?_
 rintro e u2 w2 ⟨rfl,rfl,T3⟩
 replace SS:=Ab ((Aa SS).heap 0 rfl T3)
 exact⟨_,results_tmp2 rfl _ _ _,h1,y,er,rfl,hP,HP.To.end H (Aa SS) hb1⟩
theorem Ra (h:HP) (j:Nat)  (w:World) (H:h.Is w) (hf:h.fuel=0):Calls prog 125 #[.pointer (some ⟨h.b,0,none⟩), .int .i64 ((j:Int)+1)] w fun e w'=>e= .returned (.tuple #[.slice none 0 0,Bl 1])/\h.To h w w':=by
 have SS:=Ab H.start
 go_enter_defers func125,ntmps125
 go_wp2_with fail
 refine(Kn h _ _ ((Aa SS).hp 0 rfl) hf).mono ?_
 rintro _ _ ⟨rfl,rfl⟩
 go_wp2
 refine Br (results_tmp2 rfl _ _ _) rfl ?_
 exact⟨rfl,HP.To.end H (Aa SS) rfl⟩
theorem Qz (h:HP) (j:Nat)  (w:World) (H:h.Is w) (K:h.Ok) (hf:h.fuel≠0) (hd:h.ent=h.depth):Calls prog 125 #[.pointer (some ⟨h.b,0,none⟩), .int .i64 ((j:Int)+1)] w fun e w'=>e= .returned (.tuple #[.slice none 0 0,Bl 2])/\h.To h.less w w':=by
 have SS:=Ab H.start
 go_enter_defers func125,ntmps125
 go_wp2_with fail
 refine(Km h _ _ ((Aa SS).hp 0 rfl) K hf hd).mono ?_
 rintro _ Y1 ⟨rfl,T1⟩
 replace SS:=Ab ((Aa SS).heap 0 rfl T1)
 clear T1
 go_wp2
 refine Br (results_tmp2 rfl _ _ _) rfl ?_
 exact⟨rfl,HP.To.end H (Aa SS) rfl⟩
theorem Qy (h:HP) (j:Nat) (q:OB)  (P:HP->Value->Value->Prop) (w:World) (H:h.Is w) (K:h.Ok) (hj:h.l[j]? =some q) (hf:h.fuel≠0) (hd:h.ent≠h.depth) (hC: ∀X,h.To h.inn w X->Calls prog 206 #[.agg #[], .pointer (some ⟨h.b,0,none⟩), .int .i64 ((j:Int)+1)] X fun e w'=> ∃(h1:HP) (V:Value) (er:Value),e= .returned (.tuple #[V,er])/\P h1 V er/\h1.ent=h.ent+1/\h.inn.To h1 X w'):Calls prog 125 #[.pointer (some ⟨h.b,0,none⟩), .int .i64 ((j:Int)+1)] w fun e w'=> ∃(h1:HP) (V:Value) (er:Value),e= .returned (.tuple #[V,er])/\P h1 V er/\h.To h1.out w w':=by
 have SS:=Ab H.start
 have HC:=Ab hC
 have hE0:0<=h.ent+1/\h.ent+1<=100000001:=by have:=K.e0;have:=K.e1;have:=K.d1;omega
 clear hC
 go_enter_defers func125,ntmps125
 go_wp2_with fail
 refine(Kl h j q _ ((Aa SS).hp 0 rfl) K hj hf hd).mono ?_
 rintro _ Y1 ⟨rfl,T1⟩
 replace SS:=Ab ((Aa SS).heap 0 rfl T1)
 clear T1
 unfold Zi
 go_wp2_with fail
 refine(Aa HC _ (HP.To.end H (Aa SS) rfl)).mono ?_
 rintro _ Y2 ⟨h1,V,er,rfl,hP,hen,T2⟩
 replace SS:=Ab ((Aa SS).heap 0 rfl T2)
 have hb1:h1.b=h.b:=T2.hb
 clear T2
 go_wp2
 refine leaves_cons (f:=95) (args:= #[.pointer (some ⟨h.b,0,none⟩)]) (by simp) (by simp[go_sem]) ?_
 have HL:=Ki h1 .returning _ ((Aa SS).hp 0 rfl) (by rw[hen];exact hE0)
 rw[hb1] at HL
 refine HL.mono ?_
 rintro e u2 w2 ⟨rfl,rfl,T3⟩
 replace SS:=Ab ((Aa SS).heap 0 rfl T3)
 exact⟨_,results_tmp2 rfl _ _ _,h1,V,er,rfl,hP,HP.To.end H (Aa SS) hb1⟩
end
section
open Go Go.Proofs Go.Maps Go.RowKit FM
def pr (T:TT):List (KK×DD):=T.live.map RR.pr
def hasP (l:List (KK×DD)) (k:KK):Bool:=l.any (fun e=>decide (e.1=k))
def lkP (l:List (KK×DD)) (k:KK):Option DD:=(l.find? (fun e=>decide (e.1=k))).map (·.2)
def Oh (l:List (KK×DD)) (k:KK) (d:DD):List (KK×DD):=if hasP l k then l.map (fun e=>if e.1=k then (e.1,d) else e) else l++ [(k,d)]
def Ue (l:List (KK×DD)) (k:KK):List (KK×DD):=l.filter (fun e=>decide (e.1≠k))
theorem Zd2 (T:TT) (k:KK):hasP (pr T) k=(T.find k).isSome:=by
 unfold hasP pr TT.find
 rw[List.isSome_find?,List.any_map]
 rfl
theorem pr_lk (T:TT) (k:KK):lkP (pr T) k=(T.find k).map (·.d):=by
 unfold lkP pr TT.find
 rw[List.find?_map,Option.map_map]
 rfl
theorem Zb6 (T:TT) (k:KK):getD T k=(lkP (pr T) k).getD zeroD:=by
 rw[pr_lk]
 rfl
theorem Yc (l:List (KK×DD)) (k:KK):(lkP l k).isSome=hasP l k:=by
 unfold lkP hasP
 rw[Option.isSome_map,List.isSome_find?]
theorem Zd3 {T T':TT} {k:KK} (hl:T'.live=T.live.filter (fun q=>decide (q.k≠k))):pr T'=Ue (pr T) k:=by
 unfold pr Ue
 rw[hl,List.filter_map]
 rfl
def PutT (T:TT) (k:KK) (d:DD) (T':TT):Prop:=(∃r,T.find k=some r/\T'=T.upd r.b d)∨(T.find k=none/\goodK k=true/\ ∃rv R,T'=T.added rv R k d)∨(T.find k=none/\goodK k=false/\T'=T)
theorem PutT.last {T T':TT} {k:KK} {d:DD} (h:PutT T k d T'):T'.last<=T.last+1:=by
 rcases h with ⟨r,h1,rfl⟩|⟨h1,h2,rv,B,rfl⟩|⟨h1,h2,rfl⟩
 ·exact Nat.le_succ _
 ·exact Nat.le_refl _
 ·exact Nat.le_succ _
theorem Zb5 {T T':TT} {W:World} {k:KK} {d:DD} (hT:T.Is W) (hg:goodK k=true) (h:PutT T k d T'):pr T'=Oh (pr T) k d:=by
 unfold Oh
 rw[Zd2]
 rcases h with ⟨r,h1,rfl⟩|⟨h1,h2,rv,R,rfl⟩|⟨h1,h2,rfl⟩
 ·rw[h1,if_pos (show (some r).isSome=true from rfl)]
  have hrl:r∈T.live:=List.mem_of_find?_eq_some h1
  have hrk:r.k=k:=(TT.find_mem h1).2.2
  unfold pr
  rw[TT.upd_live,List.map_map,List.map_map]
  apply List.map_congr_left
  intro q hq
  have e:=ZbH hT hrl hq
  show RR.pr (Rf r.b d q)=if (RR.pr q).1=k then ((RR.pr q).1,d) else RR.pr q
  unfold Rf
  by_cases hb:q.b=r.b
  ·rw[if_pos hb,if_pos (show (RR.pr q).1=k from (e.1 hb).trans hrk)]
   rfl
  ·rw[if_neg hb,if_neg (show ¬(RR.pr q).1=k from fun h=>hb (e.2 (Eq.trans h hrk.symm)))]
 ·rw[h1,if_neg (show ¬((none:Option RR).isSome=true) by simp)]
  unfold pr
  rw[TT.added_live,List.map_append]
  rfl
 ·rw[hg] at h2
  cases h2
structure PO where
 c:Int
 p:VV
 x:Bool
 ps:List (KK×DD)
def OB.po (o:OB):PO:=⟨o.c,o.p,o.x,pr o.T⟩
def HP.abs (h:HP):List PO:=h.l.map OB.po
theorem abs_at {h:HP} {j:Nat} {q:OB} (hj:h.l[j]? =some q):h.abs[j]? =some q.po:=by
 unfold HP.abs
 rw[List.getElem?_map,hj]
 rfl
theorem abs_set (h:HP) (j:Nat) (q:OB):({h with l:=h.l.set j q}:HP).abs=h.abs.set j q.po:=by
 unfold HP.abs
 rw[List.map_set]
def Tabs (w:World):Prop:=Lib.Utf8Tabs 1 2 w/\TabQ w
theorem Tabs.on {w X:World} (h:Tabs w) (k:Below w.heap.size w X):Tabs X:=⟨Aj h.1 k,h.2.on k⟩
theorem Tabs.fr {w X:World} {E:List Nat} (h:Tabs w) (hf:Fr w X E) (hE: ∀b∈E,6<=b):Tabs X:=by
 refine⟨ZbR h.1 hf (fun b hb=>by have:=hE b hb;omega), ?_⟩
 obtain⟨T,hl,h2⟩:=h.2
 refine⟨T,hl, ?_⟩
 unfold Lib.TabIs World.var? at *
 have hg : Tryz.prog.globalNamed "internal/strconv.uint64pow10" = some 3 := by kernel_rfl
 simp only[hg,Option.bind_some] at h2 ⊢
 have hlt:3<w.heap.size:=by
  rcases Nat.lt_or_ge 3 w.heap.size with h'|h'
  ·exact h'
  ·rw[Array.getElem?_eq_none h'] at h2;simp at h2
 rw[hf.block 3 hlt (fun hm=>by have:=hE 3 hm;omega)]
 exact h2
theorem HP.To.tabs {h h':HP} {w X:World} (A:h.To h' w X) (H:h.Is w) (hT:Tabs w):Tabs X:=hT.fr A.fr H.low
theorem Ot (h:HP):h.abs.length=h.l.length:=List.length_map _
