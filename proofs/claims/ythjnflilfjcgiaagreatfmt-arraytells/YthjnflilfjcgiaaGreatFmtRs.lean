import Derived.Test.YthjnflilfjcgiaaGreatFmtRq
set_option linter.all false
namespace Go.Proofs.YthjnflilfjcgiaaGreatFmt
set_option maxRecDepth 100000
set_option maxHeartbeats 0
section
open Go Go.Proofs Go.Maps Go.RowKit FM Tryz
attribute [local go_sem] mm_DefineOwnProperty mm_GetOwnProperty mm_HasProperty mm_Get mm_Delete mm_OwnPropertyKeys ta_caller
theorem lenK_good:goodK lenK=true:=by kernel_rfl
theorem lenK_ok:OkK lenK:=good_ok lenK_good
def Cv (x n:Nat):Prop:= ∀w,(convert 33 44 (.float .f64 x)).run prog w= .ok (.int .u32 (n:Nat)) w
theorem ex_cv {o:Oper} {a:Act} {w:World} {x:Operand} {b n:Nat} (hn:Cv b n) (ho:o.op= .convert 33 44 x) (hx:a.eval x= .float .f64 b):(execOp a.eval o).run prog w= .ok (.value (.int .u32 (n:Nat))) w:=by
 unfold execOp
 simp only[ho,hx]
 simp[hn w]
theorem alen_h (h:HP) (j:Nat) (q:OB) (n:Nat) (w:World) (H:h.Is w) (hl:h.l.length<=65536) (hj:h.l[j]? =some q) (hn:Cv (getD q.T lenK).v.x n) (hw:(getD q.T lenK).w=2):Calls prog 47 #[.agg #[], .pointer (some ⟨h.b,0,none⟩), .int .i64 ((j:Int)+1)] w fun e w'=>e= .returned (.tuple #[.int .u32 (n:Nat), .bool true])/\Below w.heap.size w w':=by
 have SS:=hide (Sy.nil w [])
 go_enter func47,ntmps47
 go_wp2_with (first|go_skip|((with_reducible show wpList ..);first|((refine bxE (by rfl) rfl rfl (uh SS) ?_);intro X0 B0 S0;replace SS:=hide S0;clear S0;simp only[nn])))
 have hS1:Sy w _ [] [empO B0]:=(uh SS).drew
 clear SS
 have cu: ∀{X:World} {M:List Ob},Sy w X [] ([empO B0]++M)->Sy w X [] [empO B0]:=fun h=>Sy.left h
 refine wp_region_held_drew (P:=prog) (S:=fun X=>Sy w X [] _) (by kernel_rfl) (hS1) (fun hS0=> ?_)
 refine gq 0 (some 12) (.pointer (some ⟨B0,0,none⟩)) rfl rfl (fun X hX=>faM rfl rfl (hX.emp 0 rfl)) (hS1) ?_
 simp only[nn]
 refine gq 1 (some 13) (.agg #[]) rfl rfl (fun X hX=>ldO rfl rfl) (hS1) ?_
 simp only[nn]
 refine gp 2 (some 14) (.pointer (some ⟨h.b,0,none⟩)) rfl rfl (hS1) ?_
 simp only[nn]
 refine gp 3 (some 15) (.int .i64 ((j:Int)+1)) rfl rfl (hS1) ?_
 simp only[nn]
 refine gr (rs:= [4,10]) (gcB 4 (some 16) rfl rfl hS1 (lkey_any _) id ?_ (galS (v:= .agg (zeroD.cs).toArray) 10 (some 8) 53 (zeroD.cs) rfl rfl (by kernel_rfl) rfl (fun w=>by kernel_rfl) rfl (Nat.succ_pos _) hS1 (fun _ hZ=>cu hZ) ?_ gn))
 ·intro Yt1 hqt1
  simp only[nn]
  refine gr (rs:= [5,10]) (gcB 5 (some 17) rfl rfl hqt1 (ord_own h j q lenK _ (H.on hqt1.fr.below) hl hj lenK_ok) id ?_ (galS (v:= .agg (zeroD.cs).toArray) 10 (some 8) 53 (zeroD.cs) rfl rfl (by kernel_rfl) rfl (fun w=>by kernel_rfl) rfl (Nat.succ_pos _) hqt1 (fun _ hZ=>cu hZ) ?_ gn))
  ·intro Yt2 hqt2
   refine gp 6 (some 11) (.tuple #[(getD q.T lenK).agg, .bool (q.T.find lenK).isSome, .nilIface]) rfl rfl (hqt2) ?_
   simp only[nn]
   refine gp 7 (some 18) ((getD q.T lenK).agg) rfl rfl (hqt2) ?_
   simp only[nn]
   refine gp 8 (some 19) (.bool (q.T.find lenK).isSome) rfl rfl (hqt2) ?_
   simp only[nn]
   refine gp 9 (some 20) (.nilIface) rfl rfl (hqt2) ?_
   simp only[nn]
   refine gr (rs:= [10]) (galS (v:= .agg (zeroD.cs).toArray) 10 (some 8) 53 (zeroD.cs) rfl rfl (by kernel_rfl) rfl (fun w=>by kernel_rfl) rfl (Nat.succ_pos _) hqt2 (fun _ hZ=>cu hZ) ?_ gn)
   intro Yt3 Bt3 hEt3 hqt3
   clear hEt3
   simp only[nn]
   refine gr (rs:= [11]) (gstS (vs:=(getD q.T lenK).cs) (new:=(getD q.T lenK).cs) 11 1 53 rfl rfl (by kernel_rfl) rfl rfl rfl rfl (oneD _) szD hqt3 rfl (by simp[cput,VV.cs,KK.cs,DD.cs,OB.cs,hcs,zeroD,zeroV]) (by simp[cput,VV.cs,KK.cs,DD.cs,OB.cs,hcs,zeroD,zeroV]) (fun _ hZ=>cu hZ) ?_ gn)
   intro Yt4 hqt4
   refine gp 12 (some 9) (.bool (q.T.find lenK).isSome) rfl rfl (cu hqt4) ?_
   simp only[nn]
   refine gp 13 (some 10) (.nilIface) rfl rfl (cu hqt4) ?_
   simp only[nn]
   refine wpAnyH_done (by kernel_rfl) ?_ _
   try simp only[nn]
   have SS:=hide hqt4
   go_wp2
   have hS2:Sy w _ [] [empO B0,boxO Bt3 ((getD q.T lenK).cs)]:=(uh SS).drew
   clear SS
   refine wp_region_held_drew (P:=prog) (S:=fun X=>Sy w X [] _) (by kernel_rfl) (hS2) (fun hS0=> ?_)
   refine gp 0 (some 21) (.pointer (some ⟨Bt3,0,none⟩)) rfl rfl (hS2) ?_
   simp only[nn]
   refine gp 1 (some 22) (.pointer (some ⟨Bt3,2,none⟩)) rfl rfl (hS2) ?_
   simp only[nn]
   refine gq 2 (some 23) (.float .f64 (getD q.T lenK).v.x) rfl rfl (fun X hX=>ex_load1 33 isAgg33 rfl rfl (hX.hold 1 rfl) rfl) (hS2) ?_
   simp only[nn]
   refine gq 3 (some 24) (.int .u32 (n:Nat)) rfl rfl (fun X hX=>ex_cv hn rfl rfl) (hS2) ?_
   simp only[nn]
   refine gp 4 (some 25) (.pointer (some ⟨Bt3,15,none⟩)) rfl rfl (hS2) ?_
   simp only[nn]
   refine gq 5 (some 26) (.int .i64 (getD q.T lenK).w) rfl rfl (fun X hX=>ex_load1 51 isAgg51 rfl rfl (hX.hold 1 rfl) rfl) (hS2) ?_
   simp only[nn]
   refine gq 6 (some 27) (.bool true) rfl rfl (fun X hX=>ex_eqTy rfl rfl rfl hw) (hS2) ?_
   simp only[nn]
   refine gp 7 (some 6) (.int .u32 (n:Nat)) rfl rfl (hS2) ?_
   simp only[nn]
   refine gp 8 (some 7) (.bool true) rfl rfl (hS2) ?_
   simp only[nn]
   refine wpAnyH_done (by kernel_rfl) ?_ _
   try simp only[nn]
   have SS:=hide hS2
   go_wp2
   go_ret2
   exact⟨rfl,(uh SS).fr.below⟩
  ·intro Yt5 Bt5 hEt5 hqt5
   clear hEt5
   simp only[nn]
   refine gr (rs:= [5]) (gcB 5 (some 17) rfl rfl hqt5 (ord_own h j q lenK _ (H.on hqt5.fr.below) hl hj lenK_ok) (fun x=>cu x) ?_ gn)
   intro Yt6 hqt6
   refine gp 6 (some 11) (.tuple #[(getD q.T lenK).agg, .bool (q.T.find lenK).isSome, .nilIface]) rfl rfl (cu hqt6) ?_
   simp only[nn]
   refine gp 7 (some 18) ((getD q.T lenK).agg) rfl rfl (cu hqt6) ?_
   simp only[nn]
   refine gp 8 (some 19) (.bool (q.T.find lenK).isSome) rfl rfl (cu hqt6) ?_
   simp only[nn]
   refine gp 9 (some 20) (.nilIface) rfl rfl (cu hqt6) ?_
   simp only[nn]
   refine gr (rs:= [11]) (gstS (vs:=(getD q.T lenK).cs) (new:=(getD q.T lenK).cs) 11 1 53 rfl rfl (by kernel_rfl) rfl rfl rfl rfl (oneD _) szD hqt6 rfl (by simp[cput,VV.cs,KK.cs,DD.cs,OB.cs,hcs,zeroD,zeroV]) (by simp[cput,VV.cs,KK.cs,DD.cs,OB.cs,hcs,zeroD,zeroV]) (fun _ hZ=>cu hZ) ?_ gn)
   intro Yt7 hqt7
   refine gp 12 (some 9) (.bool (q.T.find lenK).isSome) rfl rfl (cu hqt7) ?_
   simp only[nn]
   refine gp 13 (some 10) (.nilIface) rfl rfl (cu hqt7) ?_
   simp only[nn]
   refine wpAnyH_done (by kernel_rfl) ?_ _
   try simp only[nn]
   have SS:=hide hqt7
   go_wp2
   have hS2:Sy w _ [] [empO B0,boxO Bt5 ((getD q.T lenK).cs)]:=(uh SS).drew
   clear SS
   refine wp_region_held_drew (P:=prog) (S:=fun X=>Sy w X [] _) (by kernel_rfl) (hS2) (fun hS0=> ?_)
   refine gp 0 (some 21) (.pointer (some ⟨Bt5,0,none⟩)) rfl rfl (hS2) ?_
   simp only[nn]
   refine gp 1 (some 22) (.pointer (some ⟨Bt5,2,none⟩)) rfl rfl (hS2) ?_
   simp only[nn]
   refine gq 2 (some 23) (.float .f64 (getD q.T lenK).v.x) rfl rfl (fun X hX=>ex_load1 33 isAgg33 rfl rfl (hX.hold 1 rfl) rfl) (hS2) ?_
   simp only[nn]
   refine gq 3 (some 24) (.int .u32 (n:Nat)) rfl rfl (fun X hX=>ex_cv hn rfl rfl) (hS2) ?_
   simp only[nn]
   refine gp 4 (some 25) (.pointer (some ⟨Bt5,15,none⟩)) rfl rfl (hS2) ?_
   simp only[nn]
   refine gq 5 (some 26) (.int .i64 (getD q.T lenK).w) rfl rfl (fun X hX=>ex_load1 51 isAgg51 rfl rfl (hX.hold 1 rfl) rfl) (hS2) ?_
   simp only[nn]
   refine gq 6 (some 27) (.bool true) rfl rfl (fun X hX=>ex_eqTy rfl rfl rfl hw) (hS2) ?_
   simp only[nn]
   refine gp 7 (some 6) (.int .u32 (n:Nat)) rfl rfl (hS2) ?_
   simp only[nn]
   refine gp 8 (some 7) (.bool true) rfl rfl (hS2) ?_
   simp only[nn]
   refine wpAnyH_done (by kernel_rfl) ?_ _
   try simp only[nn]
   have SS:=hide hS2
   go_wp2
   go_ret2
   exact⟨rfl,(uh SS).fr.below⟩
 ·intro Yt8 Bt8 hEt8 hqt8
  clear hEt8
  simp only[nn]
  refine gr (rs:= [4]) (gcB 4 (some 16) rfl rfl hqt8 (lkey_any _) (fun x=>cu x) ?_ gn)
  intro Yt9 hqt9
  simp only[nn]
  refine gr (rs:= [5]) (gcB 5 (some 17) rfl rfl hqt9 (ord_own h j q lenK _ (H.on hqt9.fr.below) hl hj lenK_ok) (fun x=>cu x) ?_ gn)
  intro Yt10 hqt10
  refine gp 6 (some 11) (.tuple #[(getD q.T lenK).agg, .bool (q.T.find lenK).isSome, .nilIface]) rfl rfl (cu hqt10) ?_
  simp only[nn]
  refine gp 7 (some 18) ((getD q.T lenK).agg) rfl rfl (cu hqt10) ?_
  simp only[nn]
  refine gp 8 (some 19) (.bool (q.T.find lenK).isSome) rfl rfl (cu hqt10) ?_
  simp only[nn]
  refine gp 9 (some 20) (.nilIface) rfl rfl (cu hqt10) ?_
  simp only[nn]
  refine gr (rs:= [11]) (gstS (vs:=(getD q.T lenK).cs) (new:=(getD q.T lenK).cs) 11 1 53 rfl rfl (by kernel_rfl) rfl rfl rfl rfl (oneD _) szD hqt10 rfl (by simp[cput,VV.cs,KK.cs,DD.cs,OB.cs,hcs,zeroD,zeroV]) (by simp[cput,VV.cs,KK.cs,DD.cs,OB.cs,hcs,zeroD,zeroV]) (fun _ hZ=>cu hZ) ?_ gn)
  intro Yt11 hqt11
  refine gp 12 (some 9) (.bool (q.T.find lenK).isSome) rfl rfl (cu hqt11) ?_
  simp only[nn]
  refine gp 13 (some 10) (.nilIface) rfl rfl (cu hqt11) ?_
  simp only[nn]
  refine wpAnyH_done (by kernel_rfl) ?_ _
  try simp only[nn]
  have SS:=hide hqt11
  go_wp2
  have hS2:Sy w _ [] [empO B0,boxO Bt8 ((getD q.T lenK).cs)]:=(uh SS).drew
  clear SS
  refine wp_region_held_drew (P:=prog) (S:=fun X=>Sy w X [] _) (by kernel_rfl) (hS2) (fun hS0=> ?_)
  refine gp 0 (some 21) (.pointer (some ⟨Bt8,0,none⟩)) rfl rfl (hS2) ?_
  simp only[nn]
  refine gp 1 (some 22) (.pointer (some ⟨Bt8,2,none⟩)) rfl rfl (hS2) ?_
  simp only[nn]
  refine gq 2 (some 23) (.float .f64 (getD q.T lenK).v.x) rfl rfl (fun X hX=>ex_load1 33 isAgg33 rfl rfl (hX.hold 1 rfl) rfl) (hS2) ?_
  simp only[nn]
  refine gq 3 (some 24) (.int .u32 (n:Nat)) rfl rfl (fun X hX=>ex_cv hn rfl rfl) (hS2) ?_
  simp only[nn]
  refine gp 4 (some 25) (.pointer (some ⟨Bt8,15,none⟩)) rfl rfl (hS2) ?_
  simp only[nn]
  refine gq 5 (some 26) (.int .i64 (getD q.T lenK).w) rfl rfl (fun X hX=>ex_load1 51 isAgg51 rfl rfl (hX.hold 1 rfl) rfl) (hS2) ?_
  simp only[nn]
  refine gq 6 (some 27) (.bool true) rfl rfl (fun X hX=>ex_eqTy rfl rfl rfl hw) (hS2) ?_
  simp only[nn]
  refine gp 7 (some 6) (.int .u32 (n:Nat)) rfl rfl (hS2) ?_
  simp only[nn]
  refine gp 8 (some 7) (.bool true) rfl rfl (hS2) ?_
  simp only[nn]
  refine wpAnyH_done (by kernel_rfl) ?_ _
  try simp only[nn]
  have SS:=hide hS2
  go_wp2
  go_ret2
  exact⟨rfl,(uh SS).fr.below⟩
end
section
open Go Go.Proofs Go.Maps Go.RowKit FM
attribute [local go_sem] mm_DefineOwnProperty mm_GetOwnProperty mm_HasProperty mm_Get mm_Delete mm_OwnPropertyKeys ta_caller
def nf (n:Nat):Nat:=FloatKind.f64.nearest (n:Int)
def nfOk (n:Nat):Bool:=decide ((FloatKind.f64.decode (nf n)).toInt .zero=some (n:Int)) && decide (nf n<2^64)
theorem nfAll:(List.range 2001).all nfOk=true:=by kernel_rfl
theorem nfMax:nfOk 4294967295=true:=by kernel_rfl
theorem nf_ok {n:Nat} (h:n<=2000∨n=4294967295):nfOk n=true:=by
 rcases h with h|rfl
 ·exact List.all_eq_true.1 nfAll n (List.mem_range.2 (by omega))
 ·exact nfMax
theorem nf_lt {n:Nat} (h:n<=2000∨n=4294967295):nf n<2^64:=by
 have:=nf_ok h
 unfold nfOk at this
 simp only[Bool.and_eq_true,decide_eq_true_eq] at this
 exact this.2
theorem nf_cv {n:Nat} (h:n<=2000∨n=4294967295):Cv (nf n) n:=by
 have h1:=nf_ok h
 unfold nfOk at h1
 simp only[Bool.and_eq_true,decide_eq_true_eq] at h1
 intro w
 have hm:IntKind.u32.min<=(n:Int)/\(n:Int)<=IntKind.u32.max:=by
  have e1:IntKind.u32.min=0:=by decide
  have e2:IntKind.u32.max=4294967295:=by decide
  rw[e1,e2]
  omega
 simp[go_sem,convert,Conv.floatToInt,h1.1,hm]
theorem ex_nf {o:Oper} {a:Act} {w:World} {x:Operand} {n:Nat} (ho:o.op= .convert 44 33 x) (hx:a.eval x= .int .u32 (n:Nat)):(execOp a.eval o).run Tryz.prog w= .ok (.value (.float .f64 (nf n))) w:=by
 unfold execOp
 simp only[ho,hx]
 simp[go_sem,convert,Conv.intToFloat,nf]
theorem ex_bM {o:Oper} {a:Act} {w:World} (ho:o.op= .build 83 #[]):(execOp a.eval o).run Tryz.prog w= .ok (.value (.agg #[])) w:=by
 have e:(Instr.build 83 #[]).run Tryz.prog w= .ok (.agg #[]) w:=by kernel_rfl
 unfold execOp
 simp only[ho]
 simp[e]
theorem len_arr (h:HP) (j:Nat) (q:OB) (n:Nat) (w:World) (H:h.Is w) (hl:h.l.length<=65536) (hj:h.l[j]? =some q) (hq:q.c=3) (hn:Cv (getD q.T lenK).v.x n) (hw:(getD q.T lenK).w=2):Calls Tryz.prog 19 #[.pointer (some ⟨h.b,0,none⟩), .int .i64 ((j:Int)+1)] w fun e w'=>e= .returned (.tuple #[.int .u32 (n:Nat), .int .i64 0])/\Below w.heap.size w w':=by
 have HA:=isarr_h h j q w H hl hj hq
 have HB:=alen_h h j q n w H hl hj hn hw
 clear H
 go_enter Tryz.func19,Tryz.ntmps19
 go_wp2_with fail
 refine HA.mono ?_
 rintro _ _ ⟨rfl,rfl⟩
 go_wp2_with (first|go_skip|((with_reducible show wpList ..);first|(refine rd rfl (ex_bM rfl) ?_;simp only[nn])))
 refine HB.mono ?_
 rintro _ Y ⟨rfl,hb⟩
 have HBB:=hide hb
 clear hb
 go_wp2
 go_ret2
 exact⟨rfl,uh HBB⟩
def rawD (n:Nat):DD:=⟨numV (nf n),zeroV,zeroV,2,0,0⟩
def lenD (n:Nat):DD:=⟨numV (nf n),zeroV,zeroV,2,1,1⟩
theorem num_good (x:Nat):(numV x).good=true:=by simp[VV.good,goodV,strV,numV,inG]
theorem num_th (x:Nat):thV (numV x)=true:=by simp[thV,numV]
theorem zero_th:thV zeroV=false:=by simp[thV,zeroV]
theorem raw_shape (n:Nat):shapeV (rawD n)=2:=by simp[shapeV,rawD,num_th,zero_th]
theorem raw_kind (n:Nat):kindV (rawD n)=2:=by
 have hs:soundV (rawD n)=true:=by simp[soundV,rawD,num_th,num_good,callV,zero_th,triV,zeroV];simp[thV]
 unfold kindV
 rw[hs,raw_shape]
 rfl
theorem no_zero:noV zeroD=true:=by simp[noV,shapeV,zeroD,zero_th]
theorem app_len (n:Nat):appB true zeroD (rawD n)=true/\appD true zeroD (rawD n)=lenD n:=by
 have hst:stV zeroD=true:=by unfold stV;rw[no_zero];rfl
 refine⟨?_, ?_⟩
 ·unfold appB
  rw[raw_kind,hst,no_zero]
  rfl
 ·unfold appD
  rw[raw_kind,hst,no_zero]
  show fillV (rawD n)=lenD n
  unfold fillV
  rw[raw_shape]
  simp[orV,orT,rawD,lenD,num_th]
theorem ex_raw {o:Oper} {a:Act} {w:World} {x y:Operand} {n:Nat} (ho:o.op= .build 53 #[(0,x),(3,y)]) (hx:a.eval x=(numV (nf n)).agg) (hy:a.eval y= .int .i64 2):(execOp a.eval o).run Tryz.prog w= .ok (.value (.agg (rawD n).cs.toArray)) w:=by
 have e:(Instr.build 53 #[(0,(numV (nf n)).agg),(3, .int .i64 2)]).run Tryz.prog w= .ok (.agg (rawD n).cs.toArray) w:=by kernel_rfl
 unfold execOp
 simp only[ho,List.map_toArray,List.map_cons,List.map_nil,hx,hy]
 simp[e]
theorem get_nil {T:TT} (h:pr T= []) (k:KK):getD T k=zeroD:=by
 rw[pr_get,h]
 rfl
theorem more_tab (h:HP) (gv:Value) (q:OB) (T':TT):(h.more gv q).tab h.l.length q T'=h.more gv {q with T:=T'}:=by
 unfold HP.tab HP.more
 simp
theorem more_last (h:HP) (gv:Value) (q:OB):(h.more gv q).l[h.l.length]? =some q:=by
 unfold HP.more
 simp
theorem zero_FD:FD zeroD:=by unfold FD zeroD zeroV;decide
theorem raw_FD {n:Nat} (h:n<=2000∨n=4294967295):FD (rawD n):=⟨nf_lt h,show 0<2^64 by decide,show 0<2^64 by decide⟩
theorem aadd_h (h:HP) (v:VV) (n:Nat) (w:World) (H:h.Is w) (hT:Tabs w) (hl:h.l.length<=65535) (hc:orE [checkE h.l.length v,protoE v,roomE h]=0) (hn:n<=2000∨n=4294967295):Calls Tryz.prog 31 #[.pointer (some ⟨h.b,0,none⟩),v.agg, .int .u32 (n:Nat)] w fun e w'=> ∃(gv:Value) (q:OB),e= .returned (.tuple #[.int .i64 ((h.l.length:Int)+1), .nilIface])/\q.c=3/\q.p=v/\q.x=true/\pr q.T= [(lenK,lenD n)]/\q.T.last<=1/\h.To (h.more gv q) w w':=by
 have SS:=hide H.start
 rw[vagg]
 go_enter Tryz.func31,Tryz.ntmps31
 go_wp2_with (first|go_skip|((with_reducible show wpList ..);first|(refine zB 35 (v.cs) (by rfl) rfl rfl rfl SS ?_;clear SS;intro Xa Ba SS;simp only[nn])|(refine zL (v.cs) 35 5 1 rwV szV (by rfl) rfl rfl SS rfl rfl rfl ?_;simp only[nn])|(refine rd rfl (ex_bM rfl) ?_;simp only[nn])))
 have HC:=add_h h v _ ((uh SS).hp 0 rfl) (hT.fr (uh SS).fr H.low) (by omega)
 rw[vagg] at HC
 refine HC.mono ?_
 clear HC
 rintro _ Y (⟨rfl,hc1,T1⟩|⟨hc1,gv,q,rfl,a1,a2,a3,a4,a5,T1⟩)
 ·exact absurd hc hc1
 ·replace SS:=hide ((uh SS).heap 0 rfl T1)
  have hb1:(h.more gv q).b=h.b:=T1.hb
  clear T1
  go_wp2_with fail
  refine(lkey_any _).mono ?_
  rintro _ Y1 ⟨rfl,k1⟩
  replace SS:=hide ((uh SS).on k1)
  clear k1
  go_wp2_with (first|go_skip|((with_reducible show wpList ..);first|(refine rd rfl (ex_nf rfl rfl) ?_;simp only[nn])))
  refine(num_any (nf n) _).mono ?_
  rintro _ Y2 ⟨rfl,k2⟩
  replace SS:=hide ((uh SS).on k2)
  clear k2
  go_wp2_with (first|go_skip|((with_reducible show wpList ..);first|(refine rd rfl (ex_raw rfl rfl rfl) ?_;simp only[nn])|(refine rd rfl (ex_bM rfl) ?_;simp only[nn])))
  have T0:h.To (h.more gv q) w _:=HP.To.end H (uh SS) hb1
  have hz:getD q.T lenK=zeroD:=get_nil a4 _
  have HL:=lay_h (h.more gv q) h.l.length q lenK (rawD n) _ ((uh SS).hp 0 rfl) (by show (h.l++ [q]).length<=65536;simp;omega) (more_last h gv q) (T0.tabs H hT) lenK_ok lenK_good (by rw[hz];exact zero_FD) (raw_FD hn) (by rw[a5];decide)
  rw[dagg,hb1] at HL
  refine HL.mono ?_
  clear HL
  rintro _ Y3 ⟨h1,y,rfl,hP,T3⟩
  have HX:=hide (T0.trans T3)
  clear T0 T3 SS
  unfold DefP at hP
  rw[hz,a3,(app_len n).1,(app_len n).2] at hP
  obtain⟨rfl,hP⟩:=hP
  rcases hP with ⟨h0,_⟩|⟨_,T',rfl,hla,hpr⟩
  ·cases h0
  ·rw[more_tab] at HX
   have HR:=hide (And.intro hla hpr)
   clear hla hpr
   go_wp2
   go_ret2
   exact⟨gv,{q with T:=T'},rfl,a1,a2,a3,(by rw[(uh HR).2,a4];rfl),(by have:=(uh HR).1;rw[a5] at this;exact this),uh HX⟩
def knE (n:Nat) (vs:List VV):Int:=orE (vs.map (checkE n))
theorem kn_get {n:Nat} {vs:List VV} {i:Nat} {v:VV} (h: ∀j u,j<i->vs[j]? =some u->checkE n u=0) (hv:vs[i]? =some v) (h0:checkE n v≠0):knE n vs=checkE n v:=by
 refine orE_get _ i _ (fun j u hj hu=> ?_) ?_ h0
 ·rw[List.getElem?_map] at hu
  obtain⟨x,hx,rfl⟩:=Option.map_eq_some_iff.1 hu
  exact h j x hj hx
 ·rw[List.getElem?_map,hv]
  rfl
theorem kn_none {n:Nat} {vs:List VV} (h: ∀j u,j<vs.length->vs[j]? =some u->checkE n u=0):knE n vs=0:=by
 refine orE_none _ (fun j u hj hu=> ?_)
 rw[List.getElem?_map] at hu
 obtain⟨x,hx,rfl⟩:=Option.map_eq_some_iff.1 hu
 exact h j x (by simpa using hj) hx
theorem aknown_h (h:HP) (B:Option Addr) (c:Nat) (vs:List VV) (w:World) (H:h.Is w) (hT:Lib.Utf8Tabs 4 5 w) (hR:ReadsV w B vs) (hz:vs.length<=1000000):Calls Tryz.prog 30 #[.pointer (some ⟨h.b,0,none⟩), .slice B vs.length c] w fun e w'=>e= .returned (.int .i64 (knE h.l.length vs))/\Below w.heap.size w w':=by
 have SS:=hide (Sy.nil w [])
 have HH:=hide H
 clear H
 have HT:=hide hT
 clear hT
 have HR:=hide hR
 have HZ:=hide hz
 clear hR hz
 go_enter Tryz.func30,Tryz.ntmps30
 go_wp2_with (first|go_skip|((with_reducible show wpList ..);first|(refine rd rfl (ex_lenG 22 35 Tryz.underlying22 rfl rfl) ?_;simp only[nn])))
 go_loopg [10] vs.length (fun gm s10 wr=> ∃i:Nat,s10= .int .i64 (i:Nat)/\i<=vs.length/\vs.length - i<=gm/\Hid (∀j v,j<i->vs[j]? =some v->checkE h.l.length v=0)/\Hid (Sy w wr [] []))
 case atStart=>exact⟨0,rfl,by omega,by omega,hide (fun j v hj=>by omega),SS⟩
 case round=>
  clear SS
  obtain⟨i,rfl,hil,hgm,HD,SS⟩:=hrel
  by_cases hlt:i<vs.length
  ·have dlt:decide ((i:Int)<(vs.length:Int))=true:=decide_eq_true (by omega)
   have hw1:IntKind.i64.wrap ((i:Int)+1)=(i:Int)+1:=by have:=uh HZ;rw[IntKind.wrap_i64];omega
   obtain⟨v,hv⟩: ∃v,vs[i]? =some v:=⟨_,List.getElem?_eq_getElem hlt⟩
   obtain⟨b,off,hA,hb,hrg⟩:=(uh HR) i v hv
   subst hA
   have HA2:Hid (∀X,Below w.heap.size w X->X.rangeAt b (off+i * 5) v.cs):=hide (fun X hX=>rangeAt_on hrg hb hX)
   have HLT:=hide hlt
   clear hb hrg hlt hil
   by_cases h0:checkE h.l.length v=0
   ·have HD2:Hid (∀j u,j<i+1->vs[j]? =some u->checkE h.l.length u=0):=hide (fun j u hj hu=>by
     rcases Nat.lt_or_ge j i with h|h
     ·exact uh HD j u h hu
     ·obtain rfl:j=i:=by omega
      obtain rfl:v=u:=Option.some.inj (hv.symm.trans hu)
      exact h0)
    clear HD
    go_wp2_with (first|go_skip|((with_reducible show wpList ..);first|(refine rd rfl (ex_lenG 22 35 Tryz.underlying22 rfl rfl) ?_;simp only[nn])|(refine rd rfl (ex_indexG 22 5 i unVs idVs rfl rfl rfl (uh HLT)) ?_;simp only[nn])|(refine rd rfl (ex_loadR (vs:=v.cs) 35 5 rwV szV rfl rfl (uh HA2 _ (uh SS).fr.below) rfl) ?_;simp only[nn])|(refine zA 35 (zeroV.cs) (by rfl) rfl SS ?_;clear SS;intro X3 B3 SS;simp only[nn])|(refine zS (v.cs) 0 35 (by rfl) rfl rfl rfl rfl (oneV v) szV SS rfl ?_;clear SS;intro X4 SS;simp only[nn])|(refine zL (v.cs) 35 5 0 rwV szV (by rfl) rfl rfl SS rfl rfl rfl ?_;simp only[nn])))
    have HO:=check_h h v _ ((uh HH).on (uh SS).fr.below) (tabs_below (uh HT) (uh SS).fr.below)
    rw[vagg] at HO
    refine HO.mono ?_
    rintro e X5 ⟨rfl,hb5⟩
    replace SS:=hide ((uh SS).on hb5)
    clear hb5 HO
    replace SS:=hide (Sy.left (L:= []) (M:= [_]) (uh SS))
    go_wp2_with (first|go_skip|((with_reducible show wpList ..);first|(refine rd rfl (ex_neE0 rfl rfl rfl h0) ?_;simp only[nn])))
    go_roundg (vs.length - (i+1))
    case measure=>have:=uh HLT;omega
    case rel=>exact⟨i+1,by go_num,by have:=uh HLT;omega,by omega,HD2,SS⟩
   ·have HE:=hide (kn_get (uh HD) hv h0)
    clear HD
    go_wp2_with (first|go_skip|((with_reducible show wpList ..);first|(refine rd rfl (ex_lenG 22 35 Tryz.underlying22 rfl rfl) ?_;simp only[nn])|(refine rd rfl (ex_indexG 22 5 i unVs idVs rfl rfl rfl (uh HLT)) ?_;simp only[nn])|(refine rd rfl (ex_loadR (vs:=v.cs) 35 5 rwV szV rfl rfl (uh HA2 _ (uh SS).fr.below) rfl) ?_;simp only[nn])|(refine zA 35 (zeroV.cs) (by rfl) rfl SS ?_;clear SS;intro X3 B3 SS;simp only[nn])|(refine zS (v.cs) 0 35 (by rfl) rfl rfl rfl rfl (oneV v) szV SS rfl ?_;clear SS;intro X4 SS;simp only[nn])|(refine zL (v.cs) 35 5 0 rwV szV (by rfl) rfl rfl SS rfl rfl rfl ?_;simp only[nn])))
    have HO:=check_h h v _ ((uh HH).on (uh SS).fr.below) (tabs_below (uh HT) (uh SS).fr.below)
    rw[vagg] at HO
    refine HO.mono ?_
    rintro e X5 ⟨rfl,hb5⟩
    replace SS:=hide ((uh SS).on hb5)
    clear hb5 HO
    go_wp2_with (first|go_skip|((with_reducible show wpList ..);first|(refine rd rfl (ex_neE1 rfl rfl rfl h0) ?_;simp only[nn])))
    go_ret
    exact⟨by rw[uh HE];rfl,(uh SS).fr.below⟩
  ·obtain rfl:i=vs.length:=by omega
   have HE:=hide (kn_none (uh HD))
   clear hlt hil HD
   go_wp2_with (first|go_skip|((with_reducible show wpList ..);first|(refine rd rfl (ex_lenG 22 35 Tryz.underlying22 rfl rfl) ?_;simp only[nn])))
   go_ret
   exact⟨by rw[uh HE];rfl,(uh SS).fr.below⟩
def nullV:VV:=⟨2,false,0,ByteArray.empty,0⟩
theorem ReadsV.fr2 {w X:World} {E:List Nat} {B:Option Addr} {vs:List VV} (h:ReadsV w B vs) (k:Fr w X E) (hE: ∀b∈E,w.heap.size<=b):ReadsV X B vs:=fun j v hv=>by
 obtain⟨b,off,hA,hb,hr⟩:=h j v hv
 refine⟨b,off,hA,Nat.lt_of_lt_of_le hb k.size,fun t u hu=> ?_⟩
 have e:=hr t u hu
 have h1:=k.block b hb (fun hm=>by have:=hE b hm;omega)
 unfold World.cell? at e ⊢
 dsimp only at e ⊢
 rw[h1]
 exact e
theorem null_good:nullV.good=true:=by simp[VV.good,goodV,strV,nullV,inG]
theorem null_check (n:Nat):checkE n nullV=0:=by
 unfold checkE
 rw[null_good]
 simp[knownE,knownV,nullV]
theorem or_kn (n:Nat) (vs:List VV):orE [checkE n nullV,0,knE n vs]=knE n vs:=by
 rw[null_check]
 simp[orE]
 exact fun h=>h.symm
theorem of_bad (h:HP) (B:Option Addr) (c:Nat) (vs:List VV) (w:World) (H:h.Is w) (hT:Tabs w) (HRV: ∀{X:World},Fr w X h.blocks->ReadsV X B vs) (hz:vs.length<=1000000) (hc:knE h.l.length vs≠0):Calls Tryz.prog 8 #[.pointer (some ⟨h.b,0,none⟩),nullV.agg, .slice B vs.length c] w fun e w'=>e= .returned (.tuple #[.int .i64 0,ePair (knE h.l.length vs)])/\h.To h w w':=by
 have SS:=hide H.start
 have hR:=HRV (Fr.refl w h.blocks)
 rw[show nullV.agg= .agg nullV.cs.toArray from rfl]
 go_enter Tryz.func8,Tryz.ntmps8
 go_wp2_with (first|go_skip|((with_reducible show wpList ..);first|(refine zB 35 (nullV.cs) (by rfl) rfl rfl rfl SS ?_;clear SS;intro Xa Ba SS;simp only[nn])))
 have hS1:Sy w _ h.blocks [hpO h,boxO Ba nullV.cs]:=(uh SS).drew
 clear SS
 refine wp_region_held_drew (P:=Tryz.prog) (S:=fun X=>Sy w X h.blocks _) (by kernel_rfl) (hS1) (fun hS0=> ?_)
 refine gp 0 (some 13) (.pointer (some ⟨h.b,0,none⟩)) rfl rfl (hS1) ?_
 simp only[nn]
 refine gq 1 (some 14) (.agg (nullV.cs).toArray) rfl rfl (fun X hX=>ex_loadN (vs:=nullV.cs) 35 5 rwV szV rfl rfl (hX.hold 1 rfl) rfl rfl) (hS1) ?_
 simp only[nn]
 refine gq 3 (some 16) (.agg (nullV.cs).toArray) rfl rfl (fun X hX=>ex_loadN (vs:=nullV.cs) 35 5 rwV szV rfl rfl (hX.hold 1 rfl) rfl rfl) (hS1) ?_
 simp only[nn]
 refine gp 5 (some 18) (.pointer (some ⟨h.b,0,none⟩)) rfl rfl (hS1) ?_
 simp only[nn]
 refine gp 6 (some 19) (.slice B vs.length c) rfl rfl (hS1) ?_
 simp only[nn]
 refine gr (rs:= [2]) (gcB 2 (some 15) rfl rfl hS1 (check_h h nullV _ (hS1.hp 0 rfl) (hT.fr hS1.fr H.low).1) id ?_ gn)
 intro Yt1 hqt1
 simp only[nn]
 refine gr (rs:= [4]) (gcB 4 (some 17) rfl rfl hqt1 (aproto_null _) id ?_ gn)
 intro Yt2 hqt2
 simp only[nn]
 refine gr (rs:= [7]) (gcB 7 (some 20) rfl rfl hqt2 (aknown_h h B c vs _ (hqt2.hp 0 rfl) (hT.fr hqt2.fr H.low).1 (HRV hqt2.fr) hz) id ?_ gn)
 intro Yt3 hqt3
 simp only[nn]
 refine gr (rs:= [8]) (gbsS 8 (some 21) rfl rfl (by kernel_rfl) (ex_bsE3 rfl rfl rfl rfl) (Nat.succ_pos _) hqt3 (fun _ hZ=>Sy.left (L:= [_,_]) (M:= [_]) hZ) ?_ gn)
 intro Yt4 Bt4 hEt4 hqt4
 clear hEt4
 simp only[nn]
 refine gr (rs:= [9]) (gcW 9 (some 22) rfl rfl (Sy.left (L:= [_,_]) (M:= [_]) hqt4) (or_any Bt4 3 [checkE h.l.length nullV,0,knE h.l.length vs] _ (hqt4.hold 2 rfl) (by simp)) ?_ gn)
 refine gp 10 (some 8) (.int .i64 (orE [checkE h.l.length nullV,0,knE h.l.length vs])) rfl rfl (Sy.left (L:= [_,_]) (M:= [_]) hqt4) ?_
 simp only[nn]
 refine wpAnyH_done (by kernel_rfl) ?_ _
 try simp only[nn]
 have SS:=hide (Sy.left (L:= [hpO h,boxO Ba nullV.cs]) (M:= [boxO Bt4 (ints [checkE h.l.length nullV,0,knE h.l.length vs])]) hqt4)
 rw[or_kn]
 go_wp2_with (first|go_skip|((with_reducible show wpList ..);first|(refine rd rfl (ex_neE1 rfl rfl rfl hc) ?_;simp only[nn])))
 go_ret2
 exact⟨rfl,HP.To.end H (uh SS) rfl⟩
end
section
open Go Go.Proofs Go.Maps Go.RowKit FM
def idxK (i:Nat):KK:=⟨dStr i,0⟩
def dval (l:List UInt8):Nat:=l.foldl (fun a c=>10 * a+(c.toNat - 48)) 0
theorem dval_dec (u:Nat):dval (Lib.decDigits u)=u:=by
 induction u using Nat.strongRecOn with
 |_ u ih=>
  by_cases h:u<10
  ·rw[Lib.decDigits,dif_pos h]
   have:(UInt8.ofNat (48+u)).toNat=48+u:=by simp;omega
   simp only[dval,List.foldl_cons,List.foldl_nil,this]
   omega
  ·rw[Lib.decDigits,dif_neg h]
   have h1:=ih (u / 10) (by omega)
   have:(UInt8.ofNat (48+u % 10)).toNat=48+u % 10:=by simp;omega
   unfold dval at h1 ⊢
   rw[List.foldl_append,h1]
   simp only[List.foldl_cons,List.foldl_nil,this]
   omega
theorem idx_inj {i j:Nat} (h:idxK i=idxK j):i=j:=by
 have h1:dStr i=dStr j:=congrArg KK.s h
 have h2:(Lib.decDigits i).toArray=(Lib.decDigits j).toArray:=congrArg ByteArray.data h1
 have h3:Lib.decDigits i=Lib.decDigits j:=congrArg Array.toList h2
 rw[←dval_dec i,h3,dval_dec]
theorem dec_head (u:Nat): ∃c l,Lib.decDigits u=c::l/\c.toNat<=57:=by
 induction u using Nat.strongRecOn with
 |_ u ih=>
  by_cases h:u<10
  ·refine⟨_, [],by rw[Lib.decDigits,dif_pos h], ?_⟩
   simp;omega
  ·obtain⟨c,l,h1,h2⟩:=ih (u / 10) (by omega)
   refine⟨c,l++ [UInt8.ofNat (48+u % 10)], ?_,h2⟩
   rw[Lib.decDigits,dif_neg h,h1]
   rfl
theorem idx_len (i:Nat):idxK i≠lenK:=fun h=>by
 have h1:dStr i=lenS:=congrArg KK.s h
 have h2:(Lib.decDigits i).toArray= #[108,101,110,103,116,104]:=congrArg ByteArray.data h1
 have h3:Lib.decDigits i= [108,101,110,103,116,104]:=congrArg Array.toList h2
 obtain⟨c,l,h4,h5⟩:=dec_head i
 rw[h4] at h3
 have h6:c=108:=(List.cons.inj h3).1
 rw[h6] at h5
 exact absurd h5 (by decide)
def opnD (v:VV):DD:=⟨v,zeroV,zeroV,2,2,2⟩
def arrL (n:Nat) (vs:List VV):List (KK×DD):=(lenK,lenD n)::vs.mapIdx (fun i v=>(idxK i,opnD v))
theorem arr_mem {n:Nat} {vs:List VV} {e:KK×DD} (h:e∈arrL n vs):e=(lenK,lenD n)∨ ∃i v,vs[i]? =some v/\e=(idxK i,opnD v):=by
 rcases List.mem_cons.1 h with h|h
 ·exact .inl h
 ·obtain⟨i,hi,he⟩:=List.mem_mapIdx.1 h
  exact .inr ⟨i,vs[i],List.getElem?_eq_getElem hi,he.symm⟩
theorem arr_none {n:Nat} {vs:List VV} {i:Nat} (h:vs.length<=i):hasP (arrL n vs) (idxK i)=false:=by
 unfold hasP
 rw[List.any_eq_false]
 intro e he
 rcases arr_mem he with rfl|⟨j,v,hj,rfl⟩
 ·simp
  exact fun h=>idx_len i h.symm
 ·simp
  intro hh
  have:=idx_inj hh
  have:=(List.getElem?_eq_some_iff.1 hj).1
  omega
theorem arr_put (n:Nat) (vs:List VV) (v:VV):putP (arrL n vs) (idxK vs.length) (opnD v)=arrL n (vs++ [v]):=by
 unfold putP
 rw[arr_none (Nat.le_refl _)]
 unfold arrL
 rw[List.mapIdx_append]
 simp
theorem lk_of {l:List (KK×DD)} {k:KK} (h:hasP l k=false):lkP l k=none:=by
 have:=lk_has l k
 rw[h] at this
 exact Option.isNone_iff_eq_none.1 (by cases hx:lkP l k with|none=>rfl|some _=>rw[hx] at this;cases this)
theorem arr_get_none {T:TT} {n:Nat} {vs:List VV} {i:Nat} (hT:pr T=arrL n vs) (h:vs.length<=i):getD T (idxK i)=zeroD:=by
 rw[pr_get,hT,lk_of (arr_none h)]
 rfl
theorem dec_ascii (c:Nat) (t:List Nat) (h:c<128):M.dec (c::t)=(c,1):=by
 have hg:M.goD (c::t)=(c,1):=by
  unfold M.goD
  simp[h]
 unfold M.dec
 rw[hg]
 have: ¬(c=65533/\1<=1):=by omega
 simp[this]
 omega
theorem valid_ascii (l:List Nat) (h: ∀c∈l,c<128):M.valid false l=true:=by
 induction l with
 |nil=>rfl
 |cons c t ih=>
  have hc:=h c (List.mem_cons_self ..)
  have hi:M.isHi c=false:=by unfold M.isHi;simp;omega
  rw[M.valid_step false _ (by simp),dec_ascii c t hc]
  simp[hi]
  exact ih (fun x hx=>h x (List.mem_cons_of_mem _ hx))
theorem dec_mem (u:Nat): ∀c∈Lib.decDigits u,c.toNat<128:=by
 induction u using Nat.strongRecOn with
 |_ u ih=>
  intro c hc
  by_cases h:u<10
  ·rw[Lib.decDigits,dif_pos h] at hc
   rw[List.mem_singleton.1 hc]
   simp;omega
  ·rw[Lib.decDigits,dif_neg h] at hc
   rcases List.mem_append.1 hc with h1|h1
   ·exact ih (u / 10) (by omega) c h1
   ·rw[List.mem_singleton.1 h1]
    simp;omega
theorem dec_len (u:Nat):(Lib.decDigits u).length<=u+1:=by
 induction u using Nat.strongRecOn with
 |_ u ih=>
  by_cases h:u<10
  ·rw[Lib.decDigits,dif_pos h]
   simp
  ·rw[Lib.decDigits,dif_neg h,List.length_append]
   have:=ih (u / 10) (by omega)
   simp
   omega
theorem idx_good {u:Nat} (h:u<=1000000):goodK (idxK u)=true:=by
 rw[goodK_eq]
 have h1:(dStr u).size<=1048576:=by
  have:=dec_len u
  show (Lib.decDigits u).toArray.size<=_
  simp
  omega
 have h2:vS (dStr u)=true:=by
  unfold vS
  refine valid_ascii _ (fun c hc=> ?_)
  unfold nums at hc
  obtain⟨b,hb,rfl⟩:=List.mem_map.1 hc
  exact dec_mem u b hb
 simp[idxK,h1,h2]
theorem idx_ok {u:Nat} (h:u<=1000000):OkK (idxK u):=good_ok (idx_good h)
theorem good_th {v:VV} (h:v.good=true):thV v=true:=by
 cases ht:thV v with
 |true=>rfl
 |false=>
  unfold thV at ht
  simp at ht
  obtain⟨⟨⟨⟨h1,h2⟩,h3⟩,h4⟩,h5⟩:=ht
  unfold VV.good goodV inG at h
  simp[h1] at h
theorem opn_shape {v:VV} (h:v.good=true):shapeV (opnD v)=2:=by simp[shapeV,opnD,good_th h,zero_th]
theorem opn_kind {v:VV} (h:v.good=true):kindV (opnD v)=2:=by
 have hs:soundV (opnD v)=true:=by simp[soundV,opnD,good_th h,h,callV,zero_th,triV,zeroV];simp[thV]
 unfold kindV
 rw[hs,opn_shape h]
 rfl
theorem app_opn {v:VV} (h:v.good=true):appB true zeroD (opnD v)=true/\appD true zeroD (opnD v)=opnD v:=by
 have hst:stV zeroD=true:=by unfold stV;rw[no_zero];rfl
 refine⟨?_, ?_⟩
 ·unfold appB
  rw[opn_kind h,hst,no_zero]
  rfl
 ·unfold appD
  rw[opn_kind h,hst,no_zero]
  show fillV (opnD v)=opnD v
  unfold fillV
  rw[opn_shape h]
  simp[orV,orT,opnD,good_th h]
end
section
open Go Go.Proofs Go.Maps Go.RowKit FM Tryz
attribute [local go_sem] mm_DefineOwnProperty mm_GetOwnProperty mm_HasProperty mm_Get mm_Delete mm_OwnPropertyKeys ta_caller
theorem ex_c32 {o:Oper} {a:Act} {w:World} {x:Operand} {n:Nat} (ho:o.op= .convert 3 44 x) (hx:a.eval x= .int .i64 (n:Nat)) (hn:n<=4294967295):(execOp a.eval o).run prog w= .ok (.value (.int .u32 (n:Nat))) w:=by
 have e:IntKind.u32.wrap (n:Int)=(n:Int):=by rw[IntKind.wrap_u32];omega
 unfold execOp
 simp only[ho,hx]
 simp[go_sem,convert,e]
theorem ex_opn {o:Oper} {a:Act} {w:World} {x c1 c2 c3:Operand} (v:VV) (ho:o.op= .build 53 #[(0,x),(3,c1),(4,c2),(5,c3)]) (hx:a.eval x= .agg v.cs.toArray) (h1:a.eval c1= .int .i64 2) (h2:a.eval c2= .int .i64 2) (h3:a.eval c3= .int .i64 2):(execOp a.eval o).run prog w= .ok (.value (.agg (opnD v).cs.toArray)) w:=by
 have e:(Instr.build 53 #[(0, .agg v.cs.toArray),(3, .int .i64 2),(4, .int .i64 2),(5, .int .i64 2)]).run prog w= .ok (.agg (opnD v).cs.toArray) w:=by kernel_rfl
 unfold execOp
 simp only[ho,List.map_toArray,List.map_cons,List.map_nil,hx,h1,h2,h3]
 simp[e]
theorem kn_zero {n:Nat} {vs:List VV} (h:knE n vs=0) {i:Nat} {v:VV} (hv:vs[i]? =some v):v.good=true:=by
 have h1:=orE_zero h (checkE n v) (List.mem_map.2 ⟨v,List.mem_of_getElem? hv,rfl⟩)
 unfold checkE at h1
 cases hg:v.good with
 |true=>rfl
 |false=>rw[hg] at h1;cases h1
def LayI (h:HP) (vs:List VV) (w:World) (Ba i:Nat) (wr:World):Prop:= ∃(gv:Value) (q:OB),q.c=3/\q.x=true/\pr q.T=arrL vs.length (vs.take i)/\q.T.last<=1+i/\Sy w wr h.blocks [hpO (h.more gv q),boxO Ba nullV.cs]
theorem lay_step {h h1:HP} {gv:Value} {q:OB} {vs:List VV} {i:Nat} {v:VV} {y:Bool} (hv:vs[i]? =some v) (hg:v.good=true) (hx:q.x=true) (hp:pr q.T=arrL vs.length (vs.take i)) (hP:DefP (h.more gv q) h.l.length q (idxK i) (opnD v) h1 y): ∃T':TT,h1=h.more gv {q with T:=T'}/\pr T'=arrL vs.length (vs.take (i+1))/\T'.last<=q.T.last+1:=by
 have hlt:=(List.getElem?_eq_some_iff.1 hv).1
 have hlen:(vs.take i).length=i:=by rw[List.length_take];omega
 have hz:getD q.T (idxK i)=zeroD:=arr_get_none hp (by omega)
 unfold DefP at hP
 rw[hz,hx,(app_opn hg).1,(app_opn hg).2] at hP
 obtain⟨rfl,hP⟩:=hP
 rcases hP with ⟨h0,_⟩|⟨_,T',rfl,hla,hpr⟩
 ·cases h0
 ·refine⟨T',more_tab h gv q T', ?_,hla⟩
  have hput:=arr_put vs.length (vs.take i) v
  rw[hlen] at hput
  rw[hpr,hp,hput,List.take_add_one,hv]
  rfl
theorem of_good (h:HP) (B:Option Addr) (c:Nat) (vs:List VV) (w:World) (H:h.Is w) (hT:Tabs w) (HRV: ∀{X:World},Fr w X h.blocks->ReadsV X B vs) (hz2:vs.length<=2000) (hX64: ∀(i:Nat) (v:VV),vs[i]? =some v->v.x<2^64) (hl:h.l.length<=65535) (hroom:orE [checkE h.l.length nullV,protoE nullV,roomE h]=0) (hc:knE h.l.length vs=0):Calls prog 8 #[.pointer (some ⟨h.b,0,none⟩),nullV.agg, .slice B vs.length c] w fun e w'=> ∃(gv:Value) (q:OB),e= .returned (.tuple #[.int .i64 ((h.l.length:Int)+1), .nilIface])/\q.c=3/\q.x=true/\pr q.T=arrL vs.length vs/\q.T.last<=1+vs.length/\h.To (h.more gv q) w w':=by
 have hz:vs.length<=1000000:=by omega
 have SS:=hide H.start
 have hR:=HRV (Fr.refl w h.blocks)
 rw[show nullV.agg= .agg nullV.cs.toArray from rfl]
 go_enter func8,ntmps8
 go_wp2_with (first|go_skip|((with_reducible show wpList ..);first|(refine zB 35 (nullV.cs) (by rfl) rfl rfl rfl SS ?_;clear SS;intro Xa Ba SS;simp only[nn])))
 have hS1:Sy w _ h.blocks [hpO h,boxO Ba nullV.cs]:=(uh SS).drew
 clear SS
 refine wp_region_held_drew (P:=prog) (S:=fun X=>Sy w X h.blocks _) (by kernel_rfl) (hS1) (fun hS0=> ?_)
 refine gp 0 (some 13) (.pointer (some ⟨h.b,0,none⟩)) rfl rfl (hS1) ?_
 simp only[nn]
 refine gq 1 (some 14) (.agg (nullV.cs).toArray) rfl rfl (fun X hX=>ex_loadN (vs:=nullV.cs) 35 5 rwV szV rfl rfl (hX.hold 1 rfl) rfl rfl) (hS1) ?_
 simp only[nn]
 refine gq 3 (some 16) (.agg (nullV.cs).toArray) rfl rfl (fun X hX=>ex_loadN (vs:=nullV.cs) 35 5 rwV szV rfl rfl (hX.hold 1 rfl) rfl rfl) (hS1) ?_
 simp only[nn]
 refine gp 5 (some 18) (.pointer (some ⟨h.b,0,none⟩)) rfl rfl (hS1) ?_
 simp only[nn]
 refine gp 6 (some 19) (.slice B vs.length c) rfl rfl (hS1) ?_
 simp only[nn]
 refine gr (rs:= [2]) (gcB 2 (some 15) rfl rfl hS1 (check_h h nullV _ (hS1.hp 0 rfl) (hT.fr hS1.fr H.low).1) id ?_ gn)
 intro Yt1 hqt1
 simp only[nn]
 refine gr (rs:= [4]) (gcB 4 (some 17) rfl rfl hqt1 (aproto_null _) id ?_ gn)
 intro Yt2 hqt2
 simp only[nn]
 refine gr (rs:= [7]) (gcB 7 (some 20) rfl rfl hqt2 (aknown_h h B c vs _ (hqt2.hp 0 rfl) (hT.fr hqt2.fr H.low).1 (HRV hqt2.fr) hz) id ?_ gn)
 intro Yt3 hqt3
 simp only[nn]
 refine gr (rs:= [8]) (gbsS 8 (some 21) rfl rfl (by kernel_rfl) (ex_bsE3 rfl rfl rfl rfl) (Nat.succ_pos _) hqt3 (fun _ hZ=>Sy.left (L:= [_,_]) (M:= [_]) hZ) ?_ gn)
 intro Yt4 Bt4 hEt4 hqt4
 clear hEt4
 simp only[nn]
 refine gr (rs:= [9]) (gcW 9 (some 22) rfl rfl (Sy.left (L:= [_,_]) (M:= [_]) hqt4) (or_any Bt4 3 [checkE h.l.length nullV,0,knE h.l.length vs] _ (hqt4.hold 2 rfl) (by simp)) ?_ gn)
 refine gp 10 (some 8) (.int .i64 (orE [checkE h.l.length nullV,0,knE h.l.length vs])) rfl rfl (Sy.left (L:= [_,_]) (M:= [_]) hqt4) ?_
 simp only[nn]
 refine wpAnyH_done (by kernel_rfl) ?_ _
 try simp only[nn]
 have SS:=hide (Sy.left (L:= [hpO h,boxO Ba nullV.cs]) (M:= [boxO Bt4 (ints [checkE h.l.length nullV,0,knE h.l.length vs])]) hqt4)
 rw[or_kn]
 have hN:vs.length<=4294967295:=by omega
 go_wp2_with (first|go_skip|((with_reducible show wpList ..);first|(refine rd rfl (ex_neE0 rfl rfl rfl hc) ?_;simp only[nn])|(refine zL (nullV.cs) 35 5 1 rwV szV (by rfl) rfl rfl SS rfl rfl rfl ?_;simp only[nn])|(refine rd rfl (ex_lenG 22 35 underlying22 rfl rfl) ?_;simp only[nn])|(refine rd rfl (ex_c32 rfl rfl hN) ?_;simp only[nn])))
 have HC:=aadd_h h nullV vs.length _ ((uh SS).hp 0 rfl) (hT.fr (uh SS).fr H.low) hl hroom (.inl hz2)
 rw[show nullV.agg= .agg nullV.cs.toArray from rfl] at HC
 refine HC.mono ?_
 clear HC
 rintro _ Y ⟨gv,q,rfl,a1,a2,a3,a4,a5,T1⟩
 have HI0:Hid (LayI h vs w Ba 0 Y):=hide ⟨gv,q,a1,a3,a4,a5,(uh SS).heap 0 rfl T1⟩
 clear SS a1 a2 a3 a4 a5 T1
 go_wp2_with (first|go_skip|((with_reducible show wpList ..);first|(refine rd rfl (ex_lenG 22 35 underlying22 rfl rfl) ?_;simp only[nn])))
 go_loopg [41] vs.length (fun gm s41 wr=> ∃i:Nat,s41= .int .i64 (i:Nat)/\i<=vs.length/\vs.length - i<=gm/\Hid (LayI h vs w Ba i wr))
 case atStart=>exact⟨0,rfl,by omega,by omega,HI0⟩
 case round=>
  clear HI0
  obtain⟨i,rfl,hil,hgm,HI⟩:=hrel
  by_cases hlt:i<vs.length
  ·have dlt:decide ((i:Int)<(vs.length:Int))=true:=decide_eq_true (by omega)
   have hw1:IntKind.i64.wrap ((i:Int)+1)=(i:Int)+1:=by rw[IntKind.wrap_i64];omega
   have hi32:i<=4294967295:=by omega
   obtain⟨v,hv⟩: ∃v,vs[i]? =some v:=⟨_,List.getElem?_eq_getElem hlt⟩
   have HG:=hide (kn_zero hc hv)
   obtain⟨b,off,hA,hb,hrg⟩:=hR i v hv
   have HA2:Hid (∀X:World,Fr w X h.blocks->X.rangeAt b (off+i * 5) v.cs):=hide (fun X k=>by
    obtain⟨b2,off2,hA2,_,hr2⟩:=(HRV k) i v hv
    rw[hA] at hA2
    obtain⟨rfl,rfl⟩:b=b2/\off=off2:=by simpa using hA2
    exact hr2)
   subst hA
   obtain⟨gv,q,hq3,hqx,hqp0,hqla,hS⟩:=uh HI
   have SS:=hide hS
   clear hS HI
   have HLA:=hide hqla
   have hla0:q.T.last<4000000:=by omega
   have HLT:=hide hlt
   clear hb hrg hlt hil
   go_wp2_with (first|go_skip|((with_reducible show wpList ..);first|(refine rd rfl (ex_indexG 22 5 i unVs idVs rfl rfl rfl (uh HLT)) ?_;simp only[nn])|(refine rd rfl (ex_loadR (vs:=v.cs) 35 5 rwV szV rfl rfl (uh HA2 _ (uh SS).fr) rfl) ?_;simp only[nn])|(refine zA 35 (zeroV.cs) (by rfl) rfl SS ?_;clear SS;intro Xv Bv SS;simp only[nn])|(refine zS (v.cs) 2 35 (by rfl) rfl rfl rfl rfl (oneV v) szV SS rfl ?_;clear SS;intro X4 SS;simp only[nn])))
   have hS9:Sy w _ h.blocks [hpO (h.more gv q),boxO Ba nullV.cs,boxO Bv v.cs]:=(uh SS).drew
   clear SS
   have hl2:(h.more gv q).l.length<=65536:=by show (h.l++ [q]).length<=65536;simp;omega
   have hok:=idx_ok (u:=i) (by have:=uh HLT;omega)
   have hgd:=idx_good (u:=i) (by have:=uh HLT;omega)
   have hFn:FD (getD q.T (idxK i)):=by rw[arr_get_none hqp0 (by rw[List.length_take];omega)];exact zero_FD
   have hFd:FD (opnD v):=⟨hX64 i v hv,show 0<2^64 by decide,show 0<2^64 by decide⟩
   refine wp_region_held_drew (P:=prog) (S:=fun X=>Holds X Bv v.cs) (by kernel_rfl) (hS9.hold 2 rfl) (fun hS0=> ?_)
   refine gq 0 (some 46) (.agg #[]) rfl rfl (fun X hX=>ex_bM rfl) (hS9.hold 2 rfl) ?_
   simp only[nn]
   refine gp 1 (some 47) (.pointer (some ⟨h.b,0,none⟩)) rfl rfl (hS9.hold 2 rfl) ?_
   simp only[nn]
   refine gp 2 (some 48) (.int .i64 ((h.l.length:Int)+1)) rfl rfl (hS9.hold 2 rfl) ?_
   simp only[nn]
   refine gp 3 (some 49) (.int .i64 (i:Nat)) rfl rfl (hS9.hold 2 rfl) ?_
   simp only[nn]
   refine gq 4 (some 50) (.int .u32 (i:Nat)) rfl rfl (fun X hX=>ex_c32 rfl rfl hi32) (hS9.hold 2 rfl) ?_
   simp only[nn]
   refine gq 6 (some 52) (.agg v.cs.toArray) rfl rfl (fun X hX=>ex_loadN (vs:=v.cs) 35 5 rwV szV rfl rfl hX rfl rfl) (hS9.hold 2 rfl) ?_
   simp only[nn]
   refine gq 7 (some 53) (.agg (opnD v).cs.toArray) rfl rfl (fun X hX=>ex_opn v rfl rfl rfl rfl rfl) (hS9.hold 2 rfl) ?_
   simp only[nn]
   refine gr (rs:= [5]) (gc 5 (some 51) rfl rfl (fromIndex32 i hi32 _ (hT.fr hS9.fr H.low).2) ?_ gn)
   rintro e Yt1 ⟨rfl,hYt1⟩
   have hqt1:=Sy.on hS9 hYt1
   refine⟨_,rfl,hqt1.hold 2 rfl, ?_⟩
   simp only[nn]
   refine gr (rs:= [8]) (gc 8 (some 54) rfl rfl (lay_h (h.more gv q) h.l.length q (idxK i) (opnD v) _ (hqt1.hp 0 rfl) hl2 (more_last h gv q) (hT.fr hqt1.fr H.low) hok hgd hFn hFd hla0) ?_ gn)
   rintro e Yt2 ⟨h1,y,rfl,hP,T3⟩
   have hqp:=Sy.heap hqt1 0 rfl T3
   refine⟨_,rfl,hqp.hold 2 rfl, ?_⟩
   refine wpAnyH_done (by kernel_rfl) ?_ _
   try simp only[nn]
   obtain⟨T',rfl,hpr,hla⟩:=lay_step hv (uh HG) hqx hqp0 hP
   have HI2:Hid (LayI h vs w Ba (i+1) _):=hide ⟨gv,{q with T:=T'},hq3,hqx,hpr,(by have:=hla;have:=uh HLA;show T'.last<=_;omega),Sy.left (L:= [_,_]) (M:= [_]) hqp⟩
   clear hqp hP T3 hpr hla
   go_wp2
   go_roundg (vs.length - (i+1))
   case measure=>have:=uh HLT;omega
   case rel=>exact⟨i+1,by go_num,by have:=uh HLT;omega,by omega,HI2⟩
  ·obtain rfl:i=vs.length:=by omega
   clear hlt hil
   go_wp2
   go_ret2
   obtain⟨gv,q,hq3,hqx,hqp0,hqla,hS⟩:=uh HI
   exact⟨gv,q,rfl,hq3,hqx,(by rw[hqp0,List.take_length]),hqla,HP.To.end H hS rfl⟩
end
section
open Go Go.Proofs Go.Maps Go.RowKit FM
theorem find_idx {vs:List VV} {k i:Nat} {v:VV} (hv:vs[i]? =some v):(vs.mapIdx (fun j x=>(idxK (j+k),opnD x))).find? (fun e=>decide (e.1=idxK (i+k)))=some (idxK (i+k),opnD v):=by
 induction vs generalizing i k with
 |nil=>cases hv
 |cons x t ih=>
  rw[List.mapIdx_cons]
  cases i with
  |zero=>
   obtain rfl:x=v:=by simpa using hv
   simp
  |succ m=>
   have hne: ¬idxK (0+k)=idxK (m+1+k):=fun h=>by have:=idx_inj h;omega
   rw[List.find?_cons_of_neg (by simpa using hne)]
   have h2:=ih (k:=k+1) (i:=m) (by simpa using hv)
   have e1:(fun (j:Nat) (x:VV)=>(idxK (j+1+k),opnD x))=(fun j x=>(idxK (j+(k+1)),opnD x)):=by
    funext j x
    rw[show j+1+k=j+(k+1) by omega]
   rw[e1,show m+1+k=m+(k+1) by omega]
   exact h2
theorem arr_get {T:TT} {n:Nat} {vs:List VV} {i:Nat} {v:VV} (hT:pr T=arrL n vs) (hv:vs[i]? =some v):getD T (idxK i)=opnD v:=by
 rw[pr_get,hT]
 unfold arrL lkP
 have hne: ¬lenK=idxK i:=fun h=>idx_len i h.symm
 rw[List.find?_cons_of_neg (by simpa using hne)]
 have:=find_idx (k:=0) hv
 simp only[Nat.add_zero] at this
 rw[this]
 rfl
end
section
open Go Go.Proofs Go.Maps Go.RowKit FM Tryz
attribute [local go_sem] mm_DefineOwnProperty mm_GetOwnProperty mm_HasProperty mm_Get mm_Delete mm_OwnPropertyKeys ta_caller
attribute [local go_sem] bits_run run_store_float
theorem nf_mx:nf 4294967295=4751297606873776128:=by kernel_rfl
def numC (x:Nat):List Value:= [.int .i64 4, .bool false, .float .f64 x, .string ByteArray.empty, .int .i64 0]
theorem num_agg (x:Nat):(numV x).agg= .agg (numC x).toArray:=rfl
theorem oneN (x:Nat): ∀u∈numC x,u.oneCell'=true:=by simp[numC,Value.oneCell']
theorem num_check (n x:Nat):checkE n (numV x)=0:=by
 unfold checkE
 rw[num_good]
 simp[knownE,knownV,numV]
theorem prim_num (b x:Nat) (hint:Int) (w:World):Calls prog 195 #[.pointer (some ⟨b,0,none⟩),(numV x).agg, .int .i64 hint] w fun e w'=>e= .returned (.tuple #[(numV x).agg, .nilIface])/\Below w.heap.size w w':=by
 have SS:=hide (Sy.nil w [])
 rw[num_agg]
 go_enter func195,ntmps195
 go_wp2_with (first|go_skip|((with_reducible show wpList ..);first|(refine zB 35 (numC x) (by rfl) rfl rfl rfl SS ?_;clear SS;intro Xa Ba SS;simp only[nn])|(refine zA 35 (zeroV.cs) (by rfl) rfl SS ?_;clear SS;intro Xb Bb SS;simp only[nn])|(refine z1 3 isAgg3 0 (by rfl) rfl rfl SS rfl rfl ?_;simp only[nn])|(refine zL (numC x) 35 5 0 rwV szV (by rfl) rfl rfl SS rfl rfl rfl ?_;simp only[nn])|(refine zS ((numV x).cs) 1 35 (by rfl) rfl rfl rfl rfl (oneV _) szV SS rfl ?_;clear SS;intro Xc SS;simp only[nn])))
 refine bodyPost_ret (res_ct rwV szV rfl rfl rfl ((uh SS).hold 1 rfl) rfl) rfl ?_
 exact⟨rfl,(uh SS).fr.below⟩
theorem numeral_num (x:Nat) (w:World):Calls prog 196 #[(numV x).agg] w fun e w'=>e= .returned (.tuple #[.float .f64 x, .nilIface])/\Below w.heap.size w w':=by
 have SS:=hide (Sy.nil w [])
 rw[num_agg]
 go_enter func196,ntmps196
 go_wp2_with (first|go_skip|((with_reducible show wpList ..);first|(refine zB 35 (numC x) (by rfl) rfl rfl rfl SS ?_;clear SS;intro Xa Ba SS;simp only[nn])|(refine z1 3 isAgg3 0 (by rfl) rfl rfl SS rfl rfl ?_;simp only[nn])|(refine z1 33 isAgg33 0 (by rfl) rfl rfl SS rfl rfl ?_;simp only[nn])))
 go_ret2
 exact⟨rfl,(uh SS).fr.below⟩
theorem number_num (h:HP) (x:Nat) (w:World) (H:h.Is w) (hT:Tabs w):Calls prog 190 #[.pointer (some ⟨h.b,0,none⟩),(numV x).agg] w fun e w'=>e= .returned (.tuple #[.float .f64 x, .nilIface])/\Below w.heap.size w w':=by
 have SS:=hide (Sy.nil w [])
 have HH:=hide H
 clear H
 have HT:=hide hT
 clear hT
 rw[num_agg]
 go_enter func190,ntmps190
 go_wp2_with (first|go_skip|((with_reducible show wpList ..);first|(refine zB 35 (numC x) (by rfl) rfl rfl rfl SS ?_;clear SS;intro Xa Ba SS;simp only[nn])|(refine zL (numC x) 35 5 0 rwV szV (by rfl) rfl rfl SS rfl rfl rfl ?_;simp only[nn])))
 have HO:=check_h h (numV x) _ ((uh HH).on (uh SS).fr.below) ((uh HT).on (uh SS).fr.below).1
 rw[num_check,num_agg] at HO
 refine HO.mono ?_
 clear HO
 rintro _ Y1 ⟨rfl,hb⟩
 replace SS:=hide ((uh SS).on hb)
 clear hb
 go_wp2_with (first|go_skip|((with_reducible show wpList ..);first|(refine zL (numC x) 35 5 0 rwV szV (by rfl) rfl rfl SS rfl rfl rfl ?_;simp only[nn])))
 have HO:=fun X=>prim_num h.b x 2 X
 simp only[num_agg] at HO
 refine(HO _).mono ?_
 clear HO
 rintro _ Y2 ⟨rfl,hb⟩
 replace SS:=hide ((uh SS).on hb)
 clear hb
 go_wp2_with (first|go_skip|((with_reducible show wpList ..);first|(refine zA 35 (zeroV.cs) (by rfl) rfl SS ?_;clear SS;intro Xb Bb SS;simp only[nn])|(refine zS ((numV x).cs) 1 35 (by rfl) rfl rfl rfl rfl (oneV _) szV SS rfl ?_;clear SS;intro Xc SS;simp only[nn])|(refine zL (numC x) 35 5 1 rwV szV (by rfl) rfl rfl SS rfl rfl rfl ?_;simp only[nn])))
 have HO:=fun X=>numeral_num x X
 simp only[num_agg] at HO
 refine(HO _).mono ?_
 clear HO
 rintro _ Y3 ⟨rfl,hb⟩
 replace SS:=hide ((uh SS).on hb)
 clear hb
 go_wp2
 go_ret2
 exact⟨rfl,(uh SS).fr.below⟩
theorem frombits_run (n:Int) (w:World):(callFunc 223 #[.int .u64 n]).run prog w= .ok (.value (.float .f64 n.toNat)) w:=by
 rw[run_callFunc_extern func223 (by kernel_rfl) (by kernel_rfl) (by kernel_rfl) (e:=Extern.MathFloatBits.float64frombits) (by kernel_rfl)];rfl
attribute [local go_sem] frombits_run
theorem ex_neF {o:Oper} {a:Act} {w:World} {x y:Operand} (ho:o.op= .binOp .neq 33 x y 33) (hx:a.eval x= .float .f64 4751297606873776128) (hy:a.eval y= .float .f64 4751297606873776128):(execOp a.eval o).run prog w= .ok (.value (.bool false)) w:=by
 unfold execOp
 simp only[ho,hx,hy]
 kernel_rfl
theorem ex_gtF {o:Oper} {a:Act} {w:World} {x:Operand} (ho:o.op= .binOp .gtr 33 x (.const (.float .f64 9218868437227405311)) 33) (hx:a.eval x= .float .f64 4751297606873776128):(execOp a.eval o).run prog w= .ok (.value (.bool false)) w:=by
 unfold execOp
 simp only[ho,hx]
 kernel_rfl
theorem ex_ltF {o:Oper} {a:Act} {w:World} {x:Operand} (ho:o.op= .binOp .lss 33 x (.const (.float .f64 0)) 33) (hx:a.eval x= .float .f64 4751297606873776128):(execOp a.eval o).run prog w= .ok (.value (.bool false)) w:=by
 unfold execOp
 simp only[ho,hx]
 kernel_rfl
theorem split_mx (w:World):Calls prog 201 #[.float .f64 4751297606873776128] w fun e w'=>e= .returned (.tuple #[.int .u64 9007199252643840, .int .i64 (-21)])/\w'=w:=by
 have a1:bits BinOp.and IntKind.u64 4751297606873776128 4503599627370495=4503599625273344:=by kernel_rfl
 have a2:bits BinOp.and IntKind.u64 1054 2047=1054:=by kernel_rfl
 have a3:bits BinOp.or IntKind.u64 4503599625273344 4503599627370496=9007199252643840:=by kernel_rfl
 go_enter func201,ntmps201
 go_wp2
 go_ret2
 exact⟨rfl,rfl⟩
theorem low_mx (w:World):Calls prog 200 #[.int .u64 9007199252643840, .int .i64 (-21)] w fun e w'=>e= .returned (.int .u32 4294967295)/\w'=w:=by
 go_enter func200,ntmps200
 go_wp2
 go_ret
 exact⟨rfl,rfl⟩
theorem abs_mx (w:World):Calls prog 225 #[.float .f64 4751297606873776128] w fun e w'=>e= .returned (.float .f64 4751297606873776128)/\w'=w:=by
 have a1:bits BinOp.andNot IntKind.u64 4751297606873776128 9223372036854775808=4751297606873776128:=by kernel_rfl
 go_enter func225,ntmps225
 go_wp2
 go_ret
 exact⟨rfl,rfl⟩
theorem isinf_mx (w:World):Calls prog 214 #[.float .f64 4751297606873776128, .int .i64 0] w fun e w'=>e= .returned (.bool false)/\w'=w:=by
 go_enter func214,ntmps214
 go_wp2_with fail
 refine(abs_mx _).mono ?_
 rintro _ _ ⟨rfl,rfl⟩
 go_wp2_with (first|go_skip|((with_reducible show wpList ..);first|(refine rd rfl (ex_gtF rfl rfl) ?_;simp only[nn])))
 go_ret
 exact⟨rfl,rfl⟩
theorem fin_mx (w:World):Calls prog 199 #[.float .f64 4751297606873776128] w fun e w'=>e= .returned (.bool true)/\w'=w:=by
 have hn:isN 4751297606873776128=false:=by kernel_rfl
 go_enter func199,ntmps199
 go_wp2_with fail
 have HI:=isnan_any 4751297606873776128 w
 rw[hn] at HI
 refine HI.mono ?_
 rintro _ _ ⟨rfl,rfl⟩
 go_wp2_with fail
 refine(isinf_mx _).mono ?_
 rintro _ _ ⟨rfl,rfl⟩
 go_wp2
 go_ret
 exact⟨rfl,rfl⟩
theorem u32_mx (w:World):Calls prog 194 #[.float .f64 4751297606873776128] w fun e w'=>e= .returned (.int .u32 4294967295)/\w'=w:=by
 go_enter func194,ntmps194
 go_wp2_with fail
 refine(fin_mx _).mono ?_
 rintro _ _ ⟨rfl,rfl⟩
 go_wp2_with fail
 refine(split_mx _).mono ?_
 rintro _ _ ⟨rfl,rfl⟩
 go_wp2_with fail
 refine(low_mx _).mono ?_
 rintro _ _ ⟨rfl,rfl⟩
 go_wp2_with (first|go_skip|((with_reducible show wpList ..);first|(refine rd rfl (ex_ltF rfl rfl) ?_;simp only[nn])))
 go_ret
 exact⟨rfl,rfl⟩
