import Derived.Test.YtlpdllcedgnaaaaGreatDoorRt
set_option linter.all false
namespace Go.Proofs.YtlpdllcedgnaaaaGreatDoor
set_option maxRecDepth 100000
set_option maxHeartbeats 0
section
open Go Go.Proofs Go.Maps Go.RowKit FM Tryz
attribute [local go_sem] Ao Ai Am Dq Dp Br Ah Bq
theorem Xw {T:TT} {W:World} (h:T.Is W):T.live.length<=T.last:=by
 have h1:T.live.length<=T.rows.length:=List.length_filter_le _ _
 have h2:=h.rise
 have h3:=h.num
 clear h
 have key: ∀(l:List RR) (m:Nat),l.Pairwise (fun a b=>a.n<b.n)->(∀r∈l,m<r.n/\r.n<=T.last)->l.length+m<=T.last∨l= []:=by
  intro l
  induction l with
  |nil=>exact fun m _ _=> .inr rfl
  |cons a l ih=>
   intro m hp hn
   left
   rw[List.pairwise_cons] at hp
   rcases ih a.n hp.2 (fun r hr=>⟨hp.1 r hr,(hn r (List.mem_cons_of_mem _ hr)).2⟩) with h|h
   ·have:=(hn a (List.mem_cons_self ..)).1
    simp only[List.length_cons]
    omega
   ·subst h
    have:=hn a (List.mem_cons_self ..)
    simp only[List.length_cons,List.length_nil]
    omega
 rcases key T.rows 0 h2 (fun r hr=>⟨(h3 r hr).1,(h3 r hr).2⟩) with h|h
 ·omega
 ·rw[h] at h1
  simp at h1
  rw[h1]
  exact Nat.zero_le _
structure NewS (h:HP) (s:ByteArray) (h1:HP) (q:OB) (W:Nat) (X:World):Prop where
 l:h1.l= [q]
 qi:QI (unS s) q
 un:Un h1 q.ov (unS s) X
 x:q.x=true
 ps:pr q.T= [(lenK,lenD (unS s).length)]
 la:q.T.last<=1
 f:h1.fuel=h.fuel
 e:h1.ent=h.ent
 d:h1.depth=h.depth
 ub: ∀b,q.ov.ownBlock=some b->W<=b
theorem one_qi {u:List Nat} {q:OB} (ho:q.ot=81) (hp:q.p=nulV) (hps:pr q.T= [(lenK,lenD u.length)]):QI u q:=by
 refine⟨ho,hp, ?_,fun e he=> ?_,fun e he=> ?_⟩
 ·rw[hps]
  unfold lkP
  rw[List.find?_cons,show decide ((lenK,lenD u.length).1=lenK)=true from decide_eq_true rfl]
  rfl
 ·rw[hps] at he
  rw[List.mem_singleton.1 he]
  unfold unB
  rw[ixU_len]
  rfl
 ·rw[hps] at he
  rw[List.mem_singleton.1 he]
  exact⟨len_FD _,Kn,Kn⟩
theorem more_tab (h:HP) (gv:Value) (q:OB) (T':TT) (hl:h.l= []):(h.more gv q).tab 0 q T'=h.more gv {q with T:=T'}:=by
 unfold HP.tab HP.more
 simp[hl]
theorem more_at (h:HP) (gv:Value) (q:OB) (hl:h.l= []):(h.more gv q).l[0]? =some q:=by
 unfold HP.more
 simp[hl]
theorem Pj (n:Nat):Gu n nulV=0:=by
 have:nulV.good=true:=by simp[VV.good,Gi,Ni,nulV,inG]
 unfold Gu
 rw[this,Xt]
 rfl
theorem Le {s:ByteArray} (h:Gh s=true):s.size<=1048576/\vS s=true:=by
 unfold Gh at h
 simp only[Bool.and_eq_true,decide_eq_true_eq] at h
 exact⟨h.1,h.2⟩
theorem ex_bM {o:Oper} {a:Act} {w:World} (ho:o.op= .build 87 #[]):(execOp a.eval o).run prog w= .ok (.value (.agg #[])) w:=by
 have e:(Instr.build 87 #[]).run prog w= .ok (.agg #[]) w:=by kernel_rfl
 unfold execOp
 simp only[ho]
 simp[e]
theorem Rl (h:HP) (s:ByteArray) (w:World) (H:h.Is w) (hT:Tabs w) (hf:Gh s=false):Calls prog 8 #[.pointer (some ⟨h.b,0,none⟩),nulV.agg, .string s] w fun e w'=>e= .returned (.tuple #[.int .i64 0,Mf 5])/\h.To h w w':=by
 have hce:orE [0,0,Mv s]=5:=by unfold Mv;rw[hf];rfl
 have SS:=Ab H.start
 have HCK:=fun {X:World} (hX:h.Is X) (hU:Lib.Utf8Tabs 0 1 X)=>Rb h nulV X hX hU
 rw[Pj] at HCK
 rw[Dj]
 go_enter func8,ntmps8
 go_wp2_with (first|go_skip|((with_reducible show wpList ..);first|(refine zB 36 (nulV.cs) (by rfl) rfl rfl rfl SS ?_;clear SS;intro Xa Ba SS;simp only[nn])))
 have hS1:Sy w _ h.blocks [hpO h,Bf Ba nulV.cs]:=(Aa SS).drew
 clear SS
 refine wp_region_held_drew (P:=prog) (S:=fun X=>Sy w X h.blocks _) (by kernel_rfl) (hS1) (fun hS0=> ?_)
 refine gp 0 (some 12) (.pointer (some ⟨h.b,0,none⟩)) rfl rfl (hS1) ?_
 refine gq 1 (some 13) (.agg (nulV.cs).toArray) rfl rfl (fun X hX=>Aj (vs:=nulV.cs) 36 5 rwV szV rfl rfl (hX.hold 1 rfl) rfl rfl) (hS1) ?_
 refine gq 3 (some 15) (.agg (nulV.cs).toArray) rfl rfl (fun X hX=>Aj (vs:=nulV.cs) 36 5 rwV szV rfl rfl (hX.hold 1 rfl) rfl rfl) (hS1) ?_
 refine gp 5 (some 17) (.string s) rfl rfl (hS1) ?_
 refine gr (rs:= [2]) (gcB 2 (some 14) rfl rfl hS1 (HCK (hS1.hp 0 rfl) (hT.fr hS1.fr H.low).1) id ?_ gn)
 intro Yt1 hqt1
 simp only[nn]
 refine gr (rs:= [4]) (gcB 4 (some 16) rfl rfl hqt1 (Qd _) id ?_ gn)
 intro Yt2 hqt2
 simp only[nn]
 refine gr (rs:= [6]) (gcB 6 (some 18) rfl rfl hqt2 (Yb s _ (hT.fr hqt2.fr H.low).1) id ?_ gn)
 intro Yt3 hqt3
 simp only[nn]
 refine gr (rs:= [7]) (Bj 7 (some 19) rfl rfl (by kernel_rfl) (Ra rfl rfl rfl rfl) (Nat.succ_pos _) hqt3 (fun _ hZ=>Sy.left (L:= [_,_]) (M:= [_]) hZ) ?_ gn)
 intro Yt4 Bt4 hEt4 hqt4
 clear hEt4
 simp only[nn]
 refine gr (rs:= [8]) (gcW 8 (some 20) rfl rfl (Sy.left (L:= [_,_]) (M:= [_]) hqt4) (Lk Bt4 3 [0,0,Mv s] _ (hqt4.hold 2 rfl) (by simp)) ?_ gn)
 refine gp 9 (some 8) (.int .i64 (orE [0,0,Mv s])) rfl rfl (Sy.left (L:= [_,_]) (M:= [_]) hqt4) ?_
 refine wpAnyH_done (by kernel_rfl) ?_ _
 try simp only[nn]
 have SS:=Ab (Sy.left (L:= [hpO h,Bf Ba nulV.cs]) (M:= [Bf Bt4 (Lo [0,0,Mv s])]) hqt4)
 have hc:orE [0,0,Mv s]≠0:=by rw[hce];decide
 go_wp2_with (first|go_skip|((with_reducible show wpList ..);first|(refine rd rfl (Jo rfl rfl rfl hc) ?_)))
 go_ret2
 rw[hce]
 exact⟨rfl,HP.To.end H (Aa SS) rfl⟩
theorem Yr (h:HP) (s:ByteArray) (w:World) (H:h.Is w) (hT:Tabs w) (hl0:h.l= []) (hroom:Kf h=0) (hf:Gh s=true):Calls prog 8 #[.pointer (some ⟨h.b,0,none⟩),nulV.agg, .string s] w fun e w'=> ∃(h1:HP) (q:OB),e= .returned (.tuple #[.int .i64 (((0:Nat):Int)+1), .nilIface])/\NewS h s h1 q w.heap.size w'/\h.To h1 w w':=by
 have hce:orE [0,0,Mv s]=0:=by unfold Mv;rw[hf];rfl
 have SS:=Ab H.start
 have HCK:=fun {X:World} (hX:h.Is X) (hU:Lib.Utf8Tabs 0 1 X)=>Rb h nulV X hX hU
 rw[Pj] at HCK
 rw[Dj]
 go_enter func8,ntmps8
 go_wp2_with (first|go_skip|((with_reducible show wpList ..);first|(refine zB 36 (nulV.cs) (by rfl) rfl rfl rfl SS ?_;clear SS;intro Xa Ba SS;simp only[nn])))
 have hS1:Sy w _ h.blocks [hpO h,Bf Ba nulV.cs]:=(Aa SS).drew
 clear SS
 refine wp_region_held_drew (P:=prog) (S:=fun X=>Sy w X h.blocks _) (by kernel_rfl) (hS1) (fun hS0=> ?_)
 refine gp 0 (some 12) (.pointer (some ⟨h.b,0,none⟩)) rfl rfl (hS1) ?_
 refine gq 1 (some 13) (.agg (nulV.cs).toArray) rfl rfl (fun X hX=>Aj (vs:=nulV.cs) 36 5 rwV szV rfl rfl (hX.hold 1 rfl) rfl rfl) (hS1) ?_
 refine gq 3 (some 15) (.agg (nulV.cs).toArray) rfl rfl (fun X hX=>Aj (vs:=nulV.cs) 36 5 rwV szV rfl rfl (hX.hold 1 rfl) rfl rfl) (hS1) ?_
 refine gp 5 (some 17) (.string s) rfl rfl (hS1) ?_
 refine gr (rs:= [2]) (gcB 2 (some 14) rfl rfl hS1 (HCK (hS1.hp 0 rfl) (hT.fr hS1.fr H.low).1) id ?_ gn)
 intro Yt1 hqt1
 simp only[nn]
 refine gr (rs:= [4]) (gcB 4 (some 16) rfl rfl hqt1 (Qd _) id ?_ gn)
 intro Yt2 hqt2
 simp only[nn]
 refine gr (rs:= [6]) (gcB 6 (some 18) rfl rfl hqt2 (Yb s _ (hT.fr hqt2.fr H.low).1) id ?_ gn)
 intro Yt3 hqt3
 simp only[nn]
 refine gr (rs:= [7]) (Bj 7 (some 19) rfl rfl (by kernel_rfl) (Ra rfl rfl rfl rfl) (Nat.succ_pos _) hqt3 (fun _ hZ=>Sy.left (L:= [_,_]) (M:= [_]) hZ) ?_ gn)
 intro Yt4 Bt4 hEt4 hqt4
 clear hEt4
 simp only[nn]
 refine gr (rs:= [8]) (gcW 8 (some 20) rfl rfl (Sy.left (L:= [_,_]) (M:= [_]) hqt4) (Lk Bt4 3 [0,0,Mv s] _ (hqt4.hold 2 rfl) (by simp)) ?_ gn)
 refine gp 9 (some 8) (.int .i64 (orE [0,0,Mv s])) rfl rfl (Sy.left (L:= [_,_]) (M:= [_]) hqt4) ?_
 refine wpAnyH_done (by kernel_rfl) ?_ _
 try simp only[nn]
 have SS:=Ab (Sy.left (L:= [hpO h,Bf Ba nulV.cs]) (M:= [Bf Bt4 (Lo [0,0,Mv s])]) hqt4)
 have hc:orE [0,0,Mv s]=0:=hce
 go_wp2_with (first|go_skip|((with_reducible show wpList ..);first|(refine rd rfl (Jp rfl rfl rfl hc) ?_)))
 refine(Zc4 s (Le hf).1 _ (hT.fr (Aa SS).fr H.low).1).mono ?_
 rintro _ Y1 ⟨v,rfl,hO,hb1⟩
 have hs0:=(Aa SS).fr.size
 replace SS:=Ab (Sy.addRow (base:=w.heap.size) (Aa SS) hO hb1 hs0)
 obtain⟨A,c,hv⟩:=Eg hO
 have HV:=Ab hv
 clear hO hb1 hs0 hv
 go_wp2_with (first|go_skip|((with_reducible show wpList ..);first|(refine zL (nulV.cs) 36 5 1 rwV szV (by rfl) rfl rfl SS rfl rfl rfl ?_;simp only[nn])|(refine rd rfl (ex_bM rfl) ?_)))
 have HC:=add_h h nulV 81 v _ ((Aa SS).hp 0 rfl) (hT.fr (Aa SS).fr H.low) (by rw[hl0];simp)
 rw[Dj] at HC
 refine HC.mono ?_
 clear HC
 rintro _ Y (⟨rfl,hc1,T1⟩|⟨hc1,gv,q,rfl,a1,a2,a3,a4,a5,a6,a7,T1⟩)
 ·refine absurd ?_ hc1
  rw[Pj,hroom]
  rfl
 ·replace SS:=Ab ((Aa SS).heap 0 rfl T1)
  have hb1:(h.more gv q).b=h.b:=T1.hb
  clear T1
  rw[hl0]
  rw[show (([]:List OB).length:Int)+1=((0:Nat):Int)+1 from rfl]
  have T0:h.To (h.more gv q) w _:=HP.To.end H (Aa SS) hb1
  have HLY:=fun (X:World) (hX:h.To (h.more gv q) w X)=>slay_h (h.more gv q) 0 q (unS s).length X hX.is (by show (h.l++ [q]).length<=65536;rw[hl0];simp) (more_at h gv q hl0) (hX.tabs H hT) a6 a3 a7
  rw[hb1] at HLY
  simp only[more_tab h gv q _ hl0] at HLY
  clear T0
  go_wp2_with (first|go_skip|((with_reducible show wpList ..);first|(refine rd rfl (ex_bM rfl) ?_)|(refine rd rfl (Bu 81 103 underlying81 rfl (Aa HV)) ?_)))
  refine(HLY _ (HP.To.end H (Aa SS) hb1)).mono ?_
  rintro _ Y3 ⟨T',rfl,hpr,hla,T3⟩
  replace SS:=Ab ((Aa SS).heap 0 rfl T3)
  have hb3:(h.more gv {q with T:=T'}).b=h.b:=T3.hb.trans hb1
  clear T3
  have HR:=Ab (And.intro hpr hla)
  clear hpr hla
  go_wp2
  go_ret2
  refine⟨h.more gv {q with T:=T'},{q with T:=T'},rfl,⟨by unfold HP.more;simp[hl0],one_qi a4 a2 (Aa HR).1,⟨?_,fun b hb hm=> ?_⟩,a3,(Aa HR).1,(Aa HR).2,rfl,rfl,rfl,fun b hb=>(World.ownsRow.lt (show World.ownsRow _ w.heap.size _ _ v _ _ from (Aa SS).get 2 rfl) b (by rw[←a5];exact hb)).1⟩,HP.To.end H (Aa SS) hb3⟩
  ·rw[show ({q with T:=T'}:OB).ov=v from a5]
   exact Kz ((Aa SS).get 2 rfl) (Nat.zero_le _)
  ·have hb:v.ownBlock=some b:=by rw[←a5];exact hb
   exact Vg (Aa SS).dis (i:=2) (j:=0) rfl rfl (by decide) b (by show b∈v.ownBlock.toList;rw[hb];simp) hm
theorem data_h (h:HP) (q:OB) (s:ByteArray) (w:World) (H:h.Is w) (hl:h.l= [q]) (ht:q.ot=81) (U:Un h q.ov (unS s) w) (hv:vS s=true) (hs:s.size<=1048576):Calls prog 25 #[.pointer (some ⟨h.b,0,none⟩), .int .i64 1] w fun e w'=>e= .returned (.tuple #[.string s, .int .i64 0])/\Below w.heap.size w w':=by
 have SS:=Ab (Sy.nil w [])
 have HW:=own61 h 0 q w H (by rw[hl];simp) (by rw[hl];rfl) ht
 rw[show ((0:Nat):Int)+1=1 from rfl] at HW
 have HR:=Ab (Xl U.1)
 have hlen:=Qs s
 have HO:=fun (X:World) (hX:Below w.heap.size w X)=>Zbz q.ov (unS s) (Vz s) (by omega) X ((Aa HR).same hX)
 generalize q.ov=v at *
 clear U hl ht H
 go_enter func25,ntmps25
 go_wp2_with fail
 refine HW.mono ?_
 rintro _ _ ⟨rfl,rfl⟩
 go_wp2_with fail
 refine(HO _ (Below.refl _ _)).mono ?_
 rintro _ Y ⟨z,rfl,hz,hb⟩
 obtain rfl:z=s:=ZaA (by rw[hz,un_ok hv])
 have HB:=Ab hb
 clear hb hz
 go_wp2
 go_ret2
 exact⟨rfl,Aa HB⟩
def Vj (a b:VV):Bool:=decide (a.k=b.k) && (decide (a.b=b.b) && ((FloatKind.f64.format.order a.x b.x==some .eq) && (decide (a.s.toList=b.s.toList) && decide (a.i=b.i))))
theorem eqlV (a b:VV) (w:World):(binOp .eql 36 a.agg b.agg).run prog w= .ok (.bool (Vj a b)) w:=by
 unfold VV.agg Vj
 have ht:prog.underlying 36=some (.struct (prog.fieldsOf 36)):=by kernel_rfl
 have hf:prog.fieldsOf 36=(match prog.underlying 36 with|some (.struct f)=>f|_=> #[]):=by kernel_rfl
 rw[run_eql_struct,show (10000:Nat)=9998+1+1 from rfl,run_equalIn_struct _ _ _ _ _ ht (by kernel_rfl)]
 rw[hf,underlying36]
 have hc:=Gq (P:=prog) 9998 34 a.x b.x w underlying34
 generalize (FloatKind.f64.format.order a.x b.x==some .eq)=c at *
 simp[Op.eqFields,go_sem,part,hc]
 by_cases h1:a.k=b.k<;>by_cases h2:a.b=b.b<;>cases c<;>by_cases h3:a.s.toList=b.s.toList<;>by_cases h4:a.i=b.i<;>simp[h1,h2,h3,h4]
theorem neqV (a b:VV) (w:World):(binOp .neq 36 a.agg b.agg).run prog w= .ok (.bool (!Vj a b)) w:=by
 unfold VV.agg Vj
 have ht:prog.underlying 36=some (.struct (prog.fieldsOf 36)):=by kernel_rfl
 have hf:prog.fieldsOf 36=(match prog.underlying 36 with|some (.struct f)=>f|_=> #[]):=by kernel_rfl
 rw[run_neq_struct,show (10000:Nat)=9998+1+1 from rfl,run_equalIn_struct _ _ _ _ _ ht (by kernel_rfl)]
 rw[hf,underlying36]
 have hc:=Gq (P:=prog) 9998 34 a.x b.x w underlying34
 generalize (FloatKind.f64.format.order a.x b.x==some .eq)=c at *
 simp[Op.eqFields,go_sem,part,hc]
 by_cases h1:a.k=b.k<;>by_cases h2:a.b=b.b<;>cases c<;>by_cases h3:a.s.toList=b.s.toList<;>by_cases h4:a.i=b.i<;>simp[h1,h2,h3,h4]
theorem ex_eqV {o:Oper} {a:Act} {w:World} {x y:Operand} {p q:VV} {r:Bool} (ho:o.op= .binOp .eql 36 x y 36) (hx:a.eval x= .agg p.cs.toArray) (hc:a.eval y= .agg q.cs.toArray) (hr:Vj p q=r):(execOp a.eval o).run prog w= .ok (.value (.bool r)) w:=by
 have h:=eqlV p q w
 rw[Dj,Dj,hr] at h
 unfold execOp
 simp only[ho,hx,hc]
 simp[eqGuard,h]
theorem ex_neV {o:Oper} {a:Act} {w:World} {x y:Operand} {p q:VV} {r:Bool} (ho:o.op= .binOp .neq 36 x y 36) (hx:a.eval x= .agg p.cs.toArray) (hc:a.eval y= .agg q.cs.toArray) (hr:(!Vj p q)=r):(execOp a.eval o).run prog w= .ok (.value (.bool r)) w:=by
 have h:=neqV p q w
 rw[Dj,Dj,hr] at h
 unfold execOp
 simp only[ho,hx,hc]
 simp[eqGuard,h]
theorem Oj (e:Int) (w:World):Calls prog 7 #[.int .i64 e] w fun r w'=>r= .returned (.int .i64 e)/\w'=w:=by
 go_enter func7,ntmps7
 go_wp2
 go_ret
 exact⟨rfl,rfl⟩
def Ov (c:Int):List Value:= [.int .i64 c, .int .i64 0]++Bh.cs
theorem ex_bflt {o:Oper} {a:Act} {w:World} {x:Operand} {c:Int} (ho:o.op= .build 72 #[(0,x)]) (hx:a.eval x= .int .i64 c):(execOp a.eval o).run prog w= .ok (.value (.agg (Ov c).toArray)) w:=by
 have e:(Instr.build 72 #[(0, .int .i64 c)]).run prog w= .ok (.agg (Ov c).toArray) w:=by kernel_rfl
 unfold execOp
 simp only[ho,List.map_toArray,List.map_cons,List.map_nil,hx]
 simp[e]
theorem ta_ern (v:Value) (w:World):(Instr.typeAssert (.iface 26 v) 31 26 true).run prog w= .ok (.tuple #[v, .bool true]) w:=by kernel_rfl
theorem ex_taE {o:Oper} {a:Act} {w:World} {x:Operand} {v:Value} (ho:o.op= .typeAssert x 31 26 true) (hx:a.eval x= .iface 26 v):(execOp a.eval o).run prog w= .ok (.value (.tuple #[v, .bool true])) w:=by
 unfold execOp
 simp only[ho,hx]
 simp[ta_ern]
theorem Zcy (c:Int): ∀u∈Ov c,u.oneCell'=true:=by simp[Ov,Bh,VV.cs,Value.oneCell']
theorem ex_eNil {o:Oper} {a:Act} {w:World} {x:Operand} {v:Value} (ho:o.op= .binOp .eql 31 x (.const .nilIface) 31) (hx:a.eval x= .iface 26 v):(execOp a.eval o).run prog w= .ok (.value (.bool false)) w:=by
 unfold execOp
 simp only[ho,hx,show a.eval (.const .nilIface)= .nilIface from rfl]
 simp[go_sem,eqGuard]
theorem ex_fld {o:Oper} {a:Act} {w:World} {x:Operand} {c:Int} (ho:o.op= .field 72 x 0) (hx:a.eval x= .agg (Ov c).toArray):(execOp a.eval o).run prog w= .ok (.value (.int .i64 c)) w:=by
 have e:(Instr.field 72 (.agg (Ov c).toArray) 0).run prog w= .ok (.int .i64 c) w:=by kernel_rfl
 unfold execOp
 simp only[ho,hx]
 simp[e]
theorem fault62 (c:Int) (w:World):Calls prog 62 #[.iface 26 (.int .i64 c)] w fun e w'=>e= .returned (.agg (Ov c).toArray)/\Below w.heap.size w w':=by
 have SS:=Ab (Sy.nil w [])
 go_enter func62,ntmps62
 go_wp2_with (first|go_skip|((with_reducible show wpList ..);first|(refine zA 72 (Ov 0) (by rfl) rfl SS ?_;clear SS;intro Xa Ba SS;simp only[nn])|(refine rd rfl (ex_eNil rfl rfl) ?_)|(refine rd rfl (ex_taE rfl rfl) ?_)|(refine rd rfl (ex_bflt rfl rfl) ?_)|(refine zS (hp:=by simp[Ov]) (Ov c) 0 72 (by rfl) rfl rfl rfl rfl (Zcy c) szF SS rfl ?_;clear SS;intro Xz SS;simp only[nn])))
 refine Qe rwF szF rfl rfl rfl ((Aa SS).hold 0 rfl) rfl ?_
 exact⟨rfl,(Aa SS).fr.below⟩
theorem ZcA (c:Int) (w:World):Calls prog 27 #[.iface 26 (.int .i64 c)] w fun e w'=>e= .returned (.agg (Ov c).toArray)/\Below w.heap.size w w':=by
 have SS:=Ab (Sy.nil w [])
 go_enter func27,ntmps27
 go_wp2_with (first|go_skip|((with_reducible show wpList ..);first|(refine zA 72 (Ov 0) (by rfl) rfl SS ?_;clear SS;intro Xa Ba SS;simp only[nn])))
 refine(fault62 c _).mono ?_
 rintro _ Y ⟨rfl,hb⟩
 replace SS:=Ab ((Aa SS).on hb)
 clear hb
 go_wp2_with (first|go_skip|((with_reducible show wpList ..);first|(refine zS (hp:=by simp[Ov]) (Ov c) 0 72 (by rfl) rfl rfl rfl rfl (Zcy c) szF SS rfl ?_;clear SS;intro Xz SS;simp only[nn])))
 refine Qe rwF szF rfl rfl rfl ((Aa SS).hold 0 rfl) rfl ?_
 exact⟨rfl,(Aa SS).fr.below⟩
theorem Xu (fu:Int) (w:World) (h6:3<=w.heap.size) (hf:0<=fu):Calls prog 6 #[.int .i64 1, .int .i64 fu, .int .i64 5] w fun e w'=> ∃B,e= .returned (.tuple #[.pointer (some ⟨B,0,none⟩), .int .i64 0])/\(Gf B 1 fu 5).Is w'/\w.heap.size<=B/\Below w.heap.size w w':=by
 refine(new_h 1 fu 5 w h6).mono ?_
 intro e X hN
 rcases hN with ⟨h0,_⟩|⟨_,h⟩
 ·refine absurd h0 ?_
  unfold Lm
  simp
  omega
 ·exact h
theorem Zc {w X:World} {B:Nat} {fu:Int} (hI:(Gf B 1 fu 5).Is X) (hB:w.heap.size<=B) (hb:Below w.heap.size w X):Sy w X [] [hpO (Gf B 1 fu 5)]:=
 (Sy.nil w []).add (Zm _) hI hb (fun b h=>by
  have:b=B:=by simpa [hpO,Ub] using h
  omega)
theorem Rq (B:Nat) (fu:Int):Kf (Gf B 1 fu 5)=0:=rfl
theorem Db {w X:World} (hT:Tabs w) (hf:Fr w X []):Tabs X:=hT.fr hf (by simp)
theorem Oy {o:Oper} {a:Act} {w:World} {x:Operand} {s:ByteArray} (ho:o.op= .call {callee:= .builtin .len,args:= #[x],argTypes:= #[9]}) (hx:a.eval x= .string s):(execOp a.eval o).run prog w= .ok (.value (.int .i64 (s.size:Nat))) w:=by
 simp[execOp,ho,resolve,invoke,builtin,hx,Builtin.len_,Result.andThen,goInt,run_underlying underlying9]
theorem Lr {o:Oper} {a:Act} {w:World} {x y:Operand} {n m:Int} {r:Bool} (ho:o.op= .binOp .gtr 3 x y 3) (hx:a.eval x= .int .i64 n) (hc:a.eval y= .int .i64 m) (h:decide (m<n)=r):(execOp a.eval o).run prog w= .ok (.value (.bool r)) w:=by
 unfold execOp
 simp only[ho,hx,hc]
 simp[go_sem,eqGuard,h]
theorem Zp {o:Oper} {a:Act} {w:World} {x y:Operand} {s:ByteArray} (ho:o.op= .binOp .eql 9 x y 9) (hx:a.eval x= .string s) (hc:a.eval y= .string s):(execOp a.eval o).run prog w= .ok (.value (.bool true)) w:=by
 unfold execOp
 simp only[ho,hx,hc]
 simp[go_sem,eqGuard]
theorem made_any (s:ByteArray) (w:World) (h6:3<=w.heap.size) (hT:Tabs w):Calls prog 5 #[.string s] w fun e w'=>e= .returned (.bool true)/\Below w.heap.size w w':=by
 cases hf:Gh s
 ·by_cases hv:M.valid false (Az s)=true
  ·have dgt:decide ((1048576:Int)<(s.size:Int))=true:=by
    refine decide_eq_true ?_
    unfold Gh at hf
    rw[hv] at hf
    simp at hf
    omega
   have SS:=Ab (Sy.nil w [])
   have HT:=Ab hT
   clear hT
   go_enter func5,ntmps5
   go_wp2_with fail
   refine(Xu 10 _ h6 (by decide)).mono ?_
   rintro _ X1 ⟨B0,rfl,hI,hB0,hb⟩
   replace SS:=Ab (Zc hI hB0 hb)
   clear hI hb hB0
   go_wp2_with fail
   refine(Oj 0 _).mono ?_
   rintro _ _ ⟨rfl,rfl⟩
   go_wp2_with fail
   refine(Gs _).mono ?_
   rintro _ Y ⟨rfl,hb⟩
   replace SS:=Ab ((Aa SS).on hb)
   clear hb
   go_wp2_with fail
   have HC:=Rl (Gf B0 1 10 5) s _ ((Aa SS).hp 0 rfl) (Db (Aa HT) (Aa SS).fr) hf
   refine HC.mono ?_
   clear HC
   rintro _ Y1 ⟨rfl,T1⟩
   replace SS:=Ab ((Aa SS).heap 0 rfl T1)
   clear T1
   unfold Mf
   go_wp2_with fail
   refine(Gn s _ (Db (Aa HT) (Aa SS).fr).1).mono ?_
   rintro _ Y2 ⟨rfl,hb⟩
   replace SS:=Ab ((Aa SS).on hb)
   clear hb
   rw[hv]
   go_wp2_with (first|go_skip|((with_reducible show wpList ..);first|(refine rd rfl (Oy rfl rfl) ?_)|(refine rd rfl (Lr rfl rfl rfl dgt) ?_)))
   refine(ZcA 5 _).mono ?_
   rintro _ Y3 ⟨rfl,hb⟩
   replace SS:=Ab ((Aa SS).on hb)
   clear hb
   go_wp2_with (first|go_skip|((with_reducible show wpList ..);first|(refine rd rfl (ex_fld rfl rfl) ?_)))
   have HLN:=Jt (Gf B0 1 10 5) _ ((Aa SS).hp 0 rfl)
   rw[show (Gf B0 1 10 5).l.length=0 from rfl] at HLN
   refine HLN.mono ?_
   rintro _ _ ⟨rfl,rfl⟩
   go_wp2
   go_ret
   exact⟨rfl,(Aa SS).fr.below⟩
  ·have hv:M.valid false (Az s)=false:=by simpa using hv
   have SS:=Ab (Sy.nil w [])
   have HT:=Ab hT
   clear hT
   go_enter func5,ntmps5
   go_wp2_with fail
   refine(Xu 10 _ h6 (by decide)).mono ?_
   rintro _ X1 ⟨B0,rfl,hI,hB0,hb⟩
   replace SS:=Ab (Zc hI hB0 hb)
   clear hI hb hB0
   go_wp2_with fail
   refine(Oj 0 _).mono ?_
   rintro _ _ ⟨rfl,rfl⟩
   go_wp2_with fail
   refine(Gs _).mono ?_
   rintro _ Y ⟨rfl,hb⟩
   replace SS:=Ab ((Aa SS).on hb)
   clear hb
   go_wp2_with fail
   have HC:=Rl (Gf B0 1 10 5) s _ ((Aa SS).hp 0 rfl) (Db (Aa HT) (Aa SS).fr) hf
   refine HC.mono ?_
   clear HC
   rintro _ Y1 ⟨rfl,T1⟩
   replace SS:=Ab ((Aa SS).heap 0 rfl T1)
   clear T1
   unfold Mf
   go_wp2_with fail
   refine(Gn s _ (Db (Aa HT) (Aa SS).fr).1).mono ?_
   rintro _ Y2 ⟨rfl,hb⟩
   replace SS:=Ab ((Aa SS).on hb)
   clear hb
   rw[hv]
   go_wp2_with fail
   refine(ZcA 5 _).mono ?_
   rintro _ Y3 ⟨rfl,hb⟩
   replace SS:=Ab ((Aa SS).on hb)
   clear hb
   go_wp2_with (first|go_skip|((with_reducible show wpList ..);first|(refine rd rfl (ex_fld rfl rfl) ?_)))
   have HLN:=Jt (Gf B0 1 10 5) _ ((Aa SS).hp 0 rfl)
   rw[show (Gf B0 1 10 5).l.length=0 from rfl] at HLN
   refine HLN.mono ?_
   rintro _ _ ⟨rfl,rfl⟩
   go_wp2
   go_ret
   exact⟨rfl,(Aa SS).fr.below⟩
 ·have dgt:decide ((1048576:Int)<(s.size:Int))=false:=decide_eq_false (by have:=(Le hf).1;omega)
  have SS:=Ab (Sy.nil w [])
  have HT:=Ab hT
  clear hT
  go_enter func5,ntmps5
  go_wp2_with fail
  refine(Xu 10 _ h6 (by decide)).mono ?_
  rintro _ X1 ⟨B0,rfl,hI,hB0,hb⟩
  replace SS:=Ab (Zc hI hB0 hb)
  clear hI hb hB0
  go_wp2_with fail
  refine(Oj 0 _).mono ?_
  rintro _ _ ⟨rfl,rfl⟩
  go_wp2_with fail
  refine(Gs _).mono ?_
  rintro _ Y ⟨rfl,hb⟩
  replace SS:=Ab ((Aa SS).on hb)
  clear hb
  go_wp2_with fail
  have HC:=Yr (Gf B0 1 10 5) s _ ((Aa SS).hp 0 rfl) (Db (Aa HT) (Aa SS).fr) rfl (Rq B0 10) hf
  refine HC.mono ?_
  clear HC
  rintro _ Y1 ⟨h1,q,rfl,hN,T1⟩
  replace SS:=Ab ((Aa SS).heap 0 rfl T1)
  have hb1:h1.b=B0:=T1.hb
  have HU:=Ab hN.un
  have HNS:=Ab hN
  clear T1 hN
  rw[show ((0:Nat):Int)+1=1 from rfl]
  go_wp2_with fail
  refine(Gn s _ (Db (Aa HT) (Aa SS).fr).1).mono ?_
  rintro _ Y2 ⟨rfl,hb⟩
  replace SS:=Ab ((Aa SS).on hb)
  replace HU:=Ab ((Aa HU).on hb)
  clear hb
  rw[show M.valid false (Az s)=true from (Le hf).2]
  go_wp2_with (first|go_skip|((with_reducible show wpList ..);first|(refine rd rfl (Oy rfl rfl) ?_)|(refine rd rfl (Lr rfl rfl rfl dgt) ?_)))
  have HD:=data_h h1 q s _ ((Aa SS).hp 0 rfl) (Aa HNS).l (Aa HNS).qi.ot (Aa HU) (Le hf).2 (Le hf).1
  rw[hb1] at HD
  refine HD.mono ?_
  clear HD
  rintro _ Y3 ⟨rfl,hb⟩
  replace SS:=Ab ((Aa SS).on hb)
  clear hb
  go_wp2_with (first|go_skip|((with_reducible show wpList ..);first|(refine rd rfl (Zp rfl rfl rfl) ?_)))
  refine(Oj 0 _).mono ?_
  rintro _ _ ⟨rfl,rfl⟩
  go_wp2
  go_ret
  exact⟨rfl,(Aa SS).fr.below⟩
