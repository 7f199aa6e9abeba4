import Derived.Test.YthjnflilfjcgiaaGreatFmtRu
set_option linter.all false
namespace Go.Proofs.YthjnflilfjcgiaaGreatFmt
set_option maxRecDepth 100000
set_option maxHeartbeats 0
section
open Go Go.Proofs Go.Maps Go.RowKit FM
attribute [local go_sem] mm_DefineOwnProperty mm_GetOwnProperty mm_HasProperty mm_Get mm_Delete mm_OwnPropertyKeys ta_caller
theorem works_h (w:World) (h6:6<=w.heap.size) (hT:Tabs w):Calls Tryz.prog 5 #[] w fun e w'=>e= .returned (.bool true)/\Below w.heap.size w w':=by
 have SS:=hide (Sy.nil w [])
 have HT:=hide hT
 clear hT
 go_enter Tryz.func5,Tryz.ntmps5
 go_wp2_with fail
 refine(newF 50 (by decide) _ h6).mono ?_
 rintro _ X1 ⟨B0,rfl,hI,hB0,hb⟩
 replace SS:=hide (new_sy hI hB0 hb)
 clear hI hb hB0
 go_wp2_with fail
 refine(lnum 0 _).mono ?_
 rintro _ _ ⟨rfl,rfl⟩
 go_wp2_with fail
 refine(null_any _).mono ?_
 rintro _ Y ⟨rfl,hb⟩
 replace SS:=hide ((uh SS).on hb)
 clear hb
 go_wp2_with fail
 have HC:=anew_h (newHP B0 1 50 5) 3 _ ((uh SS).hp 0 rfl) ((uh HT).fr (uh SS).fr (by simp)) (Nat.zero_le _) (new_room B0 50) (by omega)
 rw[show ((3:Nat):Int)=3 from rfl] at HC
 refine HC.mono ?_
 clear HC
 rintro _ Y ⟨gv,q,rfl,a1,a2,a3,a4,a5,T1⟩
 replace SS:=hide ((uh SS).heap 0 rfl T1)
 clear T1
 have A:=hide (new_ah B0 50 gv q a1)
 obtain⟨h,hh⟩: ∃h,h=(newHP B0 1 50 5).more gv q:=⟨_,rfl⟩
 rw[←hh] at A SS
 have hB:h.b=B0:=by rw[hh];rfl
 clear hh
 obtain rfl:B0=h.b:=hB.symm
 have HQ:=hide (And.intro a2 (And.intro a3 (And.intro (show pr q.T=arrG 3 [] from a4) a5)))
 clear a1 a2 a3 a4 a5
 go_wp2_with fail
 refine(lstr _ _).mono ?_
 rintro _ Y ⟨rfl,hb⟩
 replace SS:=hide ((uh SS).on hb)
 clear hb
 rw[k5]
 go_wp2_with fail
 have HN:=fun X=>num_any 4619567317775286272 X
 refine(HN _).mono ?_
 clear HN
 rintro _ Y ⟨rfl,hb⟩
 replace SS:=hide ((uh SS).on hb)
 clear hb
 go_wp2_with (first|go_skip|((with_reducible show wpList ..);first|(refine rd rfl (ex_el rfl rfl rfl) ?_;simp only[nn])))
 have HC:=ddef_e h 0 q _ ((uh SS).hp 0 rfl) ((uh HT).fr (uh SS).fr (by simp)) ((uh A).ok (by decide) (by decide)) (uh A).at0 (uh HQ).2.2.1 (uh HQ).2.1 (by have:=(uh HQ).2.2.2;omega) ((uh A).fu (by decide)) (uh A).dp
 rw[show ((0:Nat):Int)+1=1 from rfl] at HC
 rw[el_agg] at HC
 refine HC.mono ?_
 clear HC
 rintro _ Y ⟨T1,rfl,hp1,hl1,T9⟩
 replace SS:=hide ((uh SS).heap 0 rfl T9)
 clear T9
 obtain⟨h2,q2,hb_h2,hp_h2,ht_h2,A1,SS⟩: ∃(h2:HP) (q2:OB),h2.b=h.b/\q2.p=q.p/\q2.T=T1/\Hid (AH h2 q2 (50 - 1))/\Hid (Sy w Y [] [hpO h2]):=⟨(h.tab 0 q T1).less,{q with T:=T1},rfl,rfl,rfl,hide ((uh A).tab T1),SS⟩
 rw[←ht_h2] at hp1 hl1
 have HP1:=hide (And.intro hp1 hl1)
 clear hp1 hl1 ht_h2
 go_wp2_with fail
 have HC:=len_arr h2 0 q2 6 _ ((uh SS).hp 0 rfl) (by rw[(uh A1).l];show 1<=65536;decide) (uh A1).at0 (uh A1).c (len_cv (uh HP1).1 (.inl (by decide))).1 (len_cv (uh HP1).1 (.inl (by decide))).2
 rw[show ((0:Nat):Int)+1=1 from rfl] at HC
 rw[hb_h2] at HC
 refine HC.mono ?_
 clear HC
 rintro _ Y ⟨rfl,hb⟩
 replace SS:=hide ((uh SS).on hb)
 clear hb
 go_wp2_with fail
 refine(lstr _ _).mono ?_
 rintro _ Y ⟨rfl,hb⟩
 replace SS:=hide ((uh SS).on hb)
 clear hb
 rw[keyL]
 go_wp2_with fail
 have HN:=fun X=>num_any 4611686018427387904 X
 refine(HN _).mono ?_
 clear HN
 rintro _ Y ⟨rfl,hb⟩
 replace SS:=hide ((uh SS).on hb)
 clear hb
 go_wp2_with (first|go_skip|((with_reducible show wpList ..);first|(refine rd rfl (ex_lnB nf2 rfl rfl) ?_;simp only[nn])))
 have HC:=ddef_n h2 0 q2 2 6 [(5,elF)] _ ((uh SS).hp 0 rfl) ((uh HT).fr (uh SS).fr (by simp)) ((uh A1).ok (by decide) (by decide)) (uh A1).at0 (uh HP1).1 (fun e he=>by rw[List.mem_singleton.1 he];exact⟨by decide,by decide⟩) (fun e he=>by rw[List.mem_singleton.1 he];decide) (by decide) (by have:=(uh HQ).2.2.2;have:=(uh HP1).2;omega) (by decide) (.inl (by decide)) (.inl (by decide)) ((uh A1).fu (by decide)) (uh A1).dp
 rw[show ((0:Nat):Int)+1=1 from rfl] at HC
 rw[ln_agg] at HC
 rw[arr6] at HC
 rw[hb_h2] at HC
 refine HC.mono ?_
 clear HC
 rintro _ Y ⟨T2,rfl,hp2,hl2,T9⟩
 replace SS:=hide ((uh SS).heap 0 rfl T9)
 clear T9
 obtain⟨h3,q3,hb_h3,hp_h3,ht_h3,A2,SS⟩: ∃(h3:HP) (q3:OB),h3.b=h2.b/\q3.p=q2.p/\q3.T=T2/\Hid (AH h3 q3 (50 - 1 - 1))/\Hid (Sy w Y [] [hpO h3]):=⟨(h2.tab 0 q2 T2).less,{q2 with T:=T2},rfl,rfl,rfl,hide ((uh A1).tab T2),SS⟩
 rw[←ht_h3] at hp2
 have HP2:=hide hp2
 clear hp2 hl2 ht_h3
 rw[hb_h2] at hb_h3
 rw[hp_h2] at hp_h3
 go_wp2_with fail
 have HC:=len_arr h3 0 q3 2 _ ((uh SS).hp 0 rfl) (by rw[(uh A2).l];show 1<=65536;decide) (uh A2).at0 (uh A2).c (len_cv (uh HP2) (.inl (by decide))).1 (len_cv (uh HP2) (.inl (by decide))).2
 rw[show ((0:Nat):Int)+1=1 from rfl] at HC
 rw[hb_h3] at HC
 refine HC.mono ?_
 clear HC
 rintro _ Y ⟨rfl,hb⟩
 replace SS:=hide ((uh SS).on hb)
 clear hb
 go_wp2_with fail
 refine(lstr _ _).mono ?_
 rintro _ Y ⟨rfl,hb⟩
 replace SS:=hide ((uh SS).on hb)
 clear hb
 rw[k5]
 go_wp2_with fail
 have HC:=dhas_no h3 0 q3 (idxK 5) _ ((uh SS).hp 0 rfl) ((uh HT).fr (uh SS).fr (by simp)) ((uh A2).ok (by decide) (by decide)) (uh A2).at0 (idx_good (by decide)) (none5 (uh HP2)) (by rw[hp_h3,(uh HQ).1];decide) ((uh A2).fu (by decide)) (uh A2).dp
 rw[show ((0:Nat):Int)+1=1 from rfl] at HC
 rw[hb_h3] at HC
 refine HC.mono ?_
 clear HC
 rintro _ Y ⟨rfl,T9⟩
 replace SS:=hide ((uh SS).heap 0 rfl T9)
 clear T9
 go_wp2_with fail
 refine(lnum 0 _).mono ?_
 rintro _ _ ⟨rfl,rfl⟩
 go_wp2_with fail
 refine(lnum 0 _).mono ?_
 rintro _ _ ⟨rfl,rfl⟩
 go_wp2
 go_ret
 exact⟨rfl,(uh SS).fr.below⟩
end
section
open Go Go.Proofs Go.Maps Go.RowKit FM Tryz
attribute [local go_sem] mm_DefineOwnProperty mm_GetOwnProperty mm_HasProperty mm_Get mm_Delete mm_OwnPropertyKeys ta_caller
theorem ex_gtI {o:Oper} {a:Act} {w:World} {x y:Operand} {n m:Int} {r:Bool} (ho:o.op= .binOp .gtr 3 x y 3) (hx:a.eval x= .int .i64 n) (hy:a.eval y= .int .i64 m) (h:decide (m<n)=r):(execOp a.eval o).run prog w= .ok (.value (.bool r)) w:=by
 unfold execOp
 simp only[ho,hx,hy]
 simp[go_sem,eqGuard,h]
theorem ex_ltI3 {o:Oper} {a:Act} {w:World} {x y:Operand} {n m:Int} {r:Bool} (ho:o.op= .binOp .lss 3 x y 3) (hx:a.eval x= .int .i64 n) (hy:a.eval y= .int .i64 m) (h:decide (n<m)=r):(execOp a.eval o).run prog w= .ok (.value (.bool r)) w:=by
 unfold execOp
 simp only[ho,hx,hy]
 simp[go_sem,eqGuard,h]
theorem ex_addC {o:Oper} {a:Act} {w:World} {x y:Operand} {n:Nat} (ho:o.op= .binOp .add 3 x y 3) (hx:a.eval x= .int .i64 (n:Nat)) (hy:a.eval y= .int .i64 1) (h:n<=1000000):(execOp a.eval o).run prog w= .ok (.value (.int .i64 ((n:Int)+1))) w:=by
 have e:IntKind.i64.wrap ((n:Int)+1)=(n:Int)+1:=by rw[IntKind.wrap_i64];omega
 unfold execOp
 simp only[ho,hx,hy]
 simp[go_sem,eqGuard,e]
theorem ex_nfI {o:Oper} {a:Act} {w:World} {x:Operand} {n:Nat} (ho:o.op= .convert 3 33 x) (hx:a.eval x= .int .i64 (n:Nat)):(execOp a.eval o).run prog w= .ok (.value (.float .f64 (nf n))) w:=by
 unfold execOp
 simp only[ho,hx]
 simp[go_sem,nf]
 rfl
theorem ex_u64 {o:Oper} {a:Act} {w:World} {x:Operand} {n:Int} (ho:o.op= .convert 3 46 x) (hx:a.eval x= .int .i64 n):(execOp a.eval o).run prog w= .ok (.value (.int .u64 (IntKind.u64.wrap n))) w:=by
 unfold execOp
 simp only[ho,hx]
 simp[go_sem]
theorem ex_rem {o:Oper} {a:Act} {w:World} {x y:Operand} {n m:Int} (ho:o.op= .binOp .rem 46 x y 46) (hx:a.eval x= .int .u64 n) (hy:a.eval y= .int .u64 m) (h0:0<=n) (h1:n<18446744073709551616) (h2:0<m) (h3:m<=1000):(execOp a.eval o).run prog w= .ok (.value (.int .u64 (n % m))) w:=by
 have e:n.tmod m=n % m:=Int.tmod_eq_emod_of_nonneg h0
 have hb:=Int.emod_lt_of_pos n h2
 have ha:=Int.emod_nonneg n (Int.ne_of_gt h2)
 have e2:IntKind.u64.wrap (n % m)=n % m:=by rw[IntKind.wrap_u64];omega
 have hm:m≠0:=Int.ne_of_gt h2
 unfold execOp
 simp only[ho,hx,hy]
 simp[go_sem,eqGuard,e,e2,hm]
theorem ex_remC {o:Oper} {a:Act} {w:World} {x y:Operand} {n m:Int} {c:Nat} (hc:n % m=(c:Int)) (ho:o.op= .binOp .rem 46 x y 46) (hx:a.eval x= .int .u64 n) (hy:a.eval y= .int .u64 m) (h0:0<=n) (h1:n<18446744073709551616) (h2:0<m) (h3:m<=1000):(execOp a.eval o).run prog w= .ok (.value (.int .u64 (c:Nat))) w:=by
 rw[←hc]
 exact ex_rem ho hx hy h0 h1 h2 h3
theorem ex_u64U {o:Oper} {a:Act} {w:World} {x:Operand} {n U:Int} (hU:IntKind.u64.wrap n=U) (ho:o.op= .convert 3 46 x) (hx:a.eval x= .int .i64 n):(execOp a.eval o).run prog w= .ok (.value (.int .u64 U)) w:=by
 rw[←hU]
 exact ex_u64 ho hx
theorem ex_u64L {o:Oper} {a:Act} {w:World} {x:Operand} {n:Nat} (ho:o.op= .convert 3 46 x) (hx:a.eval x= .int .i64 (n:Nat)) (h:n<=1000):(execOp a.eval o).run prog w= .ok (.value (.int .u64 (n:Nat))) w:=by
 have e:IntKind.u64.wrap (n:Int)=(n:Int):=by rw[IntKind.wrap_u64];omega
 have h9:=ex_u64 (w:=w) ho hx
 rwa [e] at h9
theorem sy_keys {w X Y:World} {h:HP} {L:List Ob} {v:Value} {ks:List KK} (S:Sy w X [] (hpO h::L)) (T:h.To h.less X Y) (hO:OwnK Y X.heap.size v ks): ∃bs,Sy w Y [] (hpO h.less::L++ [rowO bs 42 2 v ks.length (flatK ks)]):=by
 have S1:Sy w Y [] (hpO h.less::L):=S.heap 0 rfl T
 have hlo: ∀b∈v.ownBlock.toList,X.heap.size<=b:=fun b hb=>(World.ownsRow.lt hO b (by simpa using hb)).1
 refine⟨X.heap.size,S1.fr,fun o ho=> ?_,fun o ho=> ?_,fun o ho b hb=> ?_, ?_⟩
 ·rcases List.mem_append.1 ho with ho|ho
  ·exact S1.ok o ho
  ·rw[List.mem_singleton.1 ho];exact rowO_ok _ _ _ _ _ _
 ·rcases List.mem_append.1 ho with ho|ho
  ·exact S1.ho o ho
  ·rw[List.mem_singleton.1 ho];exact hO
 ·rcases List.mem_append.1 ho with ho|ho
  ·exact S1.lo o ho b hb
  ·rw[List.mem_singleton.1 ho] at hb
   exact .inr (Nat.le_trans S.fr.size (hlo b hb))
 ·refine List.pairwise_append.2 ⟨S1.dis,by simp,fun o ho p hp x hx hx2=> ?_⟩
  rw[List.mem_singleton.1 hp] at hx2
  have h1:=hlo x hx2
  have h2:x<X.heap.size:=by
   rcases List.mem_cons.1 ho with rfl|ho
   ·exact S.lt 0 rfl x hx
   ·exact(S.ok o (List.mem_cons_of_mem _ ho)).lt (S.ho o (List.mem_cons_of_mem _ ho)) x hx
  omega
theorem ex_i64 {o:Oper} {a:Act} {w:World} {x:Operand} {n:Nat} (ho:o.op= .convert 46 3 x) (hx:a.eval x= .int .u64 (n:Nat)) (h:n<=1000):(execOp a.eval o).run prog w= .ok (.value (.int .i64 (n:Nat))) w:=by
 have e:IntKind.i64.wrap (n:Int)=(n:Int):=by rw[IntKind.wrap_i64];omega
 unfold execOp
 simp only[ho,hx]
 simp[go_sem,e]
theorem lstrL (w:World):Calls prog 16 #[.string ⟨#[108,101,110,103,116,104]⟩] w fun e w'=>e= .returned lenK.agg/\Below w.heap.size w w':=lstr _ w
theorem rd_heap {w X Y:World} {h:HP} {L:List Ob} {B:Option Addr} {vs:List VV} (S:Sy w X [] (hpO h::L)) (hR:ReadsV w B vs) (k:Fr X Y h.blocks):ReadsV Y B vs:=hR.fr2 (S.fr.trans k (fun b hb=>S.lo _ (List.mem_cons_self ..) b hb)) (by simp)
def elsV (vs:List VV):List (Nat×DD):=vs.mapIdx (fun i v=>(i,opnD v))
theorem els_len (vs:List VV):(elsV vs).length=vs.length:=by simp[elsV]
theorem els_mem {vs:List VV} {e:Nat×DD} (h:e∈elsV vs):e.1<vs.length/\e.2.c≠1:=by
 obtain⟨i,hi,rfl⟩:=List.mem_mapIdx.1 h
 exact⟨hi,show (2:Int)≠1 by decide⟩
theorem els_fst (vs:List VV):(elsV vs).map (·.1)=List.range vs.length:=by
 unfold elsV
 apply List.ext_getElem
 ·simp
 ·intro i h1 h2
  simp
theorem els_nodup (vs:List VV):((elsV vs).map (·.1)).Nodup:=by rw[els_fst];exact List.nodup_range
theorem els_cut (vs:List VV) (c:Nat):(elsV vs).filter (fun e=>decide (e.1<c))=elsV (vs.take c):=take_elems vs c
theorem els_all {vs:List VV} {c:Nat} (h:vs.length<=c):(elsV vs).filter (fun e=>decide (e.1<c))=elsV vs:=by rw[els_cut,List.take_of_length_le h]
theorem arr_els (n:Nat) (vs:List VV):arrL n vs=arrG n (elsV vs):=arr_arrG n vs
theorem els_ord (n:Nat) (vs:List VV) (h:vs.length<=1000):(ordK ((arrG n (elsV vs)).map (·.1))).length=vs.length+1/\(ordK ((arrG n (elsV vs)).map (·.1)))[vs.length]? =some lenK:=by
 rw[arr_ord (fun e he=>by have:=(els_mem he).1;omega)]
 have hl:((mg ((elsV vs).map (·.1))).map idxK).length=vs.length:=by rw[List.length_map,mg_len,List.length_map,els_len]
 refine⟨by rw[List.length_append,hl];rfl, ?_⟩
 rw[List.getElem?_append_right (by omega),hl,Nat.sub_self]
 rfl
theorem els_live {T:TT} {n:Nat} {vs:List VV} (hp:pr T=arrG n (elsV vs)):T.live.length=vs.length+1:=by
 have h1:(pr T).length=vs.length+1:=by rw[hp];simp[arrG,els_len]
 unfold pr at h1
 simpa using h1
theorem els_get {T:TT} {n i:Nat} {vs:List VV} {v:VV} (hp:pr T=arrG n (elsV vs)) (hv:vs[i]? =some v):getD T (idxK i)=opnD v/\(T.find (idxK i)).isSome=true:=by
 rw[←arr_els] at hp
 refine⟨arr_get hp hv, ?_⟩
 have hi:=(List.getElem?_eq_some_iff.1 hv).1
 rw[←pr_has,hp,arr_els,arrG_has,List.any_eq_true]
 exact⟨(i,opnD v),List.mem_mapIdx.2 ⟨i,hi,by rw[(List.getElem?_eq_some_iff.1 hv).2]⟩,by simp⟩
def TI (w:World) (q:OB) (b Bs i:Nat) (X:World):Prop:= ∃h:HP,h.b=b/\AH h q (5000 - (i:Int))/\Sy w X [] [hpO h,boxO Bs (refV 1).cs]
theorem known_ref {h:HP} {q:OB} {F:Int} (A:AH h q F):knownE h.l.length [refV 1]=0:=by
 rw[A.l]
 show knownE 1 [refV 1]=0
 decide
theorem dget_i {h:HP} {q:OB} {F:Int} (A:AH h q F) (hF:0<F) (hF2:F<=10000) {n i:Nat} {vs:List VV} {v:VV} (hp:pr q.T=arrG n (elsV vs)) (hv:vs[i]? =some v) (hz:vs.length<=1000) {X:World} (H:h.Is X) (hT:Tabs X):Calls prog 12 #[.pointer (some ⟨h.b,0,none⟩), .int .i64 1,(idxK i).agg, .agg (refV 1).cs.toArray] X fun e w'=>e= .returned (.tuple #[.agg v.cs.toArray, .nilIface])/\h.To h.less X w':=by
 have hi:=(List.getElem?_eq_some_iff.1 hv).1
 have HC:=dget_d h 0 q (idxK i) (refV 1) X H hT (A.ok (by omega) hF2) A.at0 (idx_good (by omega)) ref_good (known_ref A) (els_get hp hv).2 (by rw[(els_get hp hv).1];rfl) (A.fu hF) A.dp
 rw[(els_get hp hv).1] at HC
 exact HC
