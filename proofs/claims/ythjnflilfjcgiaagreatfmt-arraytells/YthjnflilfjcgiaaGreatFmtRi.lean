import Derived.Test.YthjnflilfjcgiaaGreatFmtRh
set_option linter.all false
namespace Go.Proofs.YthjnflilfjcgiaaGreatFmt
set_option maxRecDepth 100000
set_option maxHeartbeats 0
section
open Go Go.Proofs Go.Maps Go.RowKit FM Tryz
attribute [local go_sem] mm_DefineOwnProperty mm_GetOwnProperty mm_HasProperty mm_Get mm_Delete mm_OwnPropertyKeys ta_caller
theorem inn_out (h:HP):h.inn.out=h.less:=by
 unfold HP.inn HP.out HP.less
 simp
def ePair (c:Int):Value:= .iface 25 (.int .i64 c)
theorem ex_zeroV {o:Oper} {a:Act} {w:World} (ho:o.op= .build 35 #[]):(execOp a.eval o).run prog w= .ok (.value (.agg zeroV.cs.toArray)) w:=by
 have e:(Instr.build 35 #[]).run prog w= .ok (.agg zeroV.cs.toArray) w:=by kernel_rfl
 unfold execOp
 simp only[ho]
 simp[e]
theorem enDefineOwnProperty_n (h:HP) (j:Nat) (q:OB) (k:KK) (d:DD) (P:HP->Bool->Value->Prop) (w:World) (H:h.Is w) (K:h.Ok) (hj:h.l[j]? =some q) (hf:h.fuel≠0) (hd:h.ent≠h.depth) (hC: ∀X,h.To h.inn w X->Calls prog 183 #[.agg #[], .pointer (some ⟨h.b,0,none⟩), .int .i64 ((j:Int)+1),k.agg,d.agg] X fun e w'=> ∃(h1:HP) (y:Bool) (er:Value),e= .returned (.tuple #[.bool y,er])/\P h1 y er/\h1.ent=h.ent+1/\h.inn.To h1 X w'):Calls prog 44 #[.pointer (some ⟨h.b,0,none⟩), .int .i64 ((j:Int)+1),k.agg,d.agg] w fun e w'=> ∃(h1:HP) (y:Bool) (er:Value),e= .returned (.tuple #[.bool y,er])/\P h1 y er/\h.To h1.out w w':=by
 have SS:=hide H.start
 have HC:=hide hC
 have hE0:0<=h.ent+1/\h.ent+1<=100000001:=by have:=K.e0;have:=K.e1;have:=K.d1;omega
 clear hC
 rw[dagg,kagg] at HC ⊢
 go_enter_defers func44,ntmps44
 go_wp2_with (first|go_skip|((with_reducible show wpList ..);first|(refine zB 42 (k.cs) (by rfl) rfl rfl rfl SS ?_;clear SS;intro Xp0 Bp0 SS;simp only[nn])|(refine zB 53 (d.cs) (by rfl) rfl rfl rfl SS ?_;clear SS;intro Xp1 Bp1 SS;simp only[nn])))
 refine(enter_n h j q _ ((uh SS).hp 0 rfl) K hj hf hd).mono ?_
 rintro _ Y1 ⟨rfl,T1⟩
 replace SS:=hide ((uh SS).heap 0 rfl T1)
 clear T1
 unfold ordM
 go_wp2_with (first|go_skip|((with_reducible show wpList ..);first|(refine zL (k.cs) 42 2 1 rwK szK (by rfl) rfl rfl SS rfl rfl rfl ?_;simp only[nn])|(refine zL (d.cs) 53 18 2 rwD szD (by rfl) rfl rfl SS rfl rfl rfl ?_;simp only[nn])))
 refine(uh HC _ (HP.To.end H (uh SS) rfl)).mono ?_
 rintro _ Y2 ⟨h1,y,er,rfl,hP,hen,T2⟩
 replace SS:=hide ((uh SS).heap 0 rfl T2)
 have hb1:h1.b=h.b:=T2.hb
 clear T2
 go_wp2
 refine leaves_cons (f:=63) (args:= #[.pointer (some ⟨h.b,0,none⟩)]) (by simp) (by simp[go_sem]) ?_
 have HL:=leave_d h1 .returning _ ((uh SS).hp 0 rfl) (by rw[hen];exact hE0)
 rw[hb1] at HL
 refine HL.mono ?_
 rintro e u2 w2 ⟨rfl,rfl,T3⟩
 replace SS:=hide ((uh SS).heap 0 rfl T3)
 exact⟨_,results_tmp2 rfl _ _ _,h1,y,er,rfl,hP,HP.To.end H (uh SS) hb1⟩
theorem enHasProperty_n (h:HP) (j:Nat) (q:OB) (k:KK) (P:HP->Bool->Value->Prop) (w:World) (H:h.Is w) (K:h.Ok) (hj:h.l[j]? =some q) (hf:h.fuel≠0) (hd:h.ent≠h.depth) (hC: ∀X,h.To h.inn w X->Calls prog 151 #[.agg #[], .pointer (some ⟨h.b,0,none⟩), .int .i64 ((j:Int)+1),k.agg] X fun e w'=> ∃(h1:HP) (y:Bool) (er:Value),e= .returned (.tuple #[.bool y,er])/\P h1 y er/\h1.ent=h.ent+1/\h.inn.To h1 X w'):Calls prog 55 #[.pointer (some ⟨h.b,0,none⟩), .int .i64 ((j:Int)+1),k.agg] w fun e w'=> ∃(h1:HP) (y:Bool) (er:Value),e= .returned (.tuple #[.bool y,er])/\P h1 y er/\h.To h1.out w w':=by
 have SS:=hide H.start
 have HC:=hide hC
 have hE0:0<=h.ent+1/\h.ent+1<=100000001:=by have:=K.e0;have:=K.e1;have:=K.d1;omega
 clear hC
 rw[kagg] at HC ⊢
 go_enter_defers func55,ntmps55
 go_wp2_with (first|go_skip|((with_reducible show wpList ..);first|(refine zB 42 (k.cs) (by rfl) rfl rfl rfl SS ?_;clear SS;intro Xp0 Bp0 SS;simp only[nn])))
 refine(enter_n h j q _ ((uh SS).hp 0 rfl) K hj hf hd).mono ?_
 rintro _ Y1 ⟨rfl,T1⟩
 replace SS:=hide ((uh SS).heap 0 rfl T1)
 clear T1
 unfold ordM
 go_wp2_with (first|go_skip|((with_reducible show wpList ..);first|(refine zL (k.cs) 42 2 1 rwK szK (by rfl) rfl rfl SS rfl rfl rfl ?_;simp only[nn])))
 refine(uh HC _ (HP.To.end H (uh SS) rfl)).mono ?_
 rintro _ Y2 ⟨h1,y,er,rfl,hP,hen,T2⟩
 replace SS:=hide ((uh SS).heap 0 rfl T2)
 have hb1:h1.b=h.b:=T2.hb
 clear T2
 go_wp2
 refine leaves_cons (f:=63) (args:= #[.pointer (some ⟨h.b,0,none⟩)]) (by simp) (by simp[go_sem]) ?_
 have HL:=leave_d h1 .returning _ ((uh SS).hp 0 rfl) (by rw[hen];exact hE0)
 rw[hb1] at HL
 refine HL.mono ?_
 rintro e u2 w2 ⟨rfl,rfl,T3⟩
 replace SS:=hide ((uh SS).heap 0 rfl T3)
 exact⟨_,results_tmp2 rfl _ _ _,h1,y,er,rfl,hP,HP.To.end H (uh SS) hb1⟩
theorem enGet_n (h:HP) (j:Nat) (q:OB) (k:KK) (r:VV) (P:HP->VV->Value->Prop) (w:World) (H:h.Is w) (K:h.Ok) (hj:h.l[j]? =some q) (hf:h.fuel≠0) (hd:h.ent≠h.depth) (hC: ∀X,h.To h.inn w X->Calls prog 150 #[.agg #[], .pointer (some ⟨h.b,0,none⟩), .int .i64 ((j:Int)+1),k.agg,r.agg] X fun e w'=> ∃(h1:HP) (V:VV) (er:Value),e= .returned (.tuple #[V.agg,er])/\P h1 V er/\h1.ent=h.ent+1/\h.inn.To h1 X w'):Calls prog 39 #[.pointer (some ⟨h.b,0,none⟩), .int .i64 ((j:Int)+1),k.agg,r.agg] w fun e w'=> ∃(h1:HP) (V:VV) (er:Value),e= .returned (.tuple #[V.agg,er])/\P h1 V er/\h.To h1.out w w':=by
 have SS:=hide H.start
 have HC:=hide hC
 have hE0:0<=h.ent+1/\h.ent+1<=100000001:=by have:=K.e0;have:=K.e1;have:=K.d1;omega
 clear hC
 rw[kagg,vagg] at HC ⊢
 go_enter_defers func39,ntmps39
 go_wp2_with (first|go_skip|((with_reducible show wpList ..);first|(refine zB 42 (k.cs) (by rfl) rfl rfl rfl SS ?_;clear SS;intro Xp0 Bp0 SS;simp only[nn])|(refine zB 35 (r.cs) (by rfl) rfl rfl rfl SS ?_;clear SS;intro Xp1 Bp1 SS;simp only[nn])|(refine zA 35 (zeroV.cs) (by rfl) rfl SS ?_;clear SS;intro Xc Bc SS;simp only[nn])))
 refine(enter_n h j q _ ((uh SS).hp 0 rfl) K hj hf hd).mono ?_
 rintro _ Y1 ⟨rfl,T1⟩
 replace SS:=hide ((uh SS).heap 0 rfl T1)
 clear T1
 unfold ordM
 go_wp2_with (first|go_skip|((with_reducible show wpList ..);first|(refine zL (k.cs) 42 2 1 rwK szK (by rfl) rfl rfl SS rfl rfl rfl ?_;simp only[nn])|(refine zL (r.cs) 35 5 2 rwV szV (by rfl) rfl rfl SS rfl rfl rfl ?_;simp only[nn])))
 refine(uh HC _ (HP.To.end H (uh SS) rfl)).mono ?_
 rintro _ Y2 ⟨h1,V,er,rfl,hP,hen,T2⟩
 replace SS:=hide ((uh SS).heap 0 rfl T2)
 have hb1:h1.b=h.b:=T2.hb
 clear T2
 go_wp2_with (first|go_skip|((with_reducible show wpList ..);first|(refine zS (V.cs) 3 35 (by rfl) rfl rfl rfl rfl (oneV _) szV SS rfl ?_;clear SS;intro Xz SS;simp only[nn])))
 refine leaves_cons (f:=63) (args:= #[.pointer (some ⟨h.b,0,none⟩)]) (by simp) (by simp[go_sem]) ?_
 have HL:=leave_d h1 .returning _ ((uh SS).hp 0 rfl) (by rw[hen];exact hE0)
 rw[hb1] at HL
 refine HL.mono ?_
 rintro e u2 w2 ⟨rfl,rfl,T3⟩
 replace SS:=hide ((uh SS).heap 0 rfl T3)
 exact⟨_,res_ct rwV szV rfl rfl rfl ((uh SS).hold 3 rfl) rfl,h1,V,er,rfl,hP,HP.To.end H (uh SS) hb1⟩
end
section
open Go Go.Proofs Go.Maps Go.RowKit FM
def pr (T:TT):List (KK×DD):=T.live.map RR.pr
def hasP (l:List (KK×DD)) (k:KK):Bool:=l.any (fun e=>decide (e.1=k))
def lkP (l:List (KK×DD)) (k:KK):Option DD:=(l.find? (fun e=>decide (e.1=k))).map (·.2)
def putP (l:List (KK×DD)) (k:KK) (d:DD):List (KK×DD):=if hasP l k then l.map (fun e=>if e.1=k then (e.1,d) else e) else l++ [(k,d)]
def delP (l:List (KK×DD)) (k:KK):List (KK×DD):=l.filter (fun e=>decide (e.1≠k))
theorem pr_has (T:TT) (k:KK):hasP (pr T) k=(T.find k).isSome:=by
 unfold hasP pr TT.find
 rw[List.isSome_find?,List.any_map]
 rfl
theorem pr_lk (T:TT) (k:KK):lkP (pr T) k=(T.find k).map (·.d):=by
 unfold lkP pr TT.find
 rw[List.find?_map,Option.map_map]
 rfl
theorem pr_get (T:TT) (k:KK):getD T k=(lkP (pr T) k).getD zeroD:=by
 rw[pr_lk]
 rfl
theorem lk_has (l:List (KK×DD)) (k:KK):(lkP l k).isSome=hasP l k:=by
 unfold lkP hasP
 rw[Option.isSome_map,List.isSome_find?]
theorem pr_del {T T':TT} {k:KK} (hl:T'.live=T.live.filter (fun q=>decide (q.k≠k))):pr T'=delP (pr T) k:=by
 unfold pr delP
 rw[hl,List.filter_map]
 rfl
def PutT (T:TT) (k:KK) (d:DD) (T':TT):Prop:=(∃r,T.find k=some r/\T'=T.upd r.b d)∨(T.find k=none/\goodK k=true/\ ∃rv R,T'=T.added rv R k d)∨(T.find k=none/\goodK k=false/\T'=T)
theorem PutT.last {T T':TT} {k:KK} {d:DD} (h:PutT T k d T'):T'.last<=T.last+1:=by
 rcases h with ⟨r,h1,rfl⟩|⟨h1,h2,rv,B,rfl⟩|⟨h1,h2,rfl⟩
 ·exact Nat.le_succ _
 ·exact Nat.le_refl _
 ·exact Nat.le_succ _
theorem pr_put {T T':TT} {W:World} {k:KK} {d:DD} (hT:T.Is W) (hg:goodK k=true) (h:PutT T k d T'):pr T'=putP (pr T) k d:=by
 unfold putP
 rw[pr_has]
 rcases h with ⟨r,h1,rfl⟩|⟨h1,h2,rv,R,rfl⟩|⟨h1,h2,rfl⟩
 ·rw[h1,if_pos (show (some r).isSome=true from rfl)]
  have hrl:r∈T.live:=List.mem_of_find?_eq_some h1
  have hrk:r.k=k:=(TT.find_mem h1).2.2
  unfold pr
  rw[TT.upd_live,List.map_map,List.map_map]
  apply List.map_congr_left
  intro q hq
  have e:=block_key hT hrl hq
  show RR.pr (updR r.b d q)=if (RR.pr q).1=k then ((RR.pr q).1,d) else RR.pr q
  unfold updR
  by_cases hb:q.b=r.b
  ·rw[if_pos hb,if_pos (show (RR.pr q).1=k from (e.1 hb).trans hrk)]
   rfl
  ·rw[if_neg hb,if_neg (show ¬(RR.pr q).1=k from fun h=>hb (e.2 (Eq.trans h hrk.symm)))]
 ·rw[h1,if_neg (show ¬((none:Option RR).isSome=true) by simp)]
  unfold pr
  rw[TT.added_live,List.map_append]
  rfl
 ·rw[hg] at h2
  cases h2
def Tabs (w:World):Prop:=Lib.Utf8Tabs 4 5 w/\TabP w
theorem Tabs.on {w X:World} (h:Tabs w) (k:Below w.heap.size w X):Tabs X:=⟨tabs_below h.1 k,h.2.on k⟩
theorem Tabs.fr {w X:World} {E:List Nat} (h:Tabs w) (hf:Fr w X E) (hE: ∀b∈E,6<=b):Tabs X:=by
 refine⟨tabs_fr h.1 hf (fun b hb=>by have:=hE b hb;omega), ?_⟩
 have h2:=h.2
 unfold TabP Lib.TabIs World.var? at *
 have hg : Tryz.prog.globalNamed "internal/strconv.uint64pow10" = some 1 := by kernel_rfl
 simp only[hg,Option.bind_some] at h2 ⊢
 have hlt:1<w.heap.size:=by
  rcases Nat.lt_or_ge 1 w.heap.size with h'|h'
  ·exact h'
  ·rw[Array.getElem?_eq_none h'] at h2;simp at h2
 rw[hf.block 1 hlt (fun hm=>by have:=hE 1 hm;omega)]
 exact h2
theorem HP.To.tabs {h h':HP} {w X:World} (A:h.To h' w X) (H:h.Is w) (hT:Tabs w):Tabs X:=hT.fr A.fr H.low
