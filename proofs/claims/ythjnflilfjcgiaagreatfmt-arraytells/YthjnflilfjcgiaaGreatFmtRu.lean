import Derived.Test.YthjnflilfjcgiaaGreatFmtRr
import Derived.Test.YthjnflilfjcgiaaGreatFmtRt
set_option linter.all false
namespace Go.Proofs.YthjnflilfjcgiaaGreatFmt
set_option maxRecDepth 100000
set_option maxHeartbeats 0
section
open Go Go.Proofs Go.Maps Go.RowKit FM
theorem dN_app (most:Nat): ∀(m:Nat) (l:List Nat),1<=m->m<=most->dgF most (dN m++l) 0=dgF most l m:=by
 intro m
 induction m using Nat.strongRecOn with
 |_ m ih=>
  intro l h1 hm
  by_cases h:m<10
  ·rw[dN_small h]
   show dgF most ((48+m)::l) 0=_
   rw[dgF,if_neg (by omega),if_neg (by omega)]
   have e:0 * 10+(48+m - 48)=m:=by omega
   rw[e]
  ·have e:=dN_step (n:=m / 10) (e:=m % 10) (by omega) (by omega)
   rw[show m / 10 * 10+m % 10=m by omega] at e
   rw[e,List.append_assoc,ih (m / 10) (by omega) _ (by omega) (by omega)]
   show dgF most ((48+m % 10)::l) _=_
   rw[dgF,if_neg (by omega),if_neg (by omega)]
   have e2:m / 10 * 10+(48+m % 10 - 48)=m:=by omega
   rw[e2]
theorem dN_head: ∀(m:Nat),1<=m-> ∃c r,dN m=c::r/\c≠48:=by
 intro m
 induction m using Nat.strongRecOn with
 |_ m ih=>
  intro h1
  by_cases h:m<10
  ·exact⟨48+m, [],dN_small h,by omega⟩
  ·have e:=dN_step (n:=m / 10) (e:=m % 10) (by omega) (by omega)
   rw[show m / 10 * 10+m % 10=m by omega] at e
   obtain⟨c,r,h2,h3⟩:=ih (m / 10) (by omega) (by omega)
   exact⟨c,r++ [48+m % 10],by rw[e,h2];rfl,h3⟩
theorem dgV_dN {most m:Nat} (hm:m<=most):dgV most (dN m)=some m:=by
 by_cases h:1<=m
 ·obtain⟨c,r,h1,h2⟩:=dN_head m h
  have e:=dN_app most m [] h hm
  rw[List.append_nil,h1] at e
  rw[h1]
  show (if c=48/\r≠ [] then none else dgF most (c::r) 0)=some m
  rw[if_neg (fun h=>h2 h.1)]
  exact e
 ·obtain rfl:m=0:=by omega
  rw[dN_small (by omega)]
  simp[dgV,dgF]
theorem ix_idx {i:Nat} (h:i<=1000000):ixOf (nums (idxK i).s)=some i:=by
 show dgV 4294967294 (dN i)=some i
 exact dgV_dN (by omega)
theorem idx_size {i:Nat} (h:i<=1000000):(idxK i).s.size<4611686018427387904:=by
 have:=goodK_size (idx_good h)
 omega
def arrG (n:Nat) (l:List (Nat×DD)):List (KK×DD):=(lenK,lenD n)::l.map (fun e=>(idxK e.1,e.2))
theorem arr_arrG (n:Nat) (vs:List VV):arrL n vs=arrG n (vs.mapIdx (fun i v=>(i,opnD v))):=by
 unfold arrL arrG
 congr 1
 apply List.ext_getElem?
 intro i
 rw[List.getElem?_map,List.getElem?_mapIdx,List.getElem?_mapIdx]
 cases vs[i]? <;>rfl
theorem arrG_len {T:TT} {n:Nat} {l:List (Nat×DD)} (hT:pr T=arrG n l):getD T lenK=lenD n:=by
 rw[pr_get,hT]
 unfold arrG lkP
 rw[List.find?_cons_of_pos (by simp)]
 rfl
theorem arrG_turn (n m:Nat) (l:List (Nat×DD)):putP (arrG n l) lenK (lenD m)=arrG m l:=by
 unfold putP arrG
 rw[if_pos (by simp[hasP]),List.map_cons,if_pos rfl,List.map_map]
 congr 1
 refine List.map_congr_left (fun e he=> ?_)
 show (if idxK e.1=lenK then _ else _)=_
 rw[if_neg (idx_len _)]
theorem arrG_del (n:Nat) (l:List (Nat×DD)) (i:Nat):delP (arrG n l) (idxK i)=arrG n (l.filter (fun e=>decide (e.1≠i))):=by
 unfold delP arrG
 rw[List.filter_cons_of_pos (by simpa using fun h:lenK=idxK i=>idx_len i h.symm),List.filter_map]
 congr 2
 refine List.filter_congr (fun e he=> ?_)
 simp only[Function.comp,decide_eq_decide]
 exact⟨fun h h2=>h (by rw[h2]),fun h h2=>h (idx_inj h2)⟩
theorem arrG_has {n:Nat} {l:List (Nat×DD)} {i:Nat}:hasP (arrG n l) (idxK i)=l.any (fun e=>decide (e.1=i)):=by
 unfold hasP arrG
 rw[List.any_cons,List.any_map]
 have:decide (lenK=idxK i)=false:=by simpa using fun h:lenK=idxK i=>idx_len i h.symm
 rw[this,Bool.false_or]
 congr 1
 funext e
 simp only[Function.comp,decide_eq_decide]
 exact⟨idx_inj,fun h=>by rw[h]⟩
theorem arrG_lk {n:Nat} {l:List (Nat×DD)} {i:Nat} {d:DD} (h:lkP (arrG n l) (idxK i)=some d):(i,d)∈l:=by
 unfold lkP arrG at h
 rw[List.find?_cons_of_neg (by simpa using fun h:lenK=idxK i=>idx_len i h.symm)] at h
 obtain⟨e,he,rfl⟩:=Option.map_eq_some_iff.1 h
 have h1:=List.find?_some he
 obtain⟨x,hx,rfl⟩:=List.mem_map.1 (List.mem_of_find?_eq_some he)
 have h2:idxK x.1=idxK i:=by simpa using h1
 rw[←idx_inj h2]
 exact hx
theorem lenK_kd:kd lenK=1:=by kernel_rfl
theorem idx_kd {i:Nat} (h:i<=1000000):kd (idxK i)=0:=by
 show kdOf (idxK i).s 0=0
 unfold kdOf
 rw[if_pos rfl,ix_idx h]
 rfl
theorem idx_kn {i:Nat} (h:i<=1000000):kn (idxK i)=i:=by
 show knOf (idxK i).s 0=i
 unfold knOf
 rw[if_pos rfl,ix_idx h]
 rfl
theorem arr_ord {n:Nat} {l:List (Nat×DD)} (h: ∀e∈l,e.1<=1000000):ordK ((arrG n l).map (·.1))=(mg (l.map (·.1))).map idxK++ [lenK]:=by
 have e0:(arrG n l).map (·.1)=lenK::(l.map (·.1)).map idxK:=by
  unfold arrG
  rw[List.map_cons,List.map_map,List.map_map]
  rfl
 have hm: ∀k∈(l.map (·.1)).map idxK,∃i,i<=1000000/\k=idxK i:=fun k hk=>by
  obtain⟨i,hi,rfl⟩:=List.mem_map.1 hk
  obtain⟨e,he,rfl⟩:=List.mem_map.1 hi
  exact⟨_,h e he,rfl⟩
 rw[e0]
 unfold ordK
 have h1:ixs (lenK::(l.map (·.1)).map idxK)=l.map (·.1):=by
  unfold ixs
  rw[List.filter_cons_of_neg (by rw[lenK_kd];decide),List.filter_eq_self.2 (fun k hk=>by obtain⟨i,hi,rfl⟩:=hm k hk;rw[idx_kd hi];rfl),List.map_map]
  refine(List.map_congr_left (g:=id) (fun i hi=> ?_)).trans (List.map_id _)
  obtain⟨e,he,rfl⟩:=List.mem_map.1 hi
  exact idx_kn (h e he)
 have h2:strs (lenK::(l.map (·.1)).map idxK)= [lenK]:=by
  unfold strs
  rw[List.filter_cons_of_pos (by rw[lenK_kd];rfl),List.filter_eq_nil_iff.2 (fun k hk=>by obtain⟨i,hi,rfl⟩:=hm k hk;rw[idx_kd hi];decide)]
 have h3:syms (lenK::(l.map (·.1)).map idxK)= []:=by
  unfold syms
  rw[List.filter_cons_of_neg (by rw[lenK_kd];decide),List.filter_eq_nil_iff.2 (fun k hk=>by obtain⟨i,hi,rfl⟩:=hm k hk;rw[idx_kd hi];decide)]
 rw[h1,h2,h3,List.append_nil]
 rfl
def leftG (c:Nat) (S:List Nat) (l:List (Nat×DD)) (j:Nat):List (Nat×DD):=l.filter (fun e=>decide (e.1<c)||(S.take j).contains e.1)
theorem leftG_full {c:Nat} {S:List Nat} {l:List (Nat×DD)} (h: ∀e∈l,e.1∈S) {j:Nat} (hj:S.length<=j):leftG c S l j=l:=by
 unfold leftG
 rw[List.take_of_length_le hj]
 refine List.filter_eq_self.2 (fun e he=> ?_)
 have:=h e he
 simp[this]
theorem leftG_zero (c:Nat) (S:List Nat) (l:List (Nat×DD)):leftG c S l 0=l.filter (fun e=>decide (e.1<c)):=by
 unfold leftG
 simp
theorem leftG_keep {c:Nat} {S:List Nat} {l:List (Nat×DD)} {j i:Nat} (hi:S[j]? =some i) (hc:i<c):leftG c S l (j+1)=leftG c S l j:=by
 unfold leftG
 refine List.filter_congr (fun e he=> ?_)
 rw[List.take_add_one,hi]
 by_cases h:e.1<c
 ·simp[h]
 ·have hne:e.1≠i:=by omega
  simp[h,hne]
theorem leftG_cut {c:Nat} {S:List Nat} {l:List (Nat×DD)} {j i:Nat} (hS:S.Nodup) (hi:S[j]? =some i) (hc:c<=i):(leftG c S l (j+1)).filter (fun e=>decide (e.1≠i))=leftG c S l j:=by
 unfold leftG
 rw[List.filter_filter]
 refine List.filter_congr (fun e he=> ?_)
 rw[List.take_add_one,hi]
 have hni:i ∉ S.take j:=fun hm=>by
  have hj:=(List.getElem?_eq_some_iff.1 hi).1
  have h1:(S.take (j+1)).Nodup:=hS.sublist (List.take_sublist _ _)
  rw[List.take_add_one,hi] at h1
  exact(List.nodup_append.1 h1).2.2 i hm i (by simp) rfl
 by_cases h:e.1=i
 ·have h2:decide (e.1<c)=false:=decide_eq_false (by omega)
  have h3:(S.take j).contains e.1=false:=by
   rw[h]
   simpa using hni
  have h4:decide (e.1≠i)=false:=decide_eq_false (fun h5=>h5 h)
  rw[h2,h3,h4]
  rfl
 ·have h4:decide (e.1≠i)=true:=decide_eq_true h
  rw[h4,Bool.true_and]
  congr 1
  simp[h]
theorem leftG_mem {c:Nat} {S:List Nat} {l:List (Nat×DD)} {j:Nat} {e:Nat×DD} (h:e∈leftG c S l j):e∈l:=(List.mem_filter.1 h).1
theorem take_el (vs:List VV): ∀(c k:Nat),(vs.mapIdx (fun i v=>(i+k,opnD v))).filter (fun e=>decide (e.1<c+k))=(vs.take c).mapIdx (fun i v=>(i+k,opnD v)):=by
 induction vs with
 |nil=>intro c k;simp
 |cons v vs ih=>
  intro c k
  rw[List.mapIdx_cons]
  have hf:(fun (i:Nat) (v:VV)=>(i+1+k,opnD v))=fun i v=>(i+(k+1),opnD v):=by
   funext i v
   rw[show i+1+k=i+(k+1) by omega]
  cases c with
  |zero=>
   rw[List.filter_eq_nil_iff.2]
   ·simp
   ·intro e he
    rcases List.mem_cons.1 he with rfl|he
    ·simp
    ·obtain⟨i,hi,rfl⟩:=List.mem_mapIdx.1 he
     simp
  |succ c=>
   rw[List.filter_cons_of_pos (by simp),List.take_succ_cons,List.mapIdx_cons,hf]
   congr 1
   have:=ih c (k+1)
   rw[show c+(k+1)=c+1+k by omega] at this
   exact this
theorem take_elems (vs:List VV) (c:Nat):(vs.mapIdx (fun i v=>(i,opnD v))).filter (fun e=>decide (e.1<c))=(vs.take c).mapIdx (fun i v=>(i,opnD v)):=take_el vs c 0
end
section
open Go Go.Proofs Go.Maps Go.RowKit FM Tryz
attribute [local go_sem] mm_DefineOwnProperty mm_GetOwnProperty mm_HasProperty mm_Get mm_Delete mm_OwnPropertyKeys ta_caller
theorem sy_row {w X Y:World} {E:List Nat} {L:List Ob} {sv:Value} {ks:List KK} (S:Sy w X E L) (hO:OwnK Y X.heap.size sv ks) (k:Below X.heap.size X Y): ∃bs,Sy w Y E (L++ [rowO bs 42 2 sv ks.length (flatK ks)]):=
 ⟨_,S.add (rowO_ok _ _ _ _ _ _) hO k (fun b hb=>(World.ownsRow.lt hO b (by simpa [rowO] using hb)).1)⟩
theorem own_rows {w:World} {base g n c:Nat} {l:List KK} (h:OwnK w base (.slice (some ⟨g,0,none⟩) n c) l):RowsK w g 0 l:=by
 rcases h.form with ⟨h1,_⟩|⟨g',c',h1,_,_,_,h2⟩
 ·cases h1
 ·cases h1
  exact h2
def markO (D:Nat):Ob:=⟨[D],fun X=>X.heap[D]? =some (.deferred (some []))⟩
theorem markO_ok (D:Nat):(markO D).Ok:=⟨fun h k=>(h D (List.mem_singleton.2 rfl)).trans k,fun h b hb=>by
 obtain rfl:=List.mem_singleton.1 hb
 exact(Array.getElem?_eq_some_iff.1 h).1⟩
theorem Sy.mark {w X:World} {E:List Nat} {L:List Ob} {D:Nat} (S:Sy w X E L) (hn: ∀o∈L,o.Nl) (hD:X.heap[D]? =some (.deferred (some []))) (hl:w.heap.size<=D):Sy w X E (L++ [markO D]):=by
 refine⟨S.fr,fun o ho=> ?_,fun o ho=> ?_,fun o ho b hb=> ?_, ?_⟩
 ·rcases List.mem_append.1 ho with ho|ho
  ·exact S.ok o ho
  ·rw[List.mem_singleton.1 ho];exact markO_ok D
 ·rcases List.mem_append.1 ho with ho|ho
  ·exact S.ho o ho
  ·rw[List.mem_singleton.1 ho];exact hD
 ·rcases List.mem_append.1 ho with ho|ho
  ·exact S.lo o ho b hb
  ·rw[List.mem_singleton.1 ho] at hb
   rw[List.mem_singleton.1 hb];exact .inr hl
 ·refine List.pairwise_append.2 ⟨S.dis,by simp,fun o ho p hp x hx hx2=> ?_⟩
  rw[List.mem_singleton.1 hp] at hx2
  rw[List.mem_singleton.1 hx2] at hx
  exact hn o ho X (S.ho o ho) D hx _ hD (.inr ⟨_,rfl⟩)
theorem back_any (A:Option Addr) (n c:Nat) (w:World):Calls prog 191 #[.slice A n c] w fun e w'=>e= .returned (.func (.func 197) #[] #[.pointer (some ⟨w.heap.size,0,none⟩)])/\w'=w.alloc (Obj.cells #[.slice A n c] 54):=by
 go_enter func191,ntmps191
 go_wp2
 go_ret
 exact⟨rfl,rfl⟩
def cutL (h:HP) (j:Nat) (q:OB) (c B4 B5 B6 B7 B8 bs g cc Bs:Nat) (ks:List KK) (T':TT):List Ob:= [hpO (h.tab j q T'),empO B4,boxO B5 [.pointer (some ⟨h.b,0,none⟩)],boxO B6 [.int .i64 ((j:Int)+1)],boxO B7 [.int .u32 (c:Nat)],boxO B8 [.int .u32 0],rowO bs 42 2 (.slice (some ⟨g,0,none⟩) ks.length cc) ks.length (flatK ks),boxO Bs [.slice (some ⟨g,0,none⟩) ks.length cc]]
theorem cutL_nl (h:HP) (j:Nat) (q:OB) (c B4 B5 B6 B7 B8 bs g cc Bs:Nat) (ks:List KK) (T':TT): ∀o∈cutL h j q c B4 B5 B6 B7 B8 bs g cc Bs ks T',o.Nl:=by
 intro o ho
 simp only[cutL,List.mem_cons,List.not_mem_nil,or_false] at ho
 rcases ho with rfl|rfl|rfl|rfl|rfl|rfl|rfl|rfl
 ·exact hpO_nl _
 ·exact empO_nl _
 ·exact boxO_nl _ _ (Nat.succ_pos _)
 ·exact boxO_nl _ _ (Nat.succ_pos _)
 ·exact boxO_nl _ _ (Nat.succ_pos _)
 ·exact boxO_nl _ _ (Nat.succ_pos _)
 ·exact rowO_nl _ _ _ _ _ _
 ·exact boxO_nl _ _ (Nat.succ_pos _)
structure CutI (w:World) (h:HP) (j:Nat) (q:OB) (c n B4 B5 B6 B7 B8 bs g cc Bs:Nat) (ks:List KK) (S:List Nat) (l:List (Nat×DD)) (i:Nat) (W:World) (T':TT):Prop where
 sy:Sy w W h.blocks (cutL h j q c B4 B5 B6 B7 B8 bs g cc Bs ks T')
 pr:pr T'=arrG n (leftG c S l i)
 la:T'.last=q.T.last
 le:i<=S.length+1
def CutJ (w:World) (h:HP) (j:Nat) (q:OB) (c n B4 B5 B6 B7 B8 bs g cc Bs:Nat) (ks:List KK) (S:List Nat) (l:List (Nat×DD)) (i:Nat) (W:World):Prop:= ∃T',CutI w h j q c n B4 B5 B6 B7 B8 bs g cc Bs ks S l i W T'
theorem CutJ.own {w:World} {h:HP} {j:Nat} {q:OB} {c n B4 B5 B6 B7 B8 bs g cc Bs:Nat} {ks:List KK} {S:List Nat} {l:List (Nat×DD)} {B:Nat} (hB:w.heap.size<=B):OwnL B (CutJ w h j q c n B4 B5 B6 B7 B8 bs g cc Bs ks S l):=fun i X Y row ⟨T',hI⟩ hg hr=>
 ⟨T',hI.sy.grow (cutL_nl _ _ _ _ _ _ _ _ _ _ _ _ _ _ _) hg (fun r e=>⟨Nat.le_trans hB (hr r e).1,by obtain⟨-,o,h1,h2⟩:=hr r e;exact⟨o,h1, .inl h2⟩⟩),hI.pr,hI.la,hI.le⟩
theorem CutI.tab {w:World} {h:HP} {j:Nat} {q:OB} {c n B4 B5 B6 B7 B8 bs g cc Bs:Nat} {ks:List KK} {S:List Nat} {l:List (Nat×DD)} {i:Nat} {W:World} {T':TT} (hI:CutI w h j q c n B4 B5 B6 B7 B8 bs g cc Bs ks S l i W T'):BT Bs g cc ks i W:=
 ⟨hI.sy.hold 7 rfl,own_rows (base:=bs) (n:=ks.length) (c:=cc) (hI.sy.get 6 rfl)⟩
theorem lets_by {σ α:Type} {B:Nat} {I:σ->World->Prop} {Ix:Code->World->Prop} {nx:σ->α->σ->Prop} {s:σ} {x:α} {W:World}: ¬LetsOut (byPost B I Ix nx s x W):=fun ⟨_,_,h⟩=>h
theorem lets_block {id:Nat} {Q:Exit->Act->World->Prop} (h: ¬LetsOut Q): ¬LetsOut (Exit.inBlock id Q):=fun ⟨a,w,hq⟩=>h ⟨a,w,hq⟩
theorem sy_last {w X:World} {E:List Nat} {L:List Ob} {o:Ob} (S:Sy w X E (L++ [o])): ∀p∈L,∀b∈p.bs,b ∉ o.bs:=fun p hp b hb=>(List.pairwise_append.1 S.dis).2.2 p hp o (by simp) b hb
theorem sy_init {w X:World} {E:List Nat} {L:List Ob} {o:Ob} (S:Sy w X E (L++ [o])):Sy w X E L:=Sy.left S
theorem sz_u32:(prog.info? 44).map (·.size)=some 1:=by kernel_rfl
theorem tab_self {h:HP} {j:Nat} {q:OB} (hj:h.l[j]? =some q):h.tab j q q.T=h:=by
 unfold HP.tab
 have:h.l.set j {q with T:=q.T}=h.l:=by
  obtain⟨hlt,he⟩:=List.getElem?_eq_some_iff.1 hj
  rw[←he]
  exact List.set_getElem_self hlt
 rw[this]
theorem tab_tab (h:HP) (j:Nat) (q:OB) (T' T2:TT):(h.tab j q T').tab j {q with T:=T'} T2=h.tab j q T2:=by
 unfold HP.tab
 simp
theorem tab_at {h:HP} {j:Nat} {q:OB} (hj:h.l[j]? =some q) (T':TT):(h.tab j q T').l[j]? =some {q with T:=T'}:=by
 obtain⟨hlt, -⟩:=List.getElem?_eq_some_iff.1 hj
 show (h.l.set j _)[j]? =_
 rw[List.getElem?_set_self hlt]
theorem tab_len (h:HP) (j:Nat) (q:OB) (T':TT):(h.tab j q T').l.length=h.l.length:=List.length_set
theorem del_step {h h1:HP} {j:Nat} {q:OB} {T9:TT} {m n c i:Nat} {l:List (Nat×DD)} {S:List Nat} {y:Bool} (hp:pr T9=arrG n (leftG c S l (i+1))) (hD:DelP (h.tab j q T9) j {q with T:=T9} (idxK m) h1 y) (hi: ∀e∈l,e.2.c≠1) (hS:S.Nodup) (hm:S[i]? =some m) (hc:c<=m):
  y=true/\ ∃T2,h1=h.tab j q T2/\T2.last=T9.last/\pr T2=arrG n (leftG c S l i):=by
 rcases hD with ⟨hf,rfl,rfl⟩|⟨hf,hc1,_,_⟩|⟨hf,_,rfl,T',rfl,hl,hpr⟩
 ·refine⟨rfl,T9,rfl,rfl, ?_⟩
  have hf2:T9.find (idxK m)=none:=hf
  have h1:hasP (pr T9) (idxK m)=false:=by rw[pr_has,hf2];rfl
  rw[hp,arrG_has] at h1
  rw[hp,←leftG_cut hS hm hc,List.filter_eq_self.2]
  intro e he
  have h2:=List.any_eq_false.1 h1 e he
  simpa using h2
 ·exfalso
  have hf2:(T9.find (idxK m)).isSome=true:=hf
  obtain⟨r,hr⟩:=Option.isSome_iff_exists.1 hf2
  have h1:lkP (pr T9) (idxK m)=some r.d:=by rw[pr_lk,hr];rfl
  have h2:getD T9 (idxK m)=r.d:=by rw[pr_get,h1];rfl
  rw[hp] at h1
  have h3:(getD T9 (idxK m)).c=1:=hc1
  rw[h2] at h3
  exact hi _ (leftG_mem (arrG_lk h1)) h3
 ·refine⟨rfl,T',tab_tab h j q T9 T',hl, ?_⟩
  have h1:pr T'=delP (pr T9) (idxK m):=hpr
  rw[h1,hp,arrG_del,leftG_cut hS hm hc]
theorem res_cut {X:World} {B:Nat} {c:Int} {tmps:Array Value} (h:Holds X B [.int .u32 c]) (hx:tmps.getD 8 undef= .pointer (some ⟨B,0,none⟩)):(results Tryz.f184 tmps).run prog X= .ok (.int .u32 c) X:=by
 have h0:=h.cell 0 (v:= .int .u32 c) rfl
 have hl:(loadVar 44 ⟨B,0,none⟩).run prog X= .ok (.int .u32 c) X:=by simp[loadVar,isAgg44,h0,go_sem]
 simp only[Array.getD_eq_getD_getElem?] at hx
 unfold results
 simp[show Tryz.f184.results= #[.cell 8 44] from rfl,hx,hl,asAddr]
theorem ex_ltU {o:Oper} {a:Act} {w:World} {x y:Operand} {n m:Int} {r:Bool} (ho:o.op= .binOp .lss 44 x y 44) (hx:a.eval x= .int .u32 n) (hy:a.eval y= .int .u32 m) (h:decide (n<m)=r):(execOp a.eval o).run prog w= .ok (.value (.bool r)) w:=by
 unfold execOp
 simp only[ho,hx,hy]
 simp[go_sem,eqGuard,h]
theorem cut_h (h:HP) (j:Nat) (q:OB) (c n:Nat) (l:List (Nat×DD)) (w:World) (H:h.Is w) (hT:Tabs w) (hl:h.l.length<=65536) (hj:h.l[j]? =some q) (hp:pr q.T=arrG n l) (hi: ∀e∈l,e.1<=1000000/\e.2.c≠1) (hnd:(l.map (·.1)).Nodup) (hla:q.T.last<100000) (hll:l.length<=100000):Calls prog 184 #[.agg #[], .pointer (some ⟨h.b,0,none⟩), .int .i64 ((j:Int)+1), .int .u32 (c:Nat)] w fun e w'=> ∃T':TT,e= .returned (.int .u32 (c:Nat))/\pr T'=arrG n (l.filter (fun e=>decide (e.1<c)))/\T'.last=q.T.last/\h.To (h.tab j q T') w w':=by
 have hlv:q.T.live.length<=1500000:=by
  have h1:(pr q.T).length=l.length+1:=by rw[hp];simp[arrG]
  have h2:(pr q.T).length=q.T.live.length:=by unfold pr;simp
  omega
 have hks:ordK ((pr q.T).map (·.1))=(mg (l.map (·.1))).map idxK++ [lenK]:=by rw[hp];exact arr_ord (fun e he=>(hi e he).1)
 obtain⟨S,hS⟩: ∃S,S=mg (l.map (·.1)):=⟨_,rfl⟩
 rw[←hS] at hks
 obtain⟨ks,hK⟩: ∃ks,ks=S.map idxK++ [lenK]:=⟨_,rfl⟩
 rw[←hK] at hks
 have hkl:ks.length<=1000000:=by rw[hK,List.length_append,List.length_map,hS,mg_len,List.length_map];simp;omega
 have HKS:=hide (show ks.length=S.length+1 by rw[hK];simp)
 have HSl:Hid (∀e∈l,e.1∈S):=hide (fun e he=>by rw[hS];exact(mg_perm _).mem_iff.2 (List.mem_map_of_mem he))
 have HSn:Hid S.Nodup:=hide (by rw[hS];exact(mg_perm _).nodup_iff.2 hnd)
 have HSm:Hid (∀i∈S,i<=1000000):=hide (fun i hm=>by rw[hS] at hm;obtain⟨e,he,rfl⟩:=List.mem_map.1 ((mg_perm _).mem_iff.1 hm);exact(hi e he).1)
 have HK:=hide hK
 clear hS hK
 have SS:=hide H.start
 have HH:=hide H
 have HT:=hide hT
 refine(callsIn_wide (n:=6)).1 ?_
 refine callsIn_of_wp_marks func184 rfl trivial ?_ rfl
 simp only[ntmps184,List.size_toArray,List.length_cons,List.length_nil,Nat.reduceAdd,Nat.reduceSub,Array.replicate_succ,Array.replicate_zero,List.push_toArray,List.append_toArray,List.nil_append,List.cons_append]
 refine wpIn_wide.2 (wp_mono (Q:=RetM Tryz.f184 6 (fun e w'=> ∃T':TT,e= .returned (.int .u32 (c:Nat))/\pr T'=arrG n (l.filter (fun e=>decide (e.1<c)))/\T'.last=q.T.last/\h.To (h.tab j q T') w w')) ?_ retM_post)
 go_wp2_with (first|go_skip|((with_reducible show wpList ..);first|((refine bxE (by rfl) rfl rfl (uh SS) ?_);intro X0 B0 S0;replace SS:=hide S0;clear S0;simp only[nn])|(refine zB 24 ([.pointer (some ⟨h.b,0,none⟩)]) (by rfl) rfl rfl rfl SS ?_;clear SS;intro Xh Bh SS;simp only[nn])|(refine zB 3 ([.int .i64 ((j:Int)+1)]) (by rfl) rfl rfl rfl SS ?_;clear SS;intro Xo Bo SS;simp only[nn])|(refine zB 44 ([.int .u32 (c:Nat)]) (by rfl) rfl rfl rfl SS ?_;clear SS;intro Xn Bn SS;simp only[nn])|(refine alS (v:= .int .u32 0) 44 [.int .u32 0] (by rfl) rfl (by intro w;kernel_rfl) rfl (Nat.succ_pos _) (uh SS) ?_;intro Xr Br hBr S9 hBl;replace SS:=hide S9;clear S9 hBr hBl;simp only[nn])|(refine rd rfl (faM rfl rfl ((uh SS).emp 1 rfl)) ?_;simp only[nn])|(refine rd rfl (ldO rfl rfl) ?_;simp only[nn])|(refine rd rfl (ldM rfl rfl) ?_;simp only[nn])|(refine z1 24 isAgg24 2 (by rfl) rfl rfl SS rfl rfl ?_;simp only[nn])|(refine z1 3 isAgg3 3 (by rfl) rfl rfl SS rfl rfl ?_;simp only[nn])))
 have HO:=ord_keys h j q _ ((uh SS).hp 0 rfl) hl hj (hT.fr (uh SS).fr H.low) (by omega) hlv
 refine HO.mono ?_
 clear HO
 rintro _ Y ⟨sv,rfl,hO,hb⟩
 rw[hks] at hO
 obtain⟨bs,S9⟩:=sy_row (uh SS) hO hb
 replace SS:=hide S9
 clear S9 hb
 rcases hO.form with ⟨-,h0⟩|⟨g,cc,rfl, -⟩
 ·have:=uh HKS;rw[h0] at this;simp at this
 clear hO
 go_wp2_with fail
 refine(back_any _ _ _ _).mono ?_
 rintro _ Y2 ⟨rfl,rfl⟩
 replace SS:=hide ((uh SS).box [.slice (some ⟨g,0,none⟩) ks.length cc] 54 (Nat.succ_pos _))
 obtain⟨Bs,hBs⟩: ∃Bs,Bs=Y.heap.size:=⟨_,rfl⟩
 rw[←hBs] at SS ⊢
 clear hBs
 go_wp2_with fail
 have hsz:=(uh SS).fr.size
 refine(wpIn_wide (n:=4)).1 ?_
 refine range_one (σ:=Nat) (α:=Nat×KK) rfl (by omega) (gf:=197) (lb:= #[.pointer (some ⟨Bs,0,none⟩)]) rfl trivial (enters_of func197 (by kernel_rfl) rfl) (back_by 3 (by omega) Bs g cc ks hkl _) (Below.refl _ _) ?hps (CutJ w h j q c n B0 Bh Bo Bn Br bs g cc Bs ks S l) (fun _ _=>False) (fun s W hh=>by obtain⟨T9,hI⟩:=hh;exact hI.tab) (CutJ.own hsz) (fun c s A B row hs hg hr=>hs.elim) ?h0 12 (fun x=>x.2.cs) (fun _=>Nat.succ_pos _) ?assign ?body ?done ?stop
 case hps=>intro x;rfl
 case h0=>
  refine⟨q.T, ?_, ?_,rfl,Nat.le_of_eq (uh HKS)⟩
  ·unfold cutL
   rw[tab_self hj]
   exact uh SS
  ·rw[hp,leftG_full (uh HSl) (by have:=uh HKS;omega)]
 case stop=>intro D c W hD hF;exact hF.elim
 case assign=>
  intro l9 s9 r9 W9 K9 hI9 hV9 hK9
  simp only[encB,zip2,n1,n2,n3] at hK9 ⊢
  obtain⟨p1,p2,p3⟩:=new_var W9 zeroK.cs r9.2.cs 42 (Nat.le_refl _) rfl (Nat.succ_pos _)
  refine wpIn_region_lit ?_
  refine inV (fun _=>trivial) (by rfl) (by intro c h;cases h) (ex_alloc33 rfl) ?_
  simp only[nn]
  refine inS (fun _=>trivial) (by rfl) (by intro c h;cases h) (ex_store (t:=42) (vs:=r9.2.cs) rfl rfl rfl rfl (oneK _) szK (Holds.new W9 zeroK.cs 42) (Nat.le_refl _)) ?_
  simp only[nn]
  refine wpListIn_nil ?_
  refine hK9 _ _ (kl_fr (Fr.of_below p1 []) (by simp)) ?_ p2
  exact CutJ.own (B:=w.heap.size) (Nat.le_refl _) s9 W9 _ none hI9 (grown_of_below p1) (fun r e=>by cases e)
 case body=>
  intro l9 s9 r9 B W9 hl9 hI9 hV9 hH9
  obtain⟨T9,hI⟩:=hI9
  obtain⟨i,k⟩:=r9
  obtain⟨hs,hk9⟩:=hV9
  simp only[encB,zip2,n1,n2,n3]
  have HB:=hide hH9
  clear hH9
  have hixc:(k=lenK/\i=S.length)∨ ∃m,S[i]? =some m/\k=idxK m:=by
   rw[uh HK] at hk9
   rcases Nat.lt_or_ge i S.length with h1|h1
   ·rw[List.getElem?_append_left (by simpa using h1),List.getElem?_map,List.getElem?_eq_getElem h1] at hk9
    exact .inr ⟨_,List.getElem?_eq_getElem h1,(Option.some.inj hk9).symm⟩
   ·rw[List.getElem?_append_right (by simpa using h1),List.length_map] at hk9
    have h2:=(List.getElem?_eq_some_iff.1 hk9).1
    have h3:i - S.length=0:=by simpa using h2
    rw[h3] at hk9
    exact .inl ⟨(Option.some.inj hk9).symm,by omega⟩
  rcases hixc with ⟨rfl,rfl⟩|⟨m,hm,rfl⟩
  ·have hix:ixOf (nums lenK.s)=none:=by kernel_rfl
   refine wpIn_block (wpIn_seq (plain_round (by kernel_rfl) (lets_then (lets_block lets_by)) ?_))
   go_wp2_with (first|go_skip|((with_reducible show wpList ..);first|(refine rd rfl (ex_load1 9 isAgg9 rfl rfl (uh HB) rfl) ?_;simp only[nn])))
   have HO:=index34 lenK.s (by decide) W9
   rw[hix] at HO
   refine HO.mono ?_
   rintro _ W8 ⟨rfl,hW8⟩
   subst hW8
   go_wp2_with fail
   refine wpIn_seq (wpIn_seq (plain_round (by kernel_rfl) (lets_then (lets_then (lets_block lets_by))) ?_))
   go_wp2_with (first|go_skip|((with_reducible show wpList ..);first|(refine rd rfl (ex_load1 44 isAgg44 rfl rfl (hI.sy.hold 4 rfl) rfl) ?_;simp only[nn])))
   refine wpIn_cond_true rfl (wpIn_exit ?_)
   exact⟨KL.refl _,S.length,hs,T9,hI.sy,by rw[hI.pr,←hs,leftG_full (uh HSl) (by omega),leftG_full (uh HSl) (Nat.le_refl _)],hI.la,by omega⟩
  ·have hm6:m<=1000000:=uh HSm m (List.mem_of_getElem? hm)
   have hix:ixOf (nums (idxK m).s)=some m:=ix_idx hm6
   have HBk:=hide (show OkK (idxK m) from idx_ok hm6)
   refine wpIn_block (wpIn_seq (plain_round (by kernel_rfl) (lets_then (lets_block lets_by)) ?_))
   go_wp2_with (first|go_skip|((with_reducible show wpList ..);first|(refine rd rfl (ex_load1 9 isAgg9 rfl rfl (uh HB) rfl) ?_;simp only[nn])))
   have HO:=index34 (idxK m).s (idx_size hm6) W9
   rw[hix] at HO
   refine HO.mono ?_
   rintro _ W8 ⟨rfl,hW8⟩
   subst hW8
   go_wp2_with fail
   refine wpIn_seq (wpIn_seq (plain_round (by kernel_rfl) (lets_then (lets_then (lets_block lets_by))) ?_))
   by_cases hmc:m<c
   ·have d1:decide ((m:Int)<(c:Int))=true:=decide_eq_true (by omega)
    go_wp2_with (first|go_skip|((with_reducible show wpList ..);first|(refine rd rfl (ex_load1 44 isAgg44 rfl rfl (hI.sy.hold 4 rfl) rfl) ?_;simp only[nn])|(refine rd rfl (ex_ltU rfl rfl rfl d1) ?_;simp only[nn])))
    refine wpIn_cond_true rfl (wpIn_exit ?_)
    exact⟨KL.refl _,i,hs,T9,hI.sy,by rw[hI.pr,←hs,leftG_keep hm hmc],hI.la,by have:=hI.le;omega⟩
   ·have d1:decide ((m:Int)<(c:Int))=false:=decide_eq_false (by omega)
    go_wp2_with (first|go_skip|((with_reducible show wpList ..);first|(refine rd rfl (ex_load1 44 isAgg44 rfl rfl (hI.sy.hold 4 rfl) rfl) ?_;simp only[nn])|(refine rd rfl (ex_ltU rfl rfl rfl d1) ?_;simp only[nn])))
    refine wpIn_cond_false rfl (wpIn_skip ?_)
    have SS9:=hide hI.sy
    refine wpIn_seq (plain_round (by kernel_rfl) (lets_then (lets_block lets_by)) ?_)
    go_wp2_with (first|go_skip|((with_reducible show wpList ..);first|(refine rd rfl (faM rfl rfl (hI.sy.emp 1 rfl)) ?_;simp only[nn])|(refine rd rfl (ldO rfl rfl) ?_;simp only[nn])|(refine rd rfl (ex_load1 24 isAgg24 rfl rfl (hI.sy.hold 2 rfl) rfl) ?_;simp only[nn])|(refine rd rfl (ex_load1 3 isAgg3 rfl rfl (hI.sy.hold 3 rfl) rfl) ?_;simp only[nn])|(refine rd rfl (ex_loadN (vs:=(idxK m).cs) 42 2 rwK szK rfl rfl (uh HB) rfl rfl) ?_;simp only[nn])))
    have HO:=ord_delete (h.tab j q T9) j {q with T:=T9} (idxK m) W8 (hI.sy.hp 0 rfl) (by rw[tab_len];exact hl) (tab_at hj T9) (uh HBk) (by have:=hI.la;show T9.last<100000;omega)
    refine HO.mono ?_
    rintro _ Y3 ⟨h1,y,rfl,hD,T3⟩
    obtain⟨rfl,T2,rfl,hl2,hp2⟩:=del_step (hs▸hI.pr) hD (fun e he=>(hi e he).2) (uh HSn) hm (by omega)
    have SY:=hI.sy.heap 0 rfl T3
    have hkl3:KL W8 Y3:=kl_fr T3.fr (fun b hb o ho=>hpO_nl _ W8 (hI.sy.hp 0 rfl) b hb o ho)
    have hla2:=hI.la
    have hle2:=hI.le
    clear hD T3 hI HB SS9
    go_wp2_with fail
    refine wpIn_seq (plain_round (by kernel_rfl) (lets_then (lets_block lets_by)) ?_)
    go_wp2_with fail
    refine wpIn_cond_false rfl (wpIn_skip ?_)
    exact⟨hkl3,i,hs,T2,SY,hp2,hl2.trans hla2,by omega⟩
 case done=>
  rintro D s9 W9 hD9 hF9 ⟨T9,hI⟩ hM9
  obtain rfl:s9=0:=hF9
  have hpr:=hI.pr
  rw[leftG_zero] at hpr
  have hla9:=hI.la
  have SM:=hI.sy.mark (cutL_nl _ _ _ _ _ _ _ _ _ _ _ _ _ _ _) hM9 (by omega)
  replace SS:Hid (Sy w W9 h.blocks [hpO (h.tab j q T9),empO B0,boxO Bh [.pointer (some ⟨h.b,0,none⟩)],boxO Bo [.int .i64 ((j:Int)+1)],boxO Bn [.int .u32 (c:Nat)],boxO Br [.int .u32 0],rowO bs 42 2 (.slice (some ⟨g,0,none⟩) ks.length cc) ks.length (flatK ks),boxO Bs [.slice (some ⟨g,0,none⟩) ks.length cc],markO D]):=hide SM
  clear SM hI hM9
  go_wp2_with (first|go_skip|((with_reducible show wpList ..);first|(refine z1 44 isAgg44 4 (by rfl) rfl rfl SS rfl rfl ?_;simp only[nn])|(refine zS ([.int .u32 (c:Nat)]) 5 44 (by rfl) rfl rfl rfl rfl (by simp[Value.oneCell']) sz_u32 SS rfl ?_;clear SS;intro Xy SS;simp only[nn])))
  show LeavesInM Fence.wide 6 prog Tryz.f184 _ _ (marks [D]) .returning _
  refine leaves_marks [D] _ (by simp) (fun E hE=>by obtain rfl:=List.mem_singleton.1 hE;exact(uh SS).get 8 rfl) (fun Z hZ=> ?_)
  have SZ:=(sy_init (L:= [_,_,_,_,_,_,_,_]) (uh SS)).other hZ (fun b hb=> .inr (by rw[List.mem_singleton.1 hb];omega)) (sy_last (L:= [_,_,_,_,_,_,_,_]) (uh SS))
  exact⟨_,res_cut (SZ.hold 5 rfl) rfl,T9,rfl,hpr,hla9,HP.To.end H SZ rfl⟩
def lnD (c:Nat):DD:=⟨numV (nf c),zeroV,zeroV,0,0,0⟩
def lnC (c:Nat):List Value:=numC (nf c)++zeroV.cs++zeroV.cs++ [.int .i64 0, .int .i64 0, .int .i64 0]
theorem ln_agg (c:Nat):(lnD c).agg= .agg (lnC c).toArray:=rfl
theorem ln_FD {c:Nat} (h:c<=300∨c=4294967295):FD (lnD c):=⟨nf_lt (by omega),show 0<2^64 by decide,show 0<2^64 by decide⟩
theorem ln_shape (c:Nat):shapeV (lnD c)=2:=by simp[shapeV,lnD,num_th,zero_th]
theorem ln_kind (c:Nat):kindV (lnD c)=2:=by
 have hs:soundV (lnD c)=true:=by simp[soundV,lnD,num_th,num_good,callV,zero_th,triV,zeroV];simp[thV]
 unfold kindV
 rw[hs,ln_shape]
 rfl
theorem app_ln (x:Bool) (n c:Nat):appB x (lenD n) (lnD c)=true/\appD x (lenD n) (lnD c)=lenD c:=by
 have ht:turnV (lenD n) (lnD c)=false:=by unfold turnV;rw[ln_shape,len_shape];rfl
 have hf:forbV (lenD n) (lnD c)=false:=by
  unfold forbV
  rw[ht,len_shape]
  rfl
 refine⟨?_, ?_⟩
 ·unfold appB
  rw[ln_kind,len_st,len_no',hf]
  rfl
 ·unfold appD
  rw[ln_kind,len_st,len_no',hf]
  show becV (lenD n) (lnD c)=lenD c
  unfold becV
  rw[ht]
  simp[orV,orT,lnD,lenD,num_th,zero_th]
theorem ln_turn {h h1:HP} {j:Nat} {q:OB} {n c:Nat} {l:List (Nat×DD)} {y:Bool} (hp:pr q.T=arrG n l) (hP:DefP h j q lenK (lnD c) h1 y):y=true/\ ∃T':TT,h1=h.tab j q T'/\pr T'=arrG c l/\T'.last<=q.T.last+1:=by
 unfold DefP at hP
 rw[arrG_len hp,(app_ln q.x n c).1,(app_ln q.x n c).2] at hP
 obtain⟨rfl,hP⟩:=hP
 rcases hP with ⟨h0,_⟩|⟨_,T',rfl,hl,hpr⟩
 ·cases h0
 ·exact⟨rfl,T',rfl,by rw[hpr,hp,arrG_turn],hl⟩
theorem ex_ln {o:Oper} {a:Act} {w:World} {x y:Operand} {c:Nat} (ho:o.op= .build 53 #[(0,x),(3,y)]) (hx:a.eval x=(numV (nf c)).agg) (hy:a.eval y= .int .i64 0):(execOp a.eval o).run prog w= .ok (.value (.agg (lnC c).toArray)) w:=by
 have e:(Instr.build 53 #[(0,(numV (nf c)).agg),(3, .int .i64 0)]).run prog w= .ok (.agg (lnC c).toArray) w:=by kernel_rfl
 unfold execOp
 simp only[ho,List.map_toArray,List.map_cons,List.map_nil,hx,hy]
 simp[e]
theorem ex_ln1 {o:Oper} {a:Act} {w:World} {x:Operand} {c:Nat} (ho:o.op= .build 53 #[(0,x)]) (hx:a.eval x=(numV (nf c)).agg):(execOp a.eval o).run prog w= .ok (.value (.agg (lnC c).toArray)) w:=by
 have e:(Instr.build 53 #[(0,(numV (nf c)).agg)]).run prog w= .ok (.agg (lnC c).toArray) w:=by kernel_rfl
 unfold execOp
 simp only[ho,List.map_toArray,List.map_cons,List.map_nil,hx]
 simp[e]
theorem len_FD {n:Nat} (hn:n<=2000∨n=4294967295) {T:TT} {l:List (Nat×DD)} (hp:pr T=arrG n l):FD (getD T lenK):=by
 rw[arrG_len hp]
 exact⟨nf_lt hn,show 0<2^64 by decide,show 0<2^64 by decide⟩
def LnP (h:HP) (j:Nat) (q:OB) (c:Nat) (l:List (Nat×DD)) (w:World) (e:Ending) (w':World):Prop:= ∃T':TT,e= .returned (.tuple #[.bool true, .nilIface])/\pr T'=arrG c (l.filter (fun e=>decide (e.1<c)))/\T'.last<=q.T.last+2/\h.To (h.tab j q T') w w'
theorem short_h (h:HP) (j:Nat) (q:OB) (c n:Nat) (l:List (Nat×DD)) (w:World) (H:h.Is w) (hT:Tabs w) (hl:h.l.length<=65536) (hj:h.l[j]? =some q) (hp:pr q.T=arrG n l) (hi: ∀e∈l,e.1<=1000000/\e.2.c≠1) (hnd:(l.map (·.1)).Nodup) (hla:q.T.last<90000) (hll:l.length<=100000) (hc:c<=300∨c=4294967295) (hn:n<=2000∨n=4294967295):Calls prog 188 #[.agg #[], .pointer (some ⟨h.b,0,none⟩), .int .i64 ((j:Int)+1), .int .u32 (c:Nat),(lnD c).agg] w (LnP h j q c l w):=by
 have SS:=hide H.start
 rw[ln_agg]
 go_enter func188,ntmps188
 go_wp2_with (first|go_skip|((with_reducible show wpList ..);first|((refine bxE (by rfl) rfl rfl (uh SS) ?_);intro X0 B0 S0;replace SS:=hide S0;clear S0;simp only[nn])|(refine zB 53 (lnC c) (by rfl) rfl rfl rfl SS ?_;clear SS;intro Xd Bd SS;simp only[nn])|(refine z1 51 isAgg51 2 (by rfl) rfl rfl SS rfl rfl ?_;simp only[nn])))
 have hS4:Sy w _ h.blocks [hpO h,empO B0,boxO Bd (lnC c)]:=(uh SS).drew
 clear SS
 refine wp_region_held_drew (P:=prog) (S:=fun X=>X.heap[B0]? =some (Obj.cells #[] 83)/\Holds X Bd (lnC c)) (by kernel_rfl) (⟨hS4.emp 1 rfl,hS4.hold 2 rfl⟩) (fun hS0=> ?_)
 refine gq 0 (some 22) (.pointer (some ⟨B0,0,none⟩)) rfl rfl (fun X hX=>faM rfl rfl hX.1) (⟨hS4.emp 1 rfl,hS4.hold 2 rfl⟩) ?_
 simp only[nn]
 refine gq 1 (some 23) (.agg #[]) rfl rfl (fun X hX=>ldO rfl rfl) (⟨hS4.emp 1 rfl,hS4.hold 2 rfl⟩) ?_
 simp only[nn]
 refine gp 2 (some 24) (.pointer (some ⟨h.b,0,none⟩)) rfl rfl (⟨hS4.emp 1 rfl,hS4.hold 2 rfl⟩) ?_
 simp only[nn]
 refine gp 3 (some 25) (.int .i64 ((j:Int)+1)) rfl rfl (⟨hS4.emp 1 rfl,hS4.hold 2 rfl⟩) ?_
 simp only[nn]
 refine gq 5 (some 27) (.agg (lnC c).toArray) rfl rfl (fun X hX=>ex_loadN (vs:=lnC c) 53 18 rwD szD rfl rfl hX.2 rfl rfl) (⟨hS4.emp 1 rfl,hS4.hold 2 rfl⟩) ?_
 simp only[nn]
 refine gr (rs:= [4]) (gc 4 (some 26) rfl rfl (lkey_any _) ?_ gn)
 rintro e Yt1 ⟨rfl,hYt1⟩
 have hqt1:=Sy.on hS4 hYt1
 refine⟨_,rfl,⟨hqt1.emp 1 rfl,hqt1.hold 2 rfl⟩, ?_⟩
 simp only[nn]
 refine gr (rs:= [6]) (gc 6 (some 28) rfl rfl (ord_define h j q lenK (lnD c) _ (hqt1.hp 0 rfl) hl hj (hT.fr hqt1.fr H.low) lenK_ok lenK_good (len_FD hn hp) (ln_FD hc) (by omega)) ?_ gn)
 rintro e Yt2 ⟨h1,y,rfl,hP,T3⟩
 obtain⟨rfl,T1,rfl,hp1,hl1⟩:=ln_turn hp hP
 have hqp:=Sy.heap hqt1 0 rfl T3
 refine⟨_,rfl,⟨hqp.emp 1 rfl,hqp.hold 2 rfl⟩, ?_⟩
 refine gp 7 (some 21) (.tuple #[.bool true, .nilIface]) rfl rfl (⟨hqp.emp 1 rfl,hqp.hold 2 rfl⟩) ?_
 simp only[nn]
 refine gp 8 (some 29) (.bool true) rfl rfl (⟨hqp.emp 1 rfl,hqp.hold 2 rfl⟩) ?_
 simp only[nn]
 refine gp 9 (some 30) (.nilIface) rfl rfl (⟨hqp.emp 1 rfl,hqp.hold 2 rfl⟩) ?_
 simp only[nn]
 refine gp 10 (some 13) (.bool true) rfl rfl (⟨hqp.emp 1 rfl,hqp.hold 2 rfl⟩) ?_
 simp only[nn]
 refine gp 11 (some 14) (.nilIface) rfl rfl (⟨hqp.emp 1 rfl,hqp.hold 2 rfl⟩) ?_
 simp only[nn]
 refine wpAnyH_done (by kernel_rfl) ?_ _
 try simp only[nn]
 have SS:=hide hqp
 clear hqp
 go_wp2_with (first|go_skip|((with_reducible show wpList ..);first|(refine rd rfl (ldM rfl rfl) ?_;simp only[nn])))
 have HO:=cut_h (h.tab j q T1) j {q with T:=T1} c c l _ ((uh SS).hp 0 rfl) (hT.fr (uh SS).fr H.low) (by rw[tab_len];exact hl) (tab_at hj T1) (show pr T1=_ from hp1) hi hnd (by show T1.last<100000;omega) hll
 refine HO.mono ?_
 clear HO
 rintro _ Y ⟨T2,rfl,hp2,hl2,T7⟩
 replace SS:=hide ((uh SS).heap 0 rfl T7)
 clear T7
 go_wp2_with fail
 have hS8:=(uh SS).drew
 rw[tab_tab] at hS8
 replace hS8:Sy w _ h.blocks [hpO (h.tab j q T2),empO B0,boxO Bd (lnC c)]:=hS8
 clear SS
 refine wp_region_held_drew (P:=prog) (S:=fun X=>True) (by kernel_rfl) (trivial) (fun hS0=> ?_)
 refine gq 0 (some 43) (.agg #[]) rfl rfl (fun X hX=>ldM rfl rfl) (trivial) ?_
 simp only[nn]
 refine gp 1 (some 44) (.pointer (some ⟨h.b,0,none⟩)) rfl rfl (trivial) ?_
 simp only[nn]
 refine gp 2 (some 45) (.int .i64 ((j:Int)+1)) rfl rfl (trivial) ?_
 simp only[nn]
 refine gp 4 (some 47) (.int .u32 (c:Nat)) rfl rfl (trivial) ?_
 simp only[nn]
 refine gq 5 (some 48) (.float .f64 (nf c)) rfl rfl (fun X hX=>ex_nf rfl rfl) (trivial) ?_
 simp only[nn]
 refine gp 7 (some 50) (.int .i64 0) rfl rfl (trivial) ?_
 simp only[nn]
 refine gr (rs:= [3]) (gc 3 (some 46) rfl rfl (lkey_any _) ?_ gn)
 rintro e Yu1 ⟨rfl,hYu1⟩
 have hqu1:=Sy.on hS8 hYu1
 refine⟨_,rfl,trivial, ?_⟩
 simp only[nn]
 refine gr (rs:= [6]) (gc 6 (some 49) rfl rfl (num_any (nf c) _) ?_ gn)
 rintro e Yu2 ⟨rfl,hYu2⟩
 have hqu2:=Sy.on hqu1 hYu2
 refine⟨_,rfl,trivial, ?_⟩
 refine gq 8 (some 51) (.agg (lnC c).toArray) rfl rfl (fun X hX=>ex_ln rfl rfl rfl) (trivial) ?_
 simp only[nn]
 refine gr (rs:= [9]) (gc 9 (some 52) rfl rfl (lay_h (h.tab j q T2) j {q with T:=T2} lenK (lnD c) _ (hqu2.hp 0 rfl) (by rw[tab_len];exact hl) (tab_at hj T2) (hT.fr hqu2.fr H.low) lenK_ok lenK_good (len_FD (n:=c) (by omega) (show pr T2=_ from hp2)) (ln_FD hc) (by have h9:T2.last=T1.last:=hl2;show T2.last<4000000;omega)) ?_ gn)
 rintro e Yu3 ⟨h2,y2,rfl,hP2,T5⟩
 obtain⟨rfl,T4,rfl,hp4,hl4⟩:=ln_turn (q:={q with T:=T2}) (show pr T2=_ from hp2) hP2
 have hqr:=Sy.heap hqu2 0 rfl T5
 rw[tab_tab] at hqr
 refine⟨_,rfl,trivial, ?_⟩
 refine wpAnyH_done (by kernel_rfl) ?_ _
 try simp only[nn]
 have SS:=hide hqr
 clear hqr
 go_wp2
 go_ret2
 exact⟨T4,rfl,hp4,(by have:=hl4;have:=hl1;have h9:T2.last=T1.last:=hl2;omega),HP.To.end H (uh SS) rfl⟩
theorem ex_geU {o:Oper} {a:Act} {w:World} {x y:Operand} {n m:Int} {r:Bool} (ho:o.op= .binOp .geq 44 x y 44) (hx:a.eval x= .int .u32 n) (hc:a.eval y= .int .u32 m) (h:decide (m<=n)=r):(execOp a.eval o).run prog w= .ok (.value (.bool r)) w:=by
 unfold execOp
 simp only[ho,hx,hc]
 simp[go_sem,eqGuard,h]
theorem LnP.up {h:HP} {j:Nat} {q:OB} {c n:Nat} {l:List (Nat×DD)} (hlt: ∀e∈l,e.1<n) (hnc:n<=c):l.filter (fun e=>decide (e.1<c))=l:=List.filter_eq_self.2 (fun e he=>decide_eq_true (by have:=hlt e he;omega))
theorem deflen_n (h:HP) (j:Nat) (q:OB) (c n:Nat) (l:List (Nat×DD)) (w:World) (H:h.Is w) (hT:Tabs w) (hl:h.l.length<=65536) (hj:h.l[j]? =some q) (hp:pr q.T=arrG n l) (hi: ∀e∈l,e.1<=1000000/\e.2.c≠1) (hlt: ∀e∈l,e.1<n) (hnd:(l.map (·.1)).Nodup) (hla:q.T.last<90000) (hll:l.length<=100000) (hc:c<=300∨c=4294967295) (hn:n<=2000∨n=4294967295):Calls prog 185 #[.agg #[], .pointer (some ⟨h.b,0,none⟩), .int .i64 ((j:Int)+1),(lnD c).agg] w (LnP h j q c l w):=by
 have hgl:=arrG_len hp
 have hCv:Cv (getD q.T lenK).v.x n:=by rw[hgl];exact nf_cv hn
 have hw2:(getD q.T lenK).w=2:=by rw[hgl];rfl
 have SS:=hide H.start
 rw[ln_agg]
 go_enter func185,ntmps185
 go_wp2_with (first|go_skip|((with_reducible show wpList ..);first|((refine bxE (by rfl) rfl rfl (uh SS) ?_);intro X0 B0 S0;replace SS:=hide S0;clear S0;simp only[nn])|(refine zB 53 (lnC c) (by rfl) rfl rfl rfl SS ?_;clear SS;intro Xd Bd SS;simp only[nn])|(refine z1 3 isAgg3 2 (by rfl) rfl rfl SS rfl rfl ?_;simp only[nn])|(refine zL (numC (nf c)) 35 5 2 rwV szV (by rfl) rfl rfl SS rfl rfl rfl ?_;simp only[nn])))
 have HO:=aslen_n h c hc _ ((uh SS).hp 0 rfl) (hT.fr (uh SS).fr H.low)
 rw[num_agg] at HO
 refine HO.mono ?_
 clear HO
 rintro _ Y ⟨rfl,hb⟩
 replace SS:=hide ((uh SS).on hb)
 clear hb
 go_wp2_with (first|go_skip|((with_reducible show wpList ..);first|(refine rd rfl (ex_nf rfl rfl) ?_;simp only[nn])))
 have HO:=fun X=>num_any (nf c) X
 simp only[num_agg] at HO
 refine(HO _).mono ?_
 clear HO
 rintro _ Y ⟨rfl,hb⟩
 replace SS:=hide ((uh SS).on hb)
 clear hb
 go_wp2_with (first|go_skip|((with_reducible show wpList ..);first|(refine zS (hp:=(show 0+5<=18 by decide)) (numC (nf c)) 2 35 (by rfl) rfl rfl rfl rfl (oneN _) szV SS rfl ?_;clear SS;intro Xe SS;simp only[nn])|(refine rd rfl (ldM rfl rfl) ?_;simp only[nn])))
 have HO:=alen_h h j q n _ ((uh SS).hp 0 rfl) hl hj hCv hw2
 refine HO.mono ?_
 clear HO
 rintro _ Y ⟨rfl,hb⟩
 replace SS:=hide ((uh SS).on hb)
 clear hb
 replace SS:Hid (Sy w _ h.blocks [hpO h,empO B0,boxO Bd (lnC c)]):=SS
 by_cases hnc:n<=c
 ·have d1:decide ((n:Int)<=(c:Int))=true:=decide_eq_true (by omega)
  go_wp2_with (first|go_skip|((with_reducible show wpList ..);first|(refine rd rfl (ex_geU rfl rfl rfl d1) ?_;simp only[nn])))
  have hS9:Sy w _ h.blocks [hpO h,empO B0,boxO Bd (lnC c)]:=(uh SS).drew
  clear SS
  refine wp_region_held_drew (P:=prog) (S:=fun X=>X.heap[B0]? =some (Obj.cells #[] 83)/\Holds X Bd (lnC c)) (by kernel_rfl) (⟨hS9.emp 1 rfl,hS9.hold 2 rfl⟩) (fun hS0=> ?_)
  refine gq 0 (some 51) (.pointer (some ⟨B0,0,none⟩)) rfl rfl (fun X hX=>faM rfl rfl hX.1) (⟨hS9.emp 1 rfl,hS9.hold 2 rfl⟩) ?_
  simp only[nn]
  refine gq 1 (some 52) (.agg #[]) rfl rfl (fun X hX=>ldO rfl rfl) (⟨hS9.emp 1 rfl,hS9.hold 2 rfl⟩) ?_
  simp only[nn]
  refine gp 2 (some 53) (.pointer (some ⟨h.b,0,none⟩)) rfl rfl (⟨hS9.emp 1 rfl,hS9.hold 2 rfl⟩) ?_
  simp only[nn]
  refine gp 3 (some 54) (.int .i64 ((j:Int)+1)) rfl rfl (⟨hS9.emp 1 rfl,hS9.hold 2 rfl⟩) ?_
  simp only[nn]
  refine gq 5 (some 56) (.agg (lnC c).toArray) rfl rfl (fun X hX=>ex_loadN (vs:=lnC c) 53 18 rwD szD rfl rfl hX.2 rfl rfl) (⟨hS9.emp 1 rfl,hS9.hold 2 rfl⟩) ?_
  simp only[nn]
  refine gr (rs:= [4]) (gc 4 (some 55) rfl rfl (lkey_any _) ?_ gn)
  rintro e Yt1 ⟨rfl,hYt1⟩
  have hqt1:=Sy.on hS9 hYt1
  refine⟨_,rfl,⟨hqt1.emp 1 rfl,hqt1.hold 2 rfl⟩, ?_⟩
  simp only[nn]
  refine gr (rs:= [6]) (gc 6 (some 57) rfl rfl (ord_define h j q lenK (lnD c) _ (hqt1.hp 0 rfl) hl hj (hT.fr hqt1.fr H.low) lenK_ok lenK_good (len_FD hn hp) (ln_FD hc) (by omega)) ?_ gn)
  rintro e Yt2 ⟨h1,y,rfl,hP,T3⟩
  obtain⟨rfl,T1,rfl,hp1,hl1⟩:=ln_turn hp hP
  have hqp:=Sy.heap hqt1 0 rfl T3
  refine⟨_,rfl,⟨hqp.emp 1 rfl,hqp.hold 2 rfl⟩, ?_⟩
  refine gp 7 (some 58) (.bool true) rfl rfl (⟨hqp.emp 1 rfl,hqp.hold 2 rfl⟩) ?_
  simp only[nn]
  refine gp 8 (some 59) (.nilIface) rfl rfl (⟨hqp.emp 1 rfl,hqp.hold 2 rfl⟩) ?_
  simp only[nn]
  refine gp 9 (some 8) (.bool true) rfl rfl (⟨hqp.emp 1 rfl,hqp.hold 2 rfl⟩) ?_
  simp only[nn]
  refine gp 10 (some 9) (.nilIface) rfl rfl (⟨hqp.emp 1 rfl,hqp.hold 2 rfl⟩) ?_
  simp only[nn]
  refine wpAnyH_done (by kernel_rfl) ?_ _
  try simp only[nn]
  have SS:=hide hqp
  clear hqp
  go_wp2
  go_ret2
  exact⟨T1,rfl,(by rw[LnP.up (h:=h) (j:=j) (q:=q) hlt hnc];exact hp1),(by omega),HP.To.end H (uh SS) rfl⟩
 ·have d1:decide ((n:Int)<=(c:Int))=false:=decide_eq_false (by omega)
  go_wp2_with (first|go_skip|((with_reducible show wpList ..);first|(refine rd rfl (ex_geU rfl rfl rfl d1) ?_;simp only[nn])|(refine rd rfl (ldM rfl rfl) ?_;simp only[nn])|(refine zL (lnC c) 53 18 2 rwD szD (by rfl) rfl rfl SS rfl rfl rfl ?_;simp only[nn])))
  have HO:=short_h h j q c n l _ ((uh SS).hp 0 rfl) (hT.fr (uh SS).fr H.low) hl hj hp hi hnd hla hll hc hn
  rw[ln_agg] at HO
  refine HO.mono ?_
  clear HO
  rintro _ Y3 ⟨T1,rfl,hp1,hl1,T3⟩
  replace SS:=hide ((uh SS).heap 0 rfl T3)
  clear T3
  go_wp2
  go_ret2
  exact⟨T1,rfl,hp1,hl1,HP.To.end H (uh SS) rfl⟩
theorem mdef_n (h:HP) (j:Nat) (q:OB) (c n:Nat) (l:List (Nat×DD)) (w:World) (H:h.Is w) (hT:Tabs w) (hl:h.l.length<=65536) (hj:h.l[j]? =some q) (hp:pr q.T=arrG n l) (hi: ∀e∈l,e.1<=1000000/\e.2.c≠1) (hlt: ∀e∈l,e.1<n) (hnd:(l.map (·.1)).Nodup) (hla:q.T.last<90000) (hll:l.length<=100000) (hc:c<=300∨c=4294967295) (hn:n<=2000∨n=4294967295):Calls prog 183 #[.agg #[], .pointer (some ⟨h.b,0,none⟩), .int .i64 ((j:Int)+1),lenK.agg,(lnD c).agg] w (LnP h j q c l w):=by
 have SS:=hide H.start
 rw[kagg,ln_agg]
 go_enter func183,ntmps183
 go_wp2_with (first|go_skip|((with_reducible show wpList ..);first|((refine bxE (by rfl) rfl rfl (uh SS) ?_);intro X0 B0 S0;replace SS:=hide S0;clear S0;simp only[nn])|(refine zB 42 (lenK.cs) (by rfl) rfl rfl rfl SS ?_;clear SS;intro Xa Ba SS;simp only[nn])|(refine zB 53 (lnC c) (by rfl) rfl rfl rfl SS ?_;clear SS;intro Xb Bb SS;simp only[nn])))
 have hS1:Sy w _ h.blocks [hpO h,empO B0,boxO Ba lenK.cs,boxO Bb (lnC c)]:=(uh SS).drew
 clear SS
 refine wp_region_held_drew (P:=prog) (S:=fun X=>Sy w X h.blocks _) (by kernel_rfl) (hS1) (fun hS0=> ?_)
 refine gq 0 (some 14) (.agg lenK.cs.toArray) rfl rfl (fun X hX=>ex_loadN (vs:=lenK.cs) 42 2 rwK szK rfl rfl (hX.hold 2 rfl) rfl rfl) (hS1) ?_
 simp only[nn]
 refine gr (rs:= [1]) (gcB 1 (some 15) rfl rfl hS1 (lkey_any _) id ?_ gn)
 intro Yt1 hqt1
 refine gq 2 (some 16) (.bool true) rfl rfl (fun X hX=>ex_eqL rfl rfl rfl) (hqt1) ?_
 simp only[nn]
 refine wpAnyH_done (by kernel_rfl) ?_ _
 try simp only[nn]
 have SS:=hide hqt1
 go_wp2_with (first|go_skip|((with_reducible show wpList ..);first|(refine rd rfl (ldM rfl rfl) ?_;simp only[nn])|(refine zL (lnC c) 53 18 3 rwD szD (by rfl) rfl rfl SS rfl rfl rfl ?_;simp only[nn])))
 have HO:=deflen_n h j q c n l _ ((uh SS).hp 0 rfl) (hT.fr (uh SS).fr H.low) hl hj hp hi hlt hnd hla hll hc hn
 rw[ln_agg] at HO
 refine HO.mono ?_
 clear HO
 rintro _ Y3 ⟨T1,rfl,hp1,hl1,T3⟩
 replace SS:=hide ((uh SS).heap 0 rfl T3)
 clear T3
 go_wp2
 go_ret2
 exact⟨T1,rfl,hp1,hl1,HP.To.end H (uh SS) rfl⟩
def LnQ (h:HP) (j:Nat) (q:OB) (c:Nat) (l:List (Nat×DD)) (h1:HP) (y:Bool) (er:Value):Prop:=y=true/\er= .nilIface/\ ∃T':TT,h1=(h.tab j q T').less/\pr T'=arrG c (l.filter (fun e=>decide (e.1<c)))/\T'.last<=q.T.last+2
theorem endef_n (h:HP) (j:Nat) (q:OB) (c n:Nat) (l:List (Nat×DD)) (w:World) (H:h.Is w) (hT:Tabs w) (K:h.Ok) (hj:h.l[j]? =some q) (hp:pr q.T=arrG n l) (hi: ∀e∈l,e.1<=1000000/\e.2.c≠1) (hlt: ∀e∈l,e.1<n) (hnd:(l.map (·.1)).Nodup) (hla:q.T.last<90000) (hll:l.length<=100000) (hc:c<=300∨c=4294967295) (hn:n<=2000∨n=4294967295) (hf:h.fuel≠0) (hd:h.ent≠h.depth):Calls prog 44 #[.pointer (some ⟨h.b,0,none⟩), .int .i64 ((j:Int)+1),lenK.agg,(lnD c).agg] w fun e w'=> ∃(h1:HP) (y:Bool) (er:Value),e= .returned (.tuple #[.bool y,er])/\LnQ h j q c l h1 y er/\h.To h1 w w':=by
 refine(enDefineOwnProperty_n h j q lenK (lnD c) (fun h1 y er=>LnQ h j q c l h1.out y er) w H K hj hf hd ?_).mono ?_
 ·intro X T1
  refine(mdef_n h.inn j q c n l X T1.is (T1.tabs H hT) K.len hj hp hi hlt hnd hla hll hc hn).mono ?_
  rintro _ Y ⟨T',rfl,hpr,hla2,T2⟩
  exact⟨_,true, .nilIface,rfl,⟨rfl,rfl,T',by unfold HP.tab HP.out HP.inn HP.less;simp,hpr,hla2⟩,rfl,T2⟩
 ·rintro _ Y ⟨h1,y,er,rfl,hP,T2⟩
  exact⟨_,y,er,rfl,hP,T2⟩
theorem known_ln (n c:Nat):knownE n [(lnD c).v,(lnD c).g,(lnD c).s]=0:=by simp[knownE,knownV,lnD,numV,zeroV]
theorem acc_ln (c:Nat):accE [(lnD c).g,(lnD c).s]=0:=by simp[accE,noRef,lnD,zeroV]
theorem chk_ln (c:Nat):chkV (lnD c)=0:=by unfold chkV;rw[ln_kind];rfl
theorem th_ok {h:HP} {j:Nat} {q:OB} (hj:h.l[j]? =some q):thE ((j:Int)+1) h.l.length=0:=by
 have hlt:=(List.getElem?_eq_some_iff.1 hj).1
 unfold thE hasH
 rw[if_pos (by simp;omega)]
theorem ddef_n (h:HP) (j:Nat) (q:OB) (c n:Nat) (l:List (Nat×DD)) (w:World) (H:h.Is w) (hT:Tabs w) (K:h.Ok) (hj:h.l[j]? =some q) (hp:pr q.T=arrG n l) (hi: ∀e∈l,e.1<=1000000/\e.2.c≠1) (hlt: ∀e∈l,e.1<n) (hnd:(l.map (·.1)).Nodup) (hla:q.T.last<90000) (hll:l.length<=100000) (hc:c<=300∨c=4294967295) (hn:n<=2000∨n=4294967295) (hf:h.fuel≠0) (hd:h.ent≠h.depth):Calls prog 15 #[.pointer (some ⟨h.b,0,none⟩), .int .i64 ((j:Int)+1),lenK.agg,(lnD c).agg] w fun e w'=> ∃T':TT,e= .returned (.tuple #[.bool true, .nilIface])/\pr T'=arrG c (l.filter (fun e=>decide (e.1<c)))/\T'.last<=q.T.last+2/\h.To (h.tab j q T').less w w':=by
 refine(dorDefineOwnProperty h ((j:Int)+1) lenK (lnD c) w H K.len hT (ln_FD hc) (LnQ h j q c l) ?_).mono ?_
 ·intro j' q' X ho hj' _ T1
  obtain rfl:j=j':=by omega
  obtain rfl:q=q':=Option.some.inj (hj.symm.trans hj')
  refine(endef_n h j q c n l X T1.is (T1.tabs H hT) K hj hp hi hlt hnd hla hll hc hn hf hd).mono ?_
  exact fun e Y hh=>hh
 ·rintro _ Y ⟨h1,y,er,rfl,hP,T1⟩
  have hz:orE [thE ((j:Int)+1) h.l.length,kErr lenK,chkV (lnD c),knownE h.l.length [(lnD c).v,(lnD c).g,(lnD c).s],accE [(lnD c).g,(lnD c).s]]=0:=by
   have h2:kErr lenK=0:=by unfold kErr;rw[lenK_good];rfl
   rw[th_ok hj,h2,chk_ln,known_ln,acc_ln]
   rfl
  rcases hP with ⟨h0,_⟩|⟨_,rfl,rfl,T',rfl,hpr,hla2⟩
  ·exact absurd hz h0
  ·exact⟨T',rfl,hpr,hla2,T1⟩
theorem or_new (m n:Nat):orE [checkE m nullV,0,belE (n:Int)]=0:=by
 rw[null_check]
 have:belE (n:Int)=0:=by unfold belE;rw[if_neg (by omega)]
 rw[this]
 rfl
theorem ex_gtL {o:Oper} {a:Act} {w:World} {x y:Operand} {n m:Int} {r:Bool} (ho:o.op= .binOp .gtr 2 x y 2) (hx:a.eval x= .int .i64 n) (hy:a.eval y= .int .i64 m) (h:decide (m<n)=r):(execOp a.eval o).run prog w= .ok (.value (.bool r)) w:=by
 unfold execOp
 simp only[ho,hx,hy]
 simp[go_sem,eqGuard,h]
theorem ex_c64 {o:Oper} {a:Act} {w:World} {x:Operand} {n:Nat} (ho:o.op= .convert 2 44 x) (hx:a.eval x= .int .i64 (n:Nat)) (hn:n<=4294967295):(execOp a.eval o).run prog w= .ok (.value (.int .u32 (n:Nat))) w:=by
 have e:IntKind.u32.wrap (n:Int)=(n:Int):=by
  rw[IntKind.wrap_u32]
  omega
 unfold execOp
 simp only[ho,hx]
 simp[go_sem,e]
theorem anew_h (h:HP) (n:Nat) (w:World) (H:h.Is w) (hT:Tabs w) (hl:h.l.length<=65535) (hroom:orE [checkE h.l.length nullV,protoE nullV,roomE h]=0) (hn:n<=2000):Calls prog 25 #[.pointer (some ⟨h.b,0,none⟩),nullV.agg, .int .i64 (n:Nat)] w fun e w'=> ∃(gv:Value) (q:OB),e= .returned (.tuple #[.int .i64 ((h.l.length:Int)+1), .nilIface])/\q.c=3/\q.p=nullV/\q.x=true/\pr q.T= [(lenK,lenD n)]/\q.T.last<=1/\h.To (h.more gv q) w w':=by
 have SS:=hide H.start
 rw[show nullV.agg= .agg nullV.cs.toArray from rfl]
 go_enter func25,ntmps25
 go_wp2_with (first|go_skip|((with_reducible show wpList ..);first|(refine zB 35 (nullV.cs) (by rfl) rfl rfl rfl SS ?_;clear SS;intro Xa Ba SS;simp only[nn])))
 have hS1:Sy w _ h.blocks [hpO h,boxO Ba nullV.cs]:=(uh SS).drew
 clear SS
 refine wp_region_held_drew (P:=prog) (S:=fun X=>Sy w X h.blocks _) (by kernel_rfl) (hS1) (fun hS0=> ?_)
 refine gp 0 (some 9) (.pointer (some ⟨h.b,0,none⟩)) rfl rfl (hS1) ?_
 simp only[nn]
 refine gq 1 (some 10) (.agg nullV.cs.toArray) rfl rfl (fun X hX=>ex_loadN (vs:=nullV.cs) 35 5 rwV szV rfl rfl (hX.hold 1 rfl) rfl rfl) (hS1) ?_
 simp only[nn]
 refine gq 3 (some 12) (.agg nullV.cs.toArray) rfl rfl (fun X hX=>ex_loadN (vs:=nullV.cs) 35 5 rwV szV rfl rfl (hX.hold 1 rfl) rfl rfl) (hS1) ?_
 simp only[nn]
 refine gp 5 (some 14) (.int .i64 (n:Nat)) rfl rfl (hS1) ?_
 simp only[nn]
 refine gr (rs:= [2]) (gcB 2 (some 11) rfl rfl hS1 (check_h h nullV _ (hS1.hp 0 rfl) (hT.fr hS1.fr H.low).1) id ?_ gn)
 intro Yt1 hqt1
 simp only[nn]
 refine gr (rs:= [4]) (gcB 4 (some 13) rfl rfl hqt1 (aproto_null _) id ?_ gn)
 intro Yt2 hqt2
 simp only[nn]
 refine gr (rs:= [6]) (gcW 6 (some 15) rfl rfl (hqt2) (below_any (n:Int) _) ?_ gn)
 simp only[nn]
 refine gr (rs:= [7]) (gbsS 7 (some 16) rfl rfl (by kernel_rfl) (ex_bsE3 rfl rfl rfl rfl) (Nat.succ_pos _) hqt2 (fun _ hZ=>Sy.left (L:= [_,_]) (M:= [_]) hZ) ?_ gn)
 intro Yt4 Bt4 hEt4 hqt4
 clear hEt4
 simp only[nn]
 refine gr (rs:= [8]) (gcW 8 (some 17) rfl rfl (Sy.left (L:= [_,_]) (M:= [_]) hqt4) (or_any Bt4 3 [checkE h.l.length nullV,0,belE (n:Int)] _ (hqt4.hold 2 rfl) (by simp)) ?_ gn)
 refine gp 9 (some 8) (.int .i64 (orE [checkE h.l.length nullV,0,belE (n:Int)])) rfl rfl (Sy.left (L:= [_,_]) (M:= [_]) hqt4) ?_
 simp only[nn]
 refine wpAnyH_done (by kernel_rfl) ?_ _
 try simp only[nn]
 have SS:=hide (Sy.left (L:= [hpO h,boxO Ba nullV.cs]) (M:= [boxO Bt4 (ints [checkE h.l.length nullV,0,belE (n:Int)])]) hqt4)
 rw[or_new]
 have d1:decide ((4294967295:Int)<(n:Int))=false:=decide_eq_false (by omega)
 go_wp2_with (first|go_skip|((with_reducible show wpList ..);first|(refine rd rfl (ex_gtL rfl rfl rfl d1) ?_;simp only[nn])|(refine zL (nullV.cs) 35 5 1 rwV szV (by rfl) rfl rfl SS rfl rfl rfl ?_;simp only[nn])|(refine rd rfl (ex_c64 rfl rfl (by omega)) ?_;simp only[nn])))
 have HC:=aadd_h h nullV n _ ((uh SS).hp 0 rfl) (hT.fr (uh SS).fr H.low) hl hroom (.inl hn)
 rw[show nullV.agg= .agg nullV.cs.toArray from rfl] at HC
 refine HC.mono ?_
 clear HC
 rintro _ Y ⟨gv,q,rfl,a1,a2,a3,a4,a5,T1⟩
 replace SS:=hide ((uh SS).heap 0 rfl T1)
 have hb1:(h.more gv q).b=h.b:=T1.hb
 have HA:=hide (And.intro a1 (And.intro a2 (And.intro a3 (And.intro a4 a5))))
 clear T1 a1 a2 a3 a4 a5
 go_wp2
 go_ret2
 exact⟨gv,q,rfl,(uh HA).1,(uh HA).2.1,(uh HA).2.2.1,(uh HA).2.2.2.1,(uh HA).2.2.2.2,HP.To.end H (uh SS) hb1⟩
theorem has_no (h:HP) (j:Nat) (q:OB) (k:KK) (w:World) (H:h.Is w) (hl:h.l.length<=65536) (hj:h.l[j]? =some q) (hk:OkK k) (hfi:q.T.find k=none) (hpk:q.p.k≠7):Calls prog 151 #[.agg #[], .pointer (some ⟨h.b,0,none⟩), .int .i64 ((j:Int)+1),k.agg] w fun e w'=>e= .returned (.tuple #[.bool false, .nilIface])/\h.To h w w':=by
 have SS:=hide H.start
 rw[kagg]
 go_enter func151,ntmps151
 go_wp2_with (first|go_skip|((with_reducible show wpList ..);first|((refine bx0 81 (by rfl) rfl rfl (uh SS) ?_);intro X0 B0 S0;replace SS:=hide S0;clear S0;simp only[nn])|(refine zB 42 (k.cs) (by rfl) rfl rfl rfl SS ?_;clear SS;intro Xa Ba SS;simp only[nn])|(refine zL (k.cs) 42 2 1 rwK szK (by rfl) rfl rfl SS rfl rfl rfl ?_;simp only[nn])))
 refine(own_h h j q k _ ((uh SS).hp 0 rfl) hl hj hk).mono ?_
 rintro _ Y1 ⟨rfl,hb1⟩
 replace SS:=hide ((uh SS).on hb1)
 clear hb1
 rw[hfi]
 go_wp2_with (first|go_skip|((with_reducible show wpList ..);first|(refine zA 53 (zeroD.cs) (by rfl) rfl SS ?_;clear SS;intro Xb Bb SS;simp only[nn])|(refine zS ((getD q.T k).cs) 2 53 (by rfl) rfl rfl rfl rfl (oneD _) szD SS rfl ?_;clear SS;intro Xz SS;simp only[nn])))
 refine(at_h h j q _ ((uh SS).hp 0 rfl) hj hl).mono ?_
 rintro _ _ ⟨rfl,rfl⟩
 have HO:=hide (((uh SS).hp 0 rfl).ob hj).1
 go_wp2_with (first|go_skip|((with_reducible show wpList ..);first|(refine rd rfl (ex_loadN (vs:=q.p.cs) 35 5 rwV szV rfl rfl (uh HO) rfl rfl) ?_;simp only[nn])|(refine zA 35 (zeroV.cs) (by rfl) rfl SS ?_;clear SS;intro Xc Bc SS;simp only[nn])|(refine zS (q.p.cs) 3 35 (by rfl) rfl rfl rfl rfl (oneV _) szV SS rfl ?_;clear SS;intro Xy SS;simp only[nn])|(refine rd rfl (ex_load1 3 isAgg3 rfl rfl ((uh SS).hold 3 rfl) rfl) ?_;simp only[nn])|(refine zL (k.cs) 42 2 1 rwK szK (by rfl) rfl rfl SS rfl rfl rfl ?_;simp only[nn])|(refine rd rfl (ex_neN rfl rfl rfl hpk) ?_;simp only[nn])))
 go_ret2
 exact⟨rfl,HP.To.end H (uh SS) rfl⟩
theorem read_d (h:HP) (d:DD) (r:VV) (w:World) (h0:d.g.k=0):Calls prog 155 #[.pointer (some ⟨h.b,0,none⟩),d.agg,r.agg] w fun e w'=>e= .returned (.tuple #[d.v.agg, .nilIface])/\Below w.heap.size w w':=by
 have SS:=hide (Sy.nil w [])
 rw[dagg,vagg]
 go_enter func155,ntmps155
 go_wp2_with (first|go_skip|((with_reducible show wpList ..);first|(refine zB 53 (d.cs) (by rfl) rfl rfl rfl SS ?_;clear SS;intro Xa Ba SS;simp only[nn])|(refine zB 35 (r.cs) (by rfl) rfl rfl rfl SS ?_;clear SS;intro Xb Bb SS;simp only[nn])|(refine zA 35 (zeroV.cs) (by rfl) rfl SS ?_;clear SS;intro Xc Bc SS;simp only[nn])|(refine zL (d.cs) 53 18 0 rwD szD (by rfl) rfl rfl SS rfl rfl rfl ?_;simp only[nn])))
 refine(acc_any d _).mono ?_
 rintro _ Y1 ⟨rfl,hb1⟩
 replace SS:=hide ((uh SS).on hb1)
 clear hb1
 rw[show (d.g.k !=0)=false by simp[h0]]
 go_wp2_with (first|go_skip|((with_reducible show wpList ..);first|(refine rd rfl (ex_loadN (vs:=d.v.cs) 35 5 rwV szV rfl rfl ((uh SS).hold 0 rfl) rfl rfl) ?_;simp only[nn])|(refine zS (d.v.cs) 2 35 (by rfl) rfl rfl rfl rfl (oneV _) szV SS rfl ?_;clear SS;intro Xz SS;simp only[nn])))
 refine bodyPost_ret (res_ct rwV szV rfl rfl rfl ((uh SS).hold 2 rfl) rfl) rfl ?_
 exact⟨rfl,(uh SS).fr.below⟩
theorem get_d (h:HP) (j:Nat) (q:OB) (k:KK) (r:VV) (w:World) (H:h.Is w) (hl:h.l.length<=65536) (hj:h.l[j]? =some q) (hk:OkK k) (hfi:(q.T.find k).isSome=true) (h0:(getD q.T k).g.k=0):Calls prog 150 #[.agg #[], .pointer (some ⟨h.b,0,none⟩), .int .i64 ((j:Int)+1),k.agg,r.agg] w fun e w'=>e= .returned (.tuple #[(getD q.T k).v.agg, .nilIface])/\h.To h w w':=by
 have SS:=hide H.start
 rw[kagg,vagg]
 go_enter func150,ntmps150
 go_wp2_with (first|go_skip|((with_reducible show wpList ..);first|((refine bx0 81 (by rfl) rfl rfl (uh SS) ?_);intro X0 B0 S0;replace SS:=hide S0;clear S0;simp only[nn])|(refine zB 42 (k.cs) (by rfl) rfl rfl rfl SS ?_;clear SS;intro Xa Ba SS;simp only[nn])|(refine zB 35 (r.cs) (by rfl) rfl rfl rfl SS ?_;clear SS;intro Xr Br SS;simp only[nn])|(refine zA 35 (zeroV.cs) (by rfl) rfl SS ?_;clear SS;intro Xv Bv SS;simp only[nn])|(refine zL (k.cs) 42 2 1 rwK szK (by rfl) rfl rfl SS rfl rfl rfl ?_;simp only[nn])))
 refine(own_h h j q k _ ((uh SS).hp 0 rfl) hl hj hk).mono ?_
 rintro _ Y1 ⟨rfl,hb1⟩
 replace SS:=hide ((uh SS).on hb1)
 clear hb1
 rw[hfi]
 go_wp2_with (first|go_skip|((with_reducible show wpList ..);first|(refine zA 53 (zeroD.cs) (by rfl) rfl SS ?_;clear SS;intro Xb Bb SS;simp only[nn])|(refine zS ((getD q.T k).cs) 4 53 (by rfl) rfl rfl rfl rfl (oneD _) szD SS rfl ?_;clear SS;intro Xz SS;simp only[nn])|(refine zL ((getD q.T k).cs) 53 18 4 rwD szD (by rfl) rfl rfl SS rfl rfl rfl ?_;simp only[nn])|(refine zL (r.cs) 35 5 2 rwV szV (by rfl) rfl rfl SS rfl rfl rfl ?_;simp only[nn])))
 have HO:=read_d h (getD q.T k) r Xz h0
 rw[dagg,vagg] at HO
 refine HO.mono ?_
 clear HO
 rintro _ Y2 ⟨rfl,hb2⟩
 replace SS:=hide ((uh SS).on hb2)
 clear hb2
 rw[vagg]
 go_wp2_with (first|go_skip|((with_reducible show wpList ..);first|(refine zS ((getD q.T k).v.cs) 3 35 (by rfl) rfl rfl rfl rfl (oneV _) szV SS rfl ?_;clear SS;intro Xy SS;simp only[nn])))
 refine bodyPost_ret (res_ct rwV szV rfl rfl rfl ((uh SS).hold 3 rfl) rfl) rfl ?_
 exact⟨rfl,HP.To.end H (uh SS) rfl⟩
theorem dget_d (h:HP) (j:Nat) (q:OB) (k:KK) (r:VV) (w:World) (H:h.Is w) (hT:Tabs w) (K:h.Ok) (hj:h.l[j]? =some q) (hk:goodK k=true) (hr:r.good=true) (hrk:knownE h.l.length [r]=0) (hfi:(q.T.find k).isSome=true) (h0:(getD q.T k).g.k=0) (hf:h.fuel≠0) (hd:h.ent≠h.depth):Calls prog 12 #[.pointer (some ⟨h.b,0,none⟩), .int .i64 ((j:Int)+1),k.agg,r.agg] w fun e w'=>e= .returned (.tuple #[(getD q.T k).v.agg, .nilIface])/\h.To h.less w w':=by
 refine(dorGet h ((j:Int)+1) k r w H K.len hT (fun h1 V er=>V=(getD q.T k).v/\er= .nilIface/\h1=h.less) ?_).mono ?_
 ·intro j' q' X ho hj' _ T1
  obtain rfl:j=j':=by omega
  obtain rfl:q=q':=Option.some.inj (hj.symm.trans hj')
  refine(enGet_n h j q k r (fun h1 V er=>V=(getD q.T k).v/\er= .nilIface/\h1=h.inn) X T1.is K hj hf hd ?_).mono ?_
  ·intro Y T2
   refine(get_d h.inn j q k r Y T2.is K.len hj (good_ok hk) hfi h0).mono ?_
   rintro _ Z ⟨rfl,T3⟩
   exact⟨_,_,_,rfl,⟨rfl,rfl,rfl⟩,rfl,T3⟩
  ·rintro _ Z ⟨h1,V,er,rfl,⟨rfl,rfl,rfl⟩,T3⟩
   refine⟨_,_,_,rfl,⟨rfl,rfl,rfl⟩, ?_⟩
   rw[inn_out] at T3
   exact T3
 ·rintro _ Z ⟨h1,V,er,rfl,hP,T3⟩
  have hz:orE [thE ((j:Int)+1) h.l.length,kErr k,soundE [r],knownE h.l.length [r]]=0:=by
   have h2:kErr k=0:=by unfold kErr;rw[hk];rfl
   have h3:soundE [r]=0:=by unfold soundE;simp[hr]
   rw[th_ok hj,h2,h3,hrk]
   rfl
  rcases hP with ⟨h9,_⟩|⟨_,rfl,rfl,rfl⟩
  ·exact absurd hz h9
  ·exact⟨rfl,T3⟩
theorem dhas_no (h:HP) (j:Nat) (q:OB) (k:KK) (w:World) (H:h.Is w) (hT:Tabs w) (K:h.Ok) (hj:h.l[j]? =some q) (hk:goodK k=true) (hfi:q.T.find k=none) (hpk:q.p.k≠7) (hf:h.fuel≠0) (hd:h.ent≠h.depth):Calls prog 26 #[.pointer (some ⟨h.b,0,none⟩), .int .i64 ((j:Int)+1),k.agg] w fun e w'=>e= .returned (.tuple #[.bool false, .nilIface])/\h.To h.less w w':=by
 refine(dorHasProperty h ((j:Int)+1) k w H K.len hT (fun h1 y er=>y=false/\er= .nilIface/\h1=h.less) ?_).mono ?_
 ·intro j' q' X ho hj' _ T1
  obtain rfl:j=j':=by omega
  obtain rfl:q=q':=Option.some.inj (hj.symm.trans hj')
  refine(enHasProperty_n h j q k (fun h1 y er=>y=false/\er= .nilIface/\h1=h.inn) X T1.is K hj hf hd ?_).mono ?_
  ·intro Y T2
   refine(has_no h.inn j q k Y T2.is K.len hj (good_ok hk) hfi hpk).mono ?_
   rintro _ Z ⟨rfl,T3⟩
   exact⟨_,_,_,rfl,⟨rfl,rfl,rfl⟩,rfl,T3⟩
  ·rintro _ Z ⟨h1,V,er,rfl,⟨rfl,rfl,rfl⟩,T3⟩
   refine⟨_,_,_,rfl,⟨rfl,rfl,rfl⟩, ?_⟩
   rw[inn_out] at T3
   exact T3
 ·rintro _ Z ⟨h1,V,er,rfl,hP,T3⟩
  have hz:orE [thE ((j:Int)+1) h.l.length,kErr k]=0:=by
   have h2:kErr k=0:=by unfold kErr;rw[hk];rfl
   rw[th_ok hj,h2]
   rfl
  rcases hP with ⟨h9,_⟩|⟨_,rfl,rfl,rfl⟩
  ·exact absurd hz h9
  ·exact⟨rfl,T3⟩
theorem ownK_to {h h':HP} {Y Z:World} {base:Nat} {V:Value} {l:List KK} (hO:OwnK Y base V l) (T:h.To h' Y Z) (hb: ∀b∈h.blocks,b<base):OwnK Z base V l:=
 hO.block (fun g hg=>T.fr.block g (hO.own g hg).2 (fun hm=>by have:=hb g hm;have:=(hO.own g hg).1;omega))
theorem keys_en (h:HP) (j:Nat) (q:OB) (w:World) (H:h.Is w) (K:h.Ok) (hj:h.l[j]? =some q) (hT:Tabs w) (hla:q.T.last<4000000) (hlv:q.T.live.length<=1500000) (hf:h.fuel≠0) (hd:h.ent≠h.depth):Calls prog 45 #[.pointer (some ⟨h.b,0,none⟩), .int .i64 ((j:Int)+1)] w fun e w'=> ∃V,e= .returned (.tuple #[V, .nilIface])/\OwnK w' w.heap.size V (ordK ((pr q.T).map (·.1)))/\h.To h.less w w':=by
 have SS:=hide H.start
 have HC:=hide (fun (X:World) (TX:h.To h.inn w X)=>ord_keys h.inn j q X TX.is K.len hj (TX.tabs H hT) hla hlv)
 rw[show h.inn.b=h.b from rfl] at HC
 have HB:=hide H.lt
 generalize ordK ((pr q.T).map (·.1))=KS at *
 have hE0:0<=h.ent+1/\h.ent+1<=100000001:=by have:=K.e0;have:=K.e1;have:=K.d1;omega
 clear hla hlv hT
 go_enter_defers func45,ntmps45
 go_wp2_with fail
 refine(enter_n h j q _ ((uh SS).hp 0 rfl) K hj hf hd).mono ?_
 rintro _ Y1 ⟨rfl,T1⟩
 replace SS:=hide ((uh SS).heap 0 rfl T1)
 clear T1
 unfold ordM
 go_wp2_with fail
 refine(uh HC _ (HP.To.end H (uh SS) rfl)).mono ?_
 rintro _ Y2 ⟨V,rfl,hO,hb2⟩
 have hO2:=OwnK.mono hO (uh SS).fr.size
 have HO2:=hide hO2
 replace SS:=hide ((uh SS).on hb2)
 clear hb2 hO hO2
 go_wp2
 refine leaves_cons (f:=63) (args:= #[.pointer (some ⟨h.b,0,none⟩)]) (by simp) (by simp[go_sem]) ?_
 have HL:=leave_d h.inn .returning _ ((uh SS).hp 0 rfl) hE0
 refine HL.mono ?_
 rintro e u2 w2 ⟨rfl,rfl,T3⟩
 replace SS:=hide ((uh SS).heap 0 rfl T3)
 have hK:=ownK_to (uh HO2) T3 (uh HB)
 rw[inn_out] at SS
 exact⟨_,results_tmp2 rfl _ _ _,V,rfl,hK,HP.To.end H (uh SS) rfl⟩
theorem dkeys_h (h:HP) (j:Nat) (q:OB) (w:World) (H:h.Is w) (hT:Tabs w) (K:h.Ok) (hj:h.l[j]? =some q) (hlast:q.T.last<4000000) (hlv:q.T.live.length<=1500000) (hf:h.fuel≠0) (hd:h.ent≠h.depth):Calls prog 18 #[.pointer (some ⟨h.b,0,none⟩), .int .i64 ((j:Int)+1)] w fun e w'=> ∃v,e= .returned (.tuple #[v, .nilIface])/\OwnK w' w.heap.size v (ordK ((pr q.T).map (·.1)))/\h.To h.less w w':=by
 have SS:=hide H.start
 have HK:=fun (X:World) (TX:h.To h w X)=>keys_en h j q X TX.is K hj (TX.tabs H hT) hlast hlv hf hd
 have HTH:=fun (X:World) (hX:h.Is X)=>there_h h ((j:Int)+1) X hX
 rw[th_ok hj] at HTH
 generalize ordK ((pr q.T).map (·.1))=KS at *
 go_enter func18,ntmps18
 go_wp2_with fail
 refine(HTH _ ((uh SS).hp 0 rfl)).mono ?_
 rintro _ _ ⟨rfl,rfl⟩
 go_wp2_with fail
 refine(HK _ (HP.To.end H (uh SS) rfl)).mono ?_
 rintro _ Y9 ⟨V,rfl,hO,T9⟩
 have HO2:=hide (OwnK.mono hO (uh SS).fr.size)
 replace SS:=hide ((uh SS).heap 0 rfl T9)
 clear T9 hO
 go_wp2
 go_ret2
 exact⟨V,rfl,uh HO2,HP.To.end H (uh SS) rfl⟩
def elD:DD:=⟨numV 4619567317775286272,zeroV,zeroV,0,0,2⟩
def elC:List Value:=numC 4619567317775286272++zeroV.cs++zeroV.cs++ [.int .i64 0, .int .i64 0, .int .i64 2]
def elF:DD:=⟨numV 4619567317775286272,zeroV,zeroV,1,1,2⟩
theorem el_agg:elD.agg= .agg elC.toArray:=rfl
theorem el_FD:FD elD:=by unfold FD elD;decide
theorem el_shape:shapeV elD=2:=by simp[shapeV,elD,num_th,zero_th]
theorem el_kind:kindV elD=2:=by
 have hs:soundV elD=true:=by simp[soundV,elD,num_th,num_good,callV,zero_th,triV,zeroV];simp[thV]
 unfold kindV
 rw[hs,el_shape]
 rfl
theorem app_el:appB true zeroD elD=true/\appD true zeroD elD=elF:=by
 have hst:stV zeroD=true:=by unfold stV;rw[no_zero];rfl
 refine⟨?_, ?_⟩
 ·unfold appB
  rw[el_kind,hst,no_zero]
  rfl
 ·unfold appD
  rw[el_kind,hst,no_zero]
  show fillV elD=elF
  unfold fillV
  rw[el_shape]
  simp[orV,orT,elD,elF,num_th]
theorem el_none {T:TT} (hp:pr T=arrG 3 []):T.find (idxK 5)=none:=by
 have h1:hasP (pr T) (idxK 5)=false:=by rw[hp,arrG_has];rfl
 rw[pr_has] at h1
 simpa using h1
theorem el_turn {h h1:HP} {j:Nat} {q:OB} {y:Bool} (hp:pr q.T=arrG 3 []) (hx:q.x=true) (hP:DefP h j q (idxK 5) elD h1 y):y=true/\ ∃T':TT,h1=h.tab j q T'/\pr T'=arrG 3 [(5,elF)]/\T'.last<=q.T.last+1:=by
 have hg:getD q.T (idxK 5)=zeroD:=by unfold getD;rw[el_none hp];rfl
 unfold DefP at hP
 rw[hg,hx,app_el.1,app_el.2] at hP
 obtain⟨rfl,hP⟩:=hP
 rcases hP with ⟨h0,_⟩|⟨_,T',rfl,hl,hpr⟩
 ·cases h0
 ·refine⟨rfl,T',rfl, ?_,hl⟩
  rw[hpr,hp]
  unfold putP
  rw[if_neg (by rw[arrG_has];simp)]
  rfl
theorem ex_add5 {o:Oper} {a:Act} {w:World} {x y:Operand} (ho:o.op= .binOp .add 44 x y 44) (hx:a.eval x= .int .u32 5) (hy:a.eval y= .int .u32 1):(execOp a.eval o).run prog w= .ok (.value (.int .u32 6)) w:=by
 unfold execOp
 simp only[ho,hx,hy]
 kernel_rfl
theorem ex_eq5 {o:Oper} {a:Act} {w:World} {x y:Operand} (ho:o.op= .binOp .eql 42 x y 42) (hx:a.eval x= .agg (idxK 5).cs.toArray) (hy:a.eval y=lenK.agg):(execOp a.eval o).run prog w= .ok (.value (.bool false)) w:=by
 unfold execOp
 simp only[ho,hx,hy]
 kernel_rfl
theorem ex_nf6 {o:Oper} {a:Act} {w:World} {x:Operand} (ho:o.op= .convert 44 33 x) (hx:a.eval x= .int .u32 6):(execOp a.eval o).run prog w= .ok (.value (.float .f64 (nf 6))) w:=ex_nf (n:=6) ho hx
def ElP (h:HP) (j:Nat) (q:OB) (w:World) (e:Ending) (w':World):Prop:= ∃T':TT,e= .returned (.tuple #[.bool true, .nilIface])/\pr T'=arrG 6 [(5,elF)]/\T'.last<=q.T.last+2/\h.To (h.tab j q T') w w'
theorem elt_h (h:HP) (j:Nat) (q:OB) (w:World) (H:h.Is w) (hT:Tabs w) (hl:h.l.length<=65536) (hj:h.l[j]? =some q) (hp:pr q.T=arrG 3 []) (hx:q.x=true) (hla:q.T.last<90000):Calls prog 186 #[.agg #[], .pointer (some ⟨h.b,0,none⟩), .int .i64 ((j:Int)+1), .int .u32 5,elD.agg] w (ElP h j q w):=by
 have hgl:=arrG_len hp
 have hCv:Cv (getD q.T lenK).v.x 3:=by rw[hgl];exact nf_cv (n:=3) (.inl (by omega))
 have hw2:(getD q.T lenK).w=2:=by rw[hgl];rfl
 have hFn:FD (getD q.T (idxK 5)):=by unfold getD;rw[el_none hp];exact zero_FD
 have SS:=hide H.start
 rw[el_agg]
 go_enter func186,ntmps186
 go_wp2_with (first|go_skip|((with_reducible show wpList ..);first|((refine bxE (by rfl) rfl rfl (uh SS) ?_);intro X0 B0 S0;replace SS:=hide S0;clear S0;simp only[nn])|(refine zB 53 (elC) (by rfl) rfl rfl rfl SS ?_;clear SS;intro Xd Bd SS;simp only[nn])|(refine rd rfl (ldM rfl rfl) ?_;simp only[nn])))
 have HO:=alen_h h j q 3 _ ((uh SS).hp 0 rfl) hl hj hCv hw2
 refine HO.mono ?_
 clear HO
 rintro _ Y ⟨rfl,hb⟩
 replace SS:=hide ((uh SS).on hb)
 clear hb
 go_wp2_with fail
 have hS4:Sy w _ h.blocks [hpO h,empO B0,boxO Bd elC]:=(uh SS).drew
 clear SS
 refine wp_region_held_drew (P:=prog) (S:=fun X=>X.heap[B0]? =some (Obj.cells #[] 83)/\Holds X Bd elC) (by kernel_rfl) (⟨hS4.emp 1 rfl,hS4.hold 2 rfl⟩) (fun hS0=> ?_)
 refine gq 0 (some 31) (.pointer (some ⟨B0,0,none⟩)) rfl rfl (fun X hX=>faM rfl rfl hX.1) (⟨hS4.emp 1 rfl,hS4.hold 2 rfl⟩) ?_
 simp only[nn]
 refine gq 1 (some 32) (.agg #[]) rfl rfl (fun X hX=>ldO rfl rfl) (⟨hS4.emp 1 rfl,hS4.hold 2 rfl⟩) ?_
 simp only[nn]
 refine gp 2 (some 33) (.pointer (some ⟨h.b,0,none⟩)) rfl rfl (⟨hS4.emp 1 rfl,hS4.hold 2 rfl⟩) ?_
 simp only[nn]
 refine gp 3 (some 34) (.int .i64 ((j:Int)+1)) rfl rfl (⟨hS4.emp 1 rfl,hS4.hold 2 rfl⟩) ?_
 simp only[nn]
 refine gp 4 (some 35) (.int .u32 5) rfl rfl (⟨hS4.emp 1 rfl,hS4.hold 2 rfl⟩) ?_
 simp only[nn]
 refine gq 6 (some 37) (.agg elC.toArray) rfl rfl (fun X hX=>ex_loadN (vs:=elC) 53 18 rwD szD rfl rfl hX.2 rfl rfl) (⟨hS4.emp 1 rfl,hS4.hold 2 rfl⟩) ?_
 simp only[nn]
 refine gr (rs:= [5]) (gc 5 (some 36) rfl rfl (fromIndex32 5 (by decide) _ (hT.fr hS4.fr H.low).2) ?_ gn)
 rintro e Yt1 ⟨rfl,hYt1⟩
 have hqt1:=Sy.on hS4 hYt1
 refine⟨_,rfl,⟨hqt1.emp 1 rfl,hqt1.hold 2 rfl⟩, ?_⟩
 simp only[nn]
 refine gr (rs:= [7]) (gc 7 (some 38) rfl rfl (ord_define h j q (idxK 5) elD _ (hqt1.hp 0 rfl) hl hj (hT.fr hqt1.fr H.low) (idx_ok (by decide)) (idx_good (by decide)) hFn el_FD (by omega)) ?_ gn)
 rintro e Yt2 ⟨h1,y,rfl,hP,T3⟩
 obtain⟨rfl,T1,rfl,hp1,hl1⟩:=el_turn hp hx hP
 have hqp:=Sy.heap hqt1 0 rfl T3
 refine⟨_,rfl,⟨hqp.emp 1 rfl,hqp.hold 2 rfl⟩, ?_⟩
 refine gp 8 (some 30) (.tuple #[.bool true, .nilIface]) rfl rfl (⟨hqp.emp 1 rfl,hqp.hold 2 rfl⟩) ?_
 simp only[nn]
 refine gp 9 (some 39) (.bool true) rfl rfl (⟨hqp.emp 1 rfl,hqp.hold 2 rfl⟩) ?_
 simp only[nn]
 refine gp 10 (some 40) (.nilIface) rfl rfl (⟨hqp.emp 1 rfl,hqp.hold 2 rfl⟩) ?_
 simp only[nn]
 refine gp 11 (some 14) (.bool true) rfl rfl (⟨hqp.emp 1 rfl,hqp.hold 2 rfl⟩) ?_
 simp only[nn]
 refine gp 12 (some 15) (.nilIface) rfl rfl (⟨hqp.emp 1 rfl,hqp.hold 2 rfl⟩) ?_
 simp only[nn]
 refine wpAnyH_done (by kernel_rfl) ?_ _
 try simp only[nn]
 have SS:=hide hqp
 clear hqp
 go_wp2_with fail
 have hS8:Sy w _ h.blocks [hpO (h.tab j q T1),empO B0,boxO Bd elC]:=(uh SS).drew
 clear SS
 refine wp_region_held_drew (P:=prog) (S:=fun X=>True) (by kernel_rfl) (trivial) (fun hS0=> ?_)
 refine gq 0 (some 51) (.agg #[]) rfl rfl (fun X hX=>ldM rfl rfl) (trivial) ?_
 simp only[nn]
 refine gp 1 (some 52) (.pointer (some ⟨h.b,0,none⟩)) rfl rfl (trivial) ?_
 simp only[nn]
 refine gp 2 (some 53) (.int .i64 ((j:Int)+1)) rfl rfl (trivial) ?_
 simp only[nn]
 refine gp 4 (some 55) (.int .u32 5) rfl rfl (trivial) ?_
 simp only[nn]
 refine gq 5 (some 56) (.int .u32 6) rfl rfl (fun X hX=>ex_add5 rfl rfl rfl) (trivial) ?_
 simp only[nn]
 refine gq 6 (some 57) (.float .f64 (nf 6)) rfl rfl (fun X hX=>ex_nf6 rfl rfl) (trivial) ?_
 simp only[nn]
 refine gr (rs:= [3]) (gc 3 (some 54) rfl rfl (lkey_any _) ?_ gn)
 rintro e Yu1 ⟨rfl,hYu1⟩
 have hqu1:=Sy.on hS8 hYu1
 refine⟨_,rfl,trivial, ?_⟩
 simp only[nn]
 refine gr (rs:= [7]) (gc 7 (some 58) rfl rfl (num_any (nf 6) _) ?_ gn)
 rintro e Yu2 ⟨rfl,hYu2⟩
 have hqu2:=Sy.on hqu1 hYu2
 refine⟨_,rfl,trivial, ?_⟩
 refine gq 8 (some 59) (.agg (lnC 6).toArray) rfl rfl (fun X hX=>ex_ln1 rfl rfl) (trivial) ?_
 simp only[nn]
 refine gr (rs:= [9]) (gc 9 (some 60) rfl rfl (lay_h (h.tab j q T1) j {q with T:=T1} lenK (lnD 6) _ (hqu2.hp 0 rfl) (by rw[tab_len];exact hl) (tab_at hj T1) (hT.fr hqu2.fr H.low) lenK_ok lenK_good (len_FD (n:=3) (.inl (by omega)) (show pr T1=_ from hp1)) (ln_FD (.inl (by omega))) (by show T1.last<4000000;omega)) ?_ gn)
 rintro e Yu3 ⟨h2,y2,rfl,hP2,T5⟩
 obtain⟨rfl,T4,rfl,hp4,hl4⟩:=ln_turn (q:={q with T:=T1}) (show pr T1=_ from hp1) hP2
 have hqr:=Sy.heap hqu2 0 rfl T5
 rw[tab_tab] at hqr
 refine⟨_,rfl,trivial, ?_⟩
 refine wpAnyH_done (by kernel_rfl) ?_ _
 try simp only[nn]
 have SS:=hide hqr
 clear hqr
 go_wp2
 go_ret2
 exact⟨T4,rfl,hp4,(by have:=hl4;have:=hl1;show T4.last<=_;have h9:T4.last<=T1.last+1:=hl4;omega),HP.To.end H (uh SS) rfl⟩
theorem mdef_e (h:HP) (j:Nat) (q:OB) (w:World) (H:h.Is w) (hT:Tabs w) (hl:h.l.length<=65536) (hj:h.l[j]? =some q) (hp:pr q.T=arrG 3 []) (hx:q.x=true) (hla:q.T.last<90000):Calls prog 183 #[.agg #[], .pointer (some ⟨h.b,0,none⟩), .int .i64 ((j:Int)+1),(idxK 5).agg,elD.agg] w (ElP h j q w):=by
 have SS:=hide H.start
 rw[kagg,el_agg]
 go_enter func183,ntmps183
 go_wp2_with (first|go_skip|((with_reducible show wpList ..);first|((refine bxE (by rfl) rfl rfl (uh SS) ?_);intro X0 B0 S0;replace SS:=hide S0;clear S0;simp only[nn])|(refine zB 42 ((idxK 5).cs) (by rfl) rfl rfl rfl SS ?_;clear SS;intro Xa Ba SS;simp only[nn])|(refine zB 53 (elC) (by rfl) rfl rfl rfl SS ?_;clear SS;intro Xb Bb SS;simp only[nn])))
 have hS1:Sy w _ h.blocks [hpO h,empO B0,boxO Ba (idxK 5).cs,boxO Bb elC]:=(uh SS).drew
 clear SS
 refine wp_region_held_drew (P:=prog) (S:=fun X=>Sy w X h.blocks _) (by kernel_rfl) (hS1) (fun hS0=> ?_)
 refine gq 0 (some 14) (.agg (idxK 5).cs.toArray) rfl rfl (fun X hX=>ex_loadN (vs:=(idxK 5).cs) 42 2 rwK szK rfl rfl (hX.hold 2 rfl) rfl rfl) (hS1) ?_
 simp only[nn]
 refine gr (rs:= [1]) (gcB 1 (some 15) rfl rfl hS1 (lkey_any _) id ?_ gn)
 intro Yt1 hqt1
 refine gq 2 (some 16) (.bool false) rfl rfl (fun X hX=>ex_eq5 rfl rfl rfl) (hqt1) ?_
 simp only[nn]
 refine wpAnyH_done (by kernel_rfl) ?_ _
 try simp only[nn]
 have SS:=hide hqt1
 go_wp2_with (first|go_skip|((with_reducible show wpList ..);first|(refine z1 9 isAgg9 2 (by rfl) rfl rfl SS rfl rfl ?_;simp only[nn])))
 have HO:=fun X=>index34 (idxK 5).s (idx_size (by decide)) X
 rw[ix_idx (i:=5) (by decide)] at HO
 refine(HO _).mono ?_
 clear HO
 rintro _ Y ⟨rfl,hY⟩
 subst hY
 go_wp2_with (first|go_skip|((with_reducible show wpList ..);first|(refine rd rfl (ldM rfl rfl) ?_;simp only[nn])|(refine zL (elC) 53 18 3 rwD szD (by rfl) rfl rfl SS rfl rfl rfl ?_;simp only[nn])))
 have HO:=elt_h h j q _ ((uh SS).hp 0 rfl) (hT.fr (uh SS).fr H.low) hl hj hp hx hla
 rw[el_agg] at HO
 refine HO.mono ?_
 clear HO
 rintro _ Y3 ⟨T1,rfl,hp1,hl1,T3⟩
 replace SS:=hide ((uh SS).heap 0 rfl T3)
 clear T3
 go_wp2
 go_ret2
 exact⟨T1,rfl,hp1,hl1,HP.To.end H (uh SS) rfl⟩
def ElQ (h:HP) (j:Nat) (q:OB) (h1:HP) (y:Bool) (er:Value):Prop:=y=true/\er= .nilIface/\ ∃T':TT,h1=(h.tab j q T').less/\pr T'=arrG 6 [(5,elF)]/\T'.last<=q.T.last+2
theorem endef_e (h:HP) (j:Nat) (q:OB) (w:World) (H:h.Is w) (hT:Tabs w) (K:h.Ok) (hj:h.l[j]? =some q) (hp:pr q.T=arrG 3 []) (hx:q.x=true) (hla:q.T.last<90000) (hf:h.fuel≠0) (hd:h.ent≠h.depth):Calls prog 44 #[.pointer (some ⟨h.b,0,none⟩), .int .i64 ((j:Int)+1),(idxK 5).agg,elD.agg] w fun e w'=> ∃(h1:HP) (y:Bool) (er:Value),e= .returned (.tuple #[.bool y,er])/\ElQ h j q h1 y er/\h.To h1 w w':=by
 refine(enDefineOwnProperty_n h j q (idxK 5) elD (fun h1 y er=>ElQ h j q h1.out y er) w H K hj hf hd ?_).mono ?_
 ·intro X T1
  refine(mdef_e h.inn j q X T1.is (T1.tabs H hT) K.len hj hp hx hla).mono ?_
  rintro _ Y ⟨T',rfl,hpr,hla2,T2⟩
  exact⟨_,true, .nilIface,rfl,⟨rfl,rfl,T',by unfold HP.tab HP.out HP.inn HP.less;simp,hpr,hla2⟩,rfl,T2⟩
 ·rintro _ Y ⟨h1,y,er,rfl,hP,T2⟩
  exact⟨_,y,er,rfl,hP,T2⟩
theorem known_el (n:Nat):knownE n [elD.v,elD.g,elD.s]=0:=by simp[knownE,knownV,elD,numV,zeroV]
theorem acc_el:accE [elD.g,elD.s]=0:=by simp[accE,noRef,elD,zeroV]
theorem chk_el:chkV elD=0:=by unfold chkV;rw[el_kind];rfl
theorem ddef_e (h:HP) (j:Nat) (q:OB) (w:World) (H:h.Is w) (hT:Tabs w) (K:h.Ok) (hj:h.l[j]? =some q) (hp:pr q.T=arrG 3 []) (hx:q.x=true) (hla:q.T.last<90000) (hf:h.fuel≠0) (hd:h.ent≠h.depth):Calls prog 15 #[.pointer (some ⟨h.b,0,none⟩), .int .i64 ((j:Int)+1),(idxK 5).agg,elD.agg] w fun e w'=> ∃T':TT,e= .returned (.tuple #[.bool true, .nilIface])/\pr T'=arrG 6 [(5,elF)]/\T'.last<=q.T.last+2/\h.To (h.tab j q T').less w w':=by
 refine(dorDefineOwnProperty h ((j:Int)+1) (idxK 5) elD w H K.len hT el_FD (ElQ h j q) ?_).mono ?_
 ·intro j' q' X ho hj' _ T1
  obtain rfl:j=j':=by omega
  obtain rfl:q=q':=Option.some.inj (hj.symm.trans hj')
  refine(endef_e h j q X T1.is (T1.tabs H hT) K hj hp hx hla hf hd).mono ?_
  exact fun e Y hh=>hh
 ·rintro _ Y ⟨h1,y,er,rfl,hP,T1⟩
  have hz:orE [thE ((j:Int)+1) h.l.length,kErr (idxK 5),chkV elD,knownE h.l.length [elD.v,elD.g,elD.s],accE [elD.g,elD.s]]=0:=by
   have h2:kErr (idxK 5)=0:=by unfold kErr;rw[idx_good (by decide)];rfl
   rw[th_ok hj,h2,chk_el,known_el,acc_el]
   rfl
  rcases hP with ⟨h0,_⟩|⟨_,rfl,rfl,T',rfl,hpr,hla2⟩
  ·exact absurd hz h0
  ·exact⟨T',rfl,hpr,hla2,T1⟩
theorem lnum (e:Int) (w:World):Calls prog 7 #[.int .i64 e] w fun r w'=>r= .returned (.int .i64 e)/\w'=w:=by
 go_enter func7,ntmps7
 go_wp2
 go_ret
 exact⟨rfl,rfl⟩
theorem ex_bK {o:Oper} {a:Act} {w:World} {x:Operand} {b:ByteArray} (ho:o.op= .build 42 #[(0,x)]) (hx:a.eval x= .string b):(execOp a.eval o).run prog w= .ok (.value (.agg (KK.mk b 0).cs.toArray)) w:=by
 have e:(Instr.build 42 #[(0, .string b)]).run prog w= .ok (.agg (KK.mk b 0).cs.toArray) w:=by kernel_rfl
 unfold execOp
 simp only[ho,List.map_toArray,List.map_cons,List.map_nil,hx]
 simp[e]
theorem lstr (b:ByteArray) (w:World):Calls prog 16 #[.string b] w fun e w'=>e= .returned ((KK.mk b 0).agg)/\Below w.heap.size w w':=by
 have SS:=hide (Sy.nil w [])
 go_enter func16,ntmps16
 go_wp2_with (first|go_skip|((with_reducible show wpList ..);first|(refine zA 42 (zeroK.cs) (by rfl) rfl SS ?_;clear SS;intro Xa Ba SS;simp only[nn])|(refine rd rfl (ex_bK rfl rfl) ?_;simp only[nn])|(refine zS ((KK.mk b 0).cs) 0 42 (by rfl) rfl rfl rfl rfl (oneK _) szK SS rfl ?_;clear SS;intro Xb SS;simp only[nn])))
 refine ret_c rwK szK rfl rfl rfl ((uh SS).hold 0 rfl) rfl ?_
 exact⟨rfl,(uh SS).fr.below⟩
theorem null_any (w:World):Calls prog 9 #[] w fun e w'=>e= .returned (nullV.agg)/\Below w.heap.size w w':=by
 have SS:=hide (Sy.nil w [])
 go_enter func9,ntmps9
 go_wp2_with (first|go_skip|((with_reducible show wpList ..);first|(refine zA 35 (zeroV.cs) (by rfl) rfl SS ?_;clear SS;intro Xa Ba SS;simp only[nn])))
 refine(outside2 _).mono ?_
 rintro _ Y1 ⟨rfl,hb1⟩
 replace SS:=hide ((uh SS).on hb1)
 clear hb1
 rw[vagg]
 go_wp2_with (first|go_skip|((with_reducible show wpList ..);first|(refine zS (nullV.cs) 0 35 (by rfl) rfl rfl rfl rfl (oneV _) szV SS rfl ?_;clear SS;intro Xz SS;simp only[nn])))
 refine ret_c rwV szV rfl rfl rfl ((uh SS).hold 0 rfl) rfl ?_
 exact⟨rfl,(uh SS).fr.below⟩
def refV (i:Int):VV:=⟨7,false,0,ByteArray.empty,i⟩
theorem checked_ok (v:VV) (hg:v.good=true) (w:World) (hT:Lib.Utf8Tabs 4 5 w):Calls prog 34 #[v.agg] w fun e w'=>e= .returned (v.agg)/\Below w.heap.size w w':=by
 have SS:=hide (Sy.nil w [])
 have HT:=hide hT
 clear hT
 have HI:=fun X h=>inside_good v hg X h
 have HO:=fun X=>outside_any v hg X
 clear hg
 generalize v.ifc=f at HI HO
 simp only[vagg] at HI HO ⊢
 go_enter func34,ntmps34
 go_wp2_with (first|go_skip|((with_reducible show wpList ..);first|(refine zB 35 (v.cs) (by rfl) rfl rfl rfl SS ?_;clear SS;intro Xa Ba SS;simp only[nn])|(refine zA 35 (zeroV.cs) (by rfl) rfl SS ?_;clear SS;intro Xb Bb SS;simp only[nn])|(refine zL (v.cs) 35 5 0 rwV szV (by rfl) rfl rfl SS rfl rfl rfl ?_;simp only[nn])))
 refine(HI _ (tabs_below (uh HT) (uh SS).fr.below)).mono ?_
 rintro _ Y1 ⟨rfl,hb1⟩
 replace SS:=hide ((uh SS).on hb1)
 clear hb1
 go_wp2_with fail
 refine(HO _).mono ?_
 rintro _ Y2 ⟨rfl,hb2⟩
 replace SS:=hide ((uh SS).on hb2)
 clear hb2
 go_wp2_with (first|go_skip|((with_reducible show wpList ..);first|(refine zS (v.cs) 1 35 (by rfl) rfl rfl rfl rfl (oneV _) szV SS rfl ?_;clear SS;intro Xz SS;simp only[nn])))
 refine ret_c rwV szV rfl rfl rfl ((uh SS).hold 1 rfl) rfl ?_
 exact⟨rfl,(uh SS).fr.below⟩
theorem ex_bRef {o:Oper} {a:Act} {w:World} {x:Operand} {i:Int} (ho:o.op= .build 35 #[(0, .const (.int .i64 7)),(4,x)]) (hx:a.eval x= .int .i64 i):(execOp a.eval o).run prog w= .ok (.value (.agg (refV i).cs.toArray)) w:=by
 have e:(Instr.build 35 #[(0, .int .i64 7),(4, .int .i64 i)]).run prog w= .ok (.agg (refV i).cs.toArray) w:=by kernel_rfl
 unfold execOp
 simp only[ho,List.map_toArray,List.map_cons,List.map_nil,hx]
 simp[e,Act.eval]
theorem ref_good:(refV 1).good=true:=by
 simp[VV.good,goodV,strV,refV,inG]
theorem ref_any (w:World) (hT:Lib.Utf8Tabs 4 5 w):Calls prog 11 #[.int .i64 1] w fun e w'=>e= .returned ((refV 1).agg)/\Below w.heap.size w w':=by
 have SS:=hide (Sy.nil w [])
 have HT:=hide hT
 clear hT
 have HC:=fun X h=>checked_ok (refV 1) ref_good X h
 simp only[vagg] at HC ⊢
 go_enter func11,ntmps11
 go_wp2_with (first|go_skip|((with_reducible show wpList ..);first|(refine zA 35 (zeroV.cs) (by rfl) rfl SS ?_;clear SS;intro Xa Ba SS;simp only[nn])|(refine rd rfl (ex_bRef rfl rfl) ?_;simp only[nn])))
 refine(HC _ (tabs_below (uh HT) (uh SS).fr.below)).mono ?_
 rintro _ Y1 ⟨rfl,hb1⟩
 replace SS:=hide ((uh SS).on hb1)
 clear hb1
 go_wp2_with (first|go_skip|((with_reducible show wpList ..);first|(refine zS ((refV 1).cs) 0 35 (by rfl) rfl rfl rfl rfl (oneV _) szV SS rfl ?_;clear SS;intro Xz SS;simp only[nn])))
 refine ret_c rwV szV rfl rfl rfl ((uh SS).hold 0 rfl) rfl ?_
 exact⟨rfl,(uh SS).fr.below⟩
structure AH (h:HP) (q:OB) (F:Int):Prop where
 l:h.l= [q]
 c:q.c=3
 f:h.fuel=F
 d:h.depth=5
 e:h.ent=0
theorem AH.ok {h:HP} {q:OB} {F:Int} (A:AH h q F) (h0:0<=F) (h1:F<=10000):h.Ok:=by
 refine⟨by rw[A.l];show 1<=65536;decide,by rw[A.f];exact h0,by rw[A.f];omega,by rw[A.e];decide,by rw[A.e,A.d];decide,by rw[A.d];decide⟩
theorem AH.at0 {h:HP} {q:OB} {F:Int} (A:AH h q F):h.l[0]? =some q:=by rw[A.l];rfl
theorem AH.tab {h:HP} {q:OB} {F:Int} (A:AH h q F) (T':TT):AH (h.tab 0 q T').less {q with T:=T'} (F - 1):=by
 refine⟨?_,A.c, ?_,A.d,A.e⟩
 ·show h.l.set 0 _=_
  rw[A.l]
  rfl
 ·show h.fuel - 1=F - 1
  rw[A.f]
theorem AH.less {h:HP} {q:OB} {F:Int} (A:AH h q F):AH h.less q (F - 1):=⟨A.l,A.c,by show h.fuel - 1=F - 1;rw[A.f],A.d,A.e⟩
theorem AH.fu {h:HP} {q:OB} {F:Int} (A:AH h q F) (h0:0<F):h.fuel≠0:=by rw[A.f];omega
theorem AH.dp {h:HP} {q:OB} {F:Int} (A:AH h q F):h.ent≠h.depth:=by rw[A.e,A.d];decide
theorem new_ah (B0:Nat) (F:Int) (gv:Value) (q:OB) (h3:q.c=3):AH ((newHP B0 1 F 5).more gv q) q F:=⟨rfl,h3,rfl,rfl,rfl⟩
theorem new_room (B0:Nat) (F:Int):orE [checkE (newHP B0 1 F 5).l.length nullV,protoE nullV,roomE (newHP B0 1 F 5)]=0:=by
 rw[null_check]
 simp[protoE,nullV,roomE,newHP,orE]
theorem newF (F:Int) (hF:0<=F) (w:World) (h6:6<=w.heap.size):Calls prog 6 #[.int .i64 1, .int .i64 F, .int .i64 5] w fun e w'=> ∃B,e= .returned (.tuple #[.pointer (some ⟨B,0,none⟩), .int .i64 0])/\(newHP B 1 F 5).Is w'/\w.heap.size<=B/\Below w.heap.size w w':=by
 refine(new_h 1 F 5 w h6).mono ?_
 intro e X hN
 rcases hN with ⟨h0,_⟩|⟨_,h⟩
 ·exfalso
  unfold newBad at h0
  simp at h0
  omega
 ·exact h
theorem new_sy {w X:World} {B:Nat} {F:Int} (hI:(newHP B 1 F 5).Is X) (hB:w.heap.size<=B) (hb:Below w.heap.size w X):Sy w X [] [hpO (newHP B 1 F 5)]:=
 (Sy.nil w []).add (hpO_ok _) hI hb (fun b h=>by
  have:b=B:=by simpa [hpO,new_blocks] using h
  omega)
theorem k5:(KK.mk ⟨#[53]⟩ 0)=idxK 5:=by kernel_rfl
theorem keyL:(KK.mk ⟨#[108,101,110,103,116,104]⟩ 0)=lenK:=rfl
theorem nf2:nf 2=4611686018427387904:=by kernel_rfl
theorem ex_el {o:Oper} {a:Act} {w:World} {x y:Operand} (ho:o.op= .build 53 #[(0,x),(5,y)]) (hx:a.eval x=(numV 4619567317775286272).agg) (hy:a.eval y= .int .i64 2):(execOp a.eval o).run prog w= .ok (.value (.agg elC.toArray)) w:=by
 have e:(Instr.build 53 #[(0,(numV 4619567317775286272).agg),(5, .int .i64 2)]).run prog w= .ok (.agg elC.toArray) w:=by kernel_rfl
 unfold execOp
 simp only[ho,List.map_toArray,List.map_cons,List.map_nil,hx,hy]
 simp[e]
theorem ex_lnB {o:Oper} {a:Act} {w:World} {x:Operand} {b c:Nat} (hb:nf c=b) (ho:o.op= .build 53 #[(0,x)]) (hx:a.eval x=(numV b).agg):(execOp a.eval o).run prog w= .ok (.value (.agg (lnC c).toArray)) w:=by
 subst hb
 exact ex_ln1 ho hx
theorem arr6:([(5,elF)]:List (Nat×DD)).filter (fun e=>decide (e.1<2))= []:=rfl
theorem none5 {T:TT} {n:Nat} (hp:pr T=arrG n []):T.find (idxK 5)=none:=by
 have h1:hasP (pr T) (idxK 5)=false:=by rw[hp,arrG_has];rfl
 rw[pr_has] at h1
 simpa using h1
theorem len_cv {T:TT} {n:Nat} {l:List (Nat×DD)} (hp:pr T=arrG n l) (hn:n<=2000∨n=4294967295):Cv (getD T lenK).v.x n/\(getD T lenK).w=2:=by
 rw[arrG_len hp]
 exact⟨nf_cv hn,rfl⟩
