import Derived.Test.YthjnflilfjcgiaaGreatFmtQu
import Derived.Test.YthjnflilfjcgiaaGreatFmtQv
set_option linter.all false
namespace Go.Proofs.YthjnflilfjcgiaaGreatFmt
set_option maxRecDepth 100000
set_option maxHeartbeats 0
section
open Go Go.Proofs Go.RowKit Tryz
theorem append_fresh (w:World) (base:Nat) (t ty e:TypeId) (i:TypeInfo) (z:Value) (size bytes:Nat) (ht:prog.underlying t=some (.slice e)) (hi:prog.info? e=some i) (hz:i.zero=some z)
  (hsize:i.size=size) (hby:i.bytes=bytes) (hzs:z.cells.size=size) (hsz:0<size) (v:Value) (n:Nat) (xs:List Value) (hown:w.ownsRow base e size v n xs)
  (a:Addr) (m c:Nat) (news:List Value) (hl:news.length=m * size) (hnews: ∀j u,news[j]? =some u->w.cell? (a.add j)=some u) (h1: ∀u∈news,u.oneCell'=true)
  (h63:n+m<=maxLen) (hbytes:(n+m) * bytes<=140737488355328) (hbase:base<=w.heap.size):
  ∃v' w',(Builtin.append_ #[t,t] ty #[v, .slice (some a) m c]).run prog w= .ok v' w'/\w'.ownsRow base e size v' (n+m) (xs++news)/\w.grownBy w' v.ownBlock/\(v'.ownBlock=v.ownBlock∨v'.ownBlock=some w.heap.size):=by
 obtain⟨v',w',hr,ho,hg,hiff⟩:=run_append_own w base t ty e i z size bytes ht hi hz hsize hby hzs hsz v n xs hown a m c news hl hnews h1 h63 hbytes hbase
 refine⟨v',w',hr,ho,hg, ?_⟩
 have hm:n+m<=9223372036854775807:=by simp only[maxLen] at h63;omega
 have inj: ∀{v2:Value} {w2:World},(Builtin.append_ #[t,t] ty #[v, .slice (some a) m c]).run prog w= .ok v2 w2->v'=v2:=fun h2=>by
  rw[hr] at h2
  injection h2
 subst hsize
 subst hby
 rcases hown.2 with ⟨rfl,rfl⟩|⟨g,cap,cur,rfl,hbg,hgg,hnc,hcm,hcs,htake⟩
 ·by_cases h0:m=0
  ·exact Or.inl (by rw[hiff.2 ⟨rfl,h0⟩])
  ·right
   have hb:=hbytes
   rw[Nat.zero_add] at hb
   rw[inj (run_append_nil w t ty e i z ht hi hz a m c news hl hnews (by omega) (by omega) (by omega))]
   rfl
 ·by_cases hroom:n+m<=cap
  ·left
   have hfit:n * i.size+news.length<=cur.size:=by rw[hl,hcs,←Nat.add_mul];exact Nat.mul_le_mul_right _ hroom
   rw[inj (run_append_room w t ty e i ht hi g n cap cur hgg a m c news hl hnews h1 hroom hfit)]
   rfl
  ·right
   rw[inj (run_append_grow w t ty e i z ht hi hz ⟨g,0,none⟩ n cap xs hown.1 (hown.cells (g:=g) rfl) a m c news hl hnews (by omega) (by omega) (growslice_fits (by omega) hbytes))]
   rfl
def Fresh (w:World) (v v':Value):Prop:=v'.ownBlock=v.ownBlock∨v'.ownBlock=some w.heap.size
section
variable {ops : Array Oper} {rest : List Oper} {o : Oper} {a : Act} {w : World} {Q : Exit → Act → World → Prop} {s x : Operand} {base : Nat} {l m : List KK} {v u : Value}
theorem wp_append_kf {K:Act->World->Prop} (ho:o.op= .call {callee:= .builtin .append,args:= #[s,x],argTypes:= #[54,54]}) (hs:a.eval s=v) (hx:a.eval x=u) (hown:OwnK w base v l) (hu:ReadsK w u m) (hcap: ∀c,u= .slice none 0 c->c=0)
  (hn:l.length+m.length<=6000000) (hbase:base<=w.heap.size)
  (h: ∀v' w',OwnK w' base v' (l++m)->w.grownBy w' v.ownBlock->Fresh w v v'->K (a.put o.dst v') w'):o.wp prog a w K Q:=by
 obtain⟨i0,hi,hz0,hz1,hz2⟩:=info_parts info23w
 have main: ∀ad c,u= .slice (some ad) m.length c->(∀j u,(flatK m)[j]? =some u->w.cell? (ad.add j)=some u)->o.wp prog a w K Q:=fun ad c hu' hc=>by
  obtain⟨v',w',hrun,h1,h2,h3⟩:=append_fresh w base 54 o.type 42 i0 _ 2 24 underlying54 hi hz0 hz1 hz2 rfl (by decide) v l.length (flatK l) hown ad m.length c (flatK m) (flatK_length m) hc (flatK_cell m) (by unfold maxLen;omega) (by omega) hbase
  have hK:=h v' w' (by unfold OwnK;rw[flatK_append,List.length_append];exact h1) h2 h3
  subst hu'
  unfold Oper.wp
  simp[execOp,ho,resolve,invoke,builtin,hs,hx,hrun,Result.andThen]
  exact hK
 rcases hu with ⟨A,c,rfl,rfl⟩|⟨b,off,cap,rfl,hlt,hc⟩
 ·cases A with
  |none=>
   obtain rfl:=hcap c rfl
   have hrun:=run_append_owned_none (P:=prog) (w:=w) base 54 o.type 42 i0 2 underlying54 hi v l.length (flatK l) hown
   have hK:=h v w (by simpa using hown) ⟨rfl,rfl,rfl,Nat.le_refl _,fun _ _ _=>rfl⟩ (Or.inl rfl)
   unfold Oper.wp
   simp[execOp,ho,resolve,invoke,builtin,hs,hx,hrun,Result.andThen]
   exact hK
  |some ad=>exact main ad c rfl (fun j u hu=>by simp[flatK] at hu)
 ·exact main _ cap rfl (fun j u hu=>by
   have:=rowsK_iff.1 hc j u hu
   by_cases e:j=0
   ·subst e;simpa [Addr.add] using this
   ·simpa [Addr.add,e] using this)
theorem append_kf (hgd:o.guard=none) (ho:o.op= .call {callee:= .builtin .append,args:= #[s,x],argTypes:= #[54,54]}) (hs:a.eval s=v) (hx:a.eval x=u) (hown:OwnK w base v l) (hu:ReadsK w u m) (hcap: ∀c,u= .slice none 0 c->c=0)
  (hn:l.length+m.length<=6000000) (hbase:base<=w.heap.size)
  (h: ∀v' w',OwnK w' base v' (l++m)->w.grownBy w' v.ownBlock->Fresh w v v'->wpList prog ops Q rest (a.put o.dst v') w'):wpList prog ops Q (o::rest) a w:=
 wpList_plain hgd fun _ hK=>wp_append_kf ho hs hx hown hu hcap hn hbase (fun v' w' h1 h2 h3=>hK _ _ (h v' w' h1 h2 h3))
def OwnU (w:World) (base:Nat) (v:Value) (d:List Nat):Prop:=w.ownsRow base 44 1 v d.length (d.map encU)
theorem info41w:(prog.info? 44).map (fun i=>(i.zero,i.size,i.bytes))=some (some (.int .u32 0),1,4):=by kernel_rfl
theorem append_uf {d:List Nat} {n:Nat} {B:Nat} (hgd:o.guard=none) (ho:o.op= .call {callee:= .builtin .append,args:= #[s,x],argTypes:= #[236,236]}) (hs:a.eval s=v) (hx:a.eval x= .slice (some ⟨B,0,none⟩) 1 1) (hown:OwnU w base v d) (hB:w.cell? ⟨B,0,none⟩=some (.int .u32 (n:Nat)))
  (hn:d.length<=6000000) (hbase:base<=w.heap.size)
  (h: ∀v' w',OwnU w' base v' (d++ [n])->w.grownBy w' v.ownBlock->Fresh w v v'->wpList prog ops Q rest (a.put o.dst v') w'):wpList prog ops Q (o::rest) a w:=by
 obtain⟨i0,hi,hz0,hz1,hz2⟩:=info_parts info41w
 refine wpList_plain hgd fun K hK=> ?_
 obtain⟨v',w',hrun,h1,h2,h3⟩:=append_fresh w base 236 o.type 44 i0 _ 1 4 underlying236 hi hz0 hz1 hz2 rfl (by decide) v d.length (d.map encU) hown ⟨B,0,none⟩ 1 1 [.int .u32 (n:Nat)] rfl (fun j u hj=>by
  obtain rfl:j=0:=by
   have:=(List.getElem?_eq_some_iff.1 hj).1
   simpa using this
  have e:Value.int .u32 (n:Nat)=u:=by simpa using hj
  subst e
  simpa [Addr.add] using hB) (fun u hu=>by
  obtain rfl:u= .int .u32 (n:Nat):=by simpa using hu
  rfl) (by unfold maxLen;omega) (by omega) hbase
 have hP:=hK _ _ (h v' w' (by unfold OwnU;rw[List.length_append,List.map_append];exact h1) h2 h3)
 unfold Oper.wp
 simp[execOp,ho,resolve,invoke,builtin,hs,hx,hrun,Result.andThen]
 exact hP
theorem kbuildU {n:Nat} (hw:Region.wanted o (yielded ops a.tmps)=true) (ho:o.op= .buildSlice 236 1 #[(0,x)]) (hx:a.eval x= .int .u32 (n:Nat))
  (h: ∀X,X.cell? ⟨w.heap.size,0,none⟩=some (.int .u32 (n:Nat))->X.heap.size=w.heap.size+1->Below w.heap.size w X->wpList prog ops Q rest (a.put o.dst (.slice (some ⟨w.heap.size,0,none⟩) 1 1)) X):wpList prog ops Q (o::rest) a w:=by
 refine BigFrame.wpList_want hw fun K hK=> ?_
 obtain⟨i0,hi,hz0,hz1,hz2⟩:=info_parts info41w
 refine wp_buildSlice 236 44 1 _ ho #[.int .u32 (n:Nat)] i0 _ underlying236 hi hz0 (by rw[hz1];decide) (by rw[hz1];decide) ?_ (hK _ _ (h _ (by simp[go_sem]) (by simp) ((Below.refl _ _).alloc (Nat.le_refl _) _)))
 rw[hz1]
 simp only[List.map_toArray,List.map_cons,List.map_nil,hx]
 kernel_rfl
end
theorem OwnU.own {w:World} {base:Nat} {v:Value} {l:List Nat} (h:OwnU w base v l): ∀g,v.ownBlock=some g->base<=g/\g<w.heap.size:=World.ownsRow.lt h
theorem OwnU.block {w w':World} {base:Nat} {v:Value} {l:List Nat} (h:OwnU w base v l) (he: ∀g,v.ownBlock=some g->w'.heap[g]? =w.heap[g]?):OwnU w' base v l:=by
 refine⟨h.1, ?_⟩
 rcases h.2 with h|⟨g',c',cur,rfl,h1,h2,h3⟩
 ·exact .inl h
 ·exact .inr ⟨_,c',cur,rfl,h1,(he g' rfl).trans h2,h3⟩
def Apart (v u:Value):Prop:= ∀g,v.ownBlock=some g->u.ownBlock≠some g
theorem Apart.symm {v u:Value} (h:Apart v u):Apart u v:=fun g hu hv=>h g hv hu
theorem Apart.fresh {w:World} {v v' u:Value} (h:Apart v u) (hf:Fresh w v v') (hu: ∀g,u.ownBlock=some g->g<w.heap.size):Apart v' u:=by
 intro g hg he
 rcases hf with e|e
 ·exact h g (e▸hg) he
 ·rw[e] at hg
  have h1:=hu g he
  have h2:w.heap.size=g:=by simpa using hg
  omega
structure R3 (w W:World) (v3 v4 v5:Value) (d:List Nat) (ks ys:List KK):Prop where
 below:Below w.heap.size w W
 o3:OwnU W w.heap.size v3 d
 o4:OwnK W w.heap.size v4 ks
 o5:OwnK W w.heap.size v5 ys
 a34:Apart v3 v4
 a35:Apart v3 v5
 a45:Apart v4 v5
theorem R3.nil (w:World):R3 w w (.slice none 0 0) (.slice none 0 0) (.slice none 0 0) [] [] []:=
 ⟨Below.refl _ _,⟨rfl, .inl ⟨rfl,rfl⟩⟩,OwnK.nil _ _,OwnK.nil _ _,(fun g h=>by cases h),(fun g h=>by cases h),(fun g h=>by cases h)⟩
section
variable {w W W' : World} {v3 v4 v5 v' : Value} {d : List Nat} {ks ys : List KK}
theorem R3.on (h:R3 w W v3 v4 v5 d ks ys) (hb:Below W.heap.size W W'):R3 w W' v3 v4 v5 d ks ys:=
 ⟨h.below.trans (hb.mono h.below.size),h.o3.block (fun g hg=>hb.block g (h.o3.own g hg).2),h.o4.on hb,h.o5.on hb,h.a34,h.a35,h.a45⟩
theorem R3.put3 {n:Nat} (h:R3 w W v3 v4 v5 d ks ys) (ho:OwnU W' w.heap.size v' (d++ [n])) (hg:W.grownBy W' v3.ownBlock) (hf:Fresh W v3 v'):R3 w W' v' v4 v5 (d++ [n]) ks ys:=
 ⟨h.below.grown hg h.below.size (fun k hk=>(h.o3.own k hk).1),ho,h.o4.block (fun g hg'=>hg.block g (h.o4.own g hg').2 (fun e=>h.a34 g e.symm hg')),h.o5.block (fun g hg'=>hg.block g (h.o5.own g hg').2 (fun e=>h.a35 g e.symm hg')),
  h.a34.fresh hf (fun g hg=>(h.o4.own g hg).2),h.a35.fresh hf (fun g hg=>(h.o5.own g hg).2),h.a45⟩
theorem R3.put4 {n:List KK} (h:R3 w W v3 v4 v5 d ks ys) (ho:OwnK W' w.heap.size v' (ks++n)) (hg:W.grownBy W' v4.ownBlock) (hf:Fresh W v4 v'):R3 w W' v3 v' v5 d (ks++n) ys:=
 ⟨h.below.grown hg h.below.size (fun k hk=>(h.o4.own k hk).1),h.o3.block (fun g hg'=>hg.block g (h.o3.own g hg').2 (fun e=>h.a34 g hg' e.symm)),ho,h.o5.block (fun g hg'=>hg.block g (h.o5.own g hg').2 (fun e=>h.a45 g e.symm hg')),
  (h.a34.symm.fresh hf (fun g hg=>(h.o3.own g hg).2)).symm,h.a35,h.a45.fresh hf (fun g hg=>(h.o5.own g hg).2)⟩
theorem R3.put5 {n:List KK} (h:R3 w W v3 v4 v5 d ks ys) (ho:OwnK W' w.heap.size v' (ys++n)) (hg:W.grownBy W' v5.ownBlock) (hf:Fresh W v5 v'):R3 w W' v3 v4 v' d ks (ys++n):=
 ⟨h.below.grown hg h.below.size (fun k hk=>(h.o5.own k hk).1),h.o3.block (fun g hg'=>hg.block g (h.o3.own g hg').2 (fun e=>h.a35 g hg' e.symm)),h.o4.block (fun g hg'=>hg.block g (h.o4.own g hg').2 (fun e=>h.a45 g hg' e.symm)),ho,
  h.a34,(h.a35.symm.fresh hf (fun g hg=>(h.o3.own g hg).2)).symm,(h.a45.symm.fresh hf (fun g hg=>(h.o4.own g hg).2)).symm⟩
end
theorem ret23 {fn:Func} {R:Ending->World->Prop} {a:Act} {w:World} {b r:Nat} {d:KK} (hr:fn.results= #[.cell r 42]) (hdf:a.defers= [])
  (hx:a.tmps.getD r undef= .pointer (some ⟨b,0,none⟩)) (hc:KLies w b d) (h:R (.returned (d.agg)) w):bodyPost prog fn R .ret a w:=by
 obtain⟨t,hu,hd⟩:=isrow23
 have hl:=run_loadVar_mid (P:=prog) w b 0 42 _ t hc.range hu hd info23
 refine⟨hdf,_, ?_,h⟩
 simp only[Array.getD_eq_getD_getElem?] at hx
 unfold results
 simp[hr,hx,hl,asAddr]
 try rfl
theorem fromIndex32 (u:Nat) (hu:u<=4294967295) (w:World) (htab:TabP w):Calls prog 13 #[.int .u32 (u:Nat)] w fun e w'=>e= .returned (KK.agg ⟨dStr u,0⟩)/\Below w.heap.size w w':=by
 have H46:=hide (fun w hT=>fmt46 u (by omega) w hT)
 have HT:=hide htab
 clear htab
 have wu:IntKind.u64.wrap (u:Int)=u:=by rw[IntKind.wrap_u64];omega
 have LL:=hide (Kq.nil w)
 generalize dStr u=s at *
 go_enter func13,ntmps13
 go_wp2_with (first|go_skip|((with_reducible apply kalloc23);(case ho=>rfl);(case hw=>rfl);(case hL=>exact uh LL);(intro X LX hbX;simp only[nn];simp only[List.cons_append,List.nil_append] at LX;replace LL:=hide LX;clear LX hbX))|((with_reducible apply kstore23 (u:=⟨s,0⟩) (l:= []) (d:=zeroK));(case ho=>rfl);(case hw=>rfl);(case hL=>exact uh LL);(case hx=>rfl);(case hy=>rfl);(case hm=>rfl);(case hne=>exact fun q hq=>by cases hq);(intro X LX hgX hsX;simp only[nn];simp only[List.cons_append,List.nil_append] at LX;replace LL:=hide LX;clear LX hgX hsX)))
 refine(uh H46 _ ((uh HT).on (uh LL).below)).mono ?_
 rintro _ w1 ⟨rfl,hb⟩
 replace LL:=hide ((uh LL).on hb)
 clear hb
 go_wp2_with (first|go_skip|((with_reducible apply kalloc23);(case ho=>rfl);(case hw=>rfl);(case hL=>exact uh LL);(intro X LX hbX;simp only[nn];simp only[List.cons_append,List.nil_append] at LX;replace LL:=hide LX;clear LX hbX))|((with_reducible apply kstore23 (u:=⟨s,0⟩) (l:= []) (d:=zeroK));(case ho=>rfl);(case hw=>rfl);(case hL=>exact uh LL);(case hx=>rfl);(case hy=>rfl);(case hm=>rfl);(case hne=>exact fun q hq=>by cases hq);(intro X LX hgX hsX;simp only[nn];simp only[List.cons_append,List.nil_append] at LX;replace LL:=hide LX;clear LX hgX hsX)))
 refine ret23 rfl rfl rfl ((uh LL).get 0 rfl) ?_
 exact⟨rfl,(uh LL).below⟩
end
section
open Go Go.Proofs Go.RowKit
def kd (k:KK):Int:=kdOf k.s k.n
def kn (k:KK):Nat:=knOf k.s k.n
def ixs (l:List KK):List Nat:=(l.filter (fun k=>kd k==0)).map kn
def strs (l:List KK):List KK:=l.filter (fun k=>kd k==1)
def syms (l:List KK):List KK:=l.filter (fun k=>kd k==2)
def outK (d:List Nat):List KK:=d.map (fun u=>⟨dStr u,0⟩)
theorem step_take (l:List KK) (j:Nat) (h:j<l.length):l.take (j+1)=l.take j++ [l[j]]:=List.take_succ_eq_append_getElem h
theorem ixs_len (l:List KK):(ixs l).length<=l.length:=by unfold ixs;rw[List.length_map];exact List.length_filter_le _ _
theorem strs_len (l:List KK):(strs l).length<=l.length:=List.length_filter_le _ _
theorem syms_len (l:List KK):(syms l).length<=l.length:=List.length_filter_le _ _
theorem step_0 (l:List KK) (k:KK) (h:kd k=0):ixs (l++ [k])=ixs l++ [kn k]/\strs (l++ [k])=strs l/\syms (l++ [k])=syms l:=by
 unfold ixs strs syms
 simp[List.filter_append,h]
theorem step_1 (l:List KK) (k:KK) (h:kd k=1):ixs (l++ [k])=ixs l/\strs (l++ [k])=strs l++ [k]/\syms (l++ [k])=syms l:=by
 unfold ixs strs syms
 simp[List.filter_append,h]
theorem step_2 (l:List KK) (k:KK) (h:kd k=2):ixs (l++ [k])=ixs l/\strs (l++ [k])=strs l/\syms (l++ [k])=syms l++ [k]:=by
 unfold ixs strs syms
 simp[List.filter_append,h]
theorem own_cap {w:World} {base:Nat} {v:Value} {l:List KK} (h:OwnK w base v l): ∀c,v= .slice none 0 c->c=0:=by
 intro c hc
 rcases h.form with ⟨rfl,_⟩|⟨g,c',rfl,_⟩
 ·cases hc;rfl
 ·cases hc
def G3 (w W:World) (v3 v4 v5:Value) (l:List KK):Prop:=R3 w W v3 v4 v5 (ixs l) (strs l) (syms l)
def mg (d:List Nat):List Nat:=d.mergeSort (fun x y=> !ltN y x)
theorem mg_len (d:List Nat):(mg d).length=d.length:=List.length_mergeSort d
theorem sort_own (v:Value) (d:List Nat) (base:Nat) (w:World) (h:OwnU w base v d) (hlen:d.length<=1500000):
  Calls Tryz.prog 163 #[v] w fun e w'=>e= .returned (.tuple #[])/\w.grownBy w' v.ownBlock/\(∀g,v.ownBlock=some g-> ∃c,v= .slice (some ⟨g,0,none⟩) d.length c/\LiesU w' g (mg d).toArray)/\(v.ownBlock=none->v= .slice none 0 0/\d= []):=by
 rcases h.2 with ⟨rfl,h0⟩|⟨g,c,cur,rfl,h1,h2,h3,h4,h5,h6⟩
 ·have hd:d= []:=List.length_eq_zero_iff.1 h0
  exact(sort31_nil w).mono (fun e w' hh=>⟨hh.1,hh.2,(fun g hg=>by cases hg),fun _=>⟨rfl,hd⟩⟩)
 ·have hL:LiesU w g d.toArray:=by
   refine⟨(cur.toList.drop d.length).toArray, ?_⟩
   rw[h2]
   congr 2
   apply Array.toList_inj.1
   simp only[Array.toList_append,Array.toList_map]
   rw[←h6,Nat.mul_one]
   exact(List.take_append_drop _ _).symm
  have hs:=sort31 g c d.toArray w hL (by simpa using hlen)
  rw[List.size_toArray] at hs
  refine hs.mono ?_
  rintro e w' ⟨rfl,d',hd',hl',hg'⟩
  refine⟨rfl,hg',fun g' hgg=> ?_,fun hn=>by cases hn⟩
  have eg:g=g':=by simpa [Value.ownBlock] using hgg
  subst eg
  refine⟨c,rfl, ?_⟩
  have:d'=(mg d).toArray:=Array.toList_inj.1 (by rw[hd'];rfl)
  rw[←this]
  exact hl'
theorem kmake {ops:Array Oper} {rest:List Oper} {o:Oper} {a:Act} {w:World} {Q:Exit->Act->World->Prop} {x:Operand} {c base:Nat} (hw:Region.wanted o (yielded ops a.tmps)=true) (ho:o.op= .makeSlice 54 (.const (.int .i64 0)) x) (hx:a.eval x= .int .i64 (c:Nat)) (hc:c<=1500000) (hb:base<=w.heap.size)
  (h: ∀X B,w.heap.size<=B->OwnK X base (.slice (some ⟨B,0,none⟩) 0 c) []->w.grownBy X none->wpList Tryz.prog ops Q rest (a.put o.dst (.slice (some ⟨B,0,none⟩) 0 c)) X):wpList Tryz.prog ops Q (o::rest) a w:=by
 refine BigFrame.wpList_want hw fun K hK=> ?_
 obtain⟨i0,hi,hz0,hz1,hz2⟩:=info_parts info23w
 obtain⟨w',hrun,h1,h2⟩:=run_makeSlice_owned w base 54 42 i0 _ 2 Tryz.underlying54 hi hz0 hz1 .i64 .i64 c (by omega) (by rw[hz2];omega) (by unfold maxLen;omega) hb
 have hP:=hK _ _ (h w' _ (Nat.le_refl _) h1 h2)
 unfold Oper.wp execOp
 simp only[ho,hx]
 simp[Act.eval,hrun]
 exact hP
structure R4 (w W:World) (v4 v5 v10:Value) (ks ys out:List KK) (gb:Option Nat) (ob:Option Obj):Prop where
 below:Below w.heap.size w W
 o4:OwnK W w.heap.size v4 ks
 o5:OwnK W w.heap.size v5 ys
 o10:OwnK W w.heap.size v10 out
 a45:Apart v4 v5
 a104:Apart v10 v4
 a105:Apart v10 v5
 idx: ∀g,gb=some g->g<W.heap.size/\W.heap[g]? =ob/\v10.ownBlock≠some g
section
variable {w W W' : World} {v4 v5 v10 v' : Value} {ks ys out : List KK} {gb : Option Nat} {ob : Option Obj}
theorem R4.on (h:R4 w W v4 v5 v10 ks ys out gb ob) (hb:Below W.heap.size W W'):R4 w W' v4 v5 v10 ks ys out gb ob:=
 ⟨h.below.trans (hb.mono h.below.size),h.o4.on hb,h.o5.on hb,h.o10.on hb,h.a45,h.a104,h.a105,fun g hg=>⟨Nat.lt_of_lt_of_le (h.idx g hg).1 hb.size,(hb.block g (h.idx g hg).1).trans (h.idx g hg).2.1,(h.idx g hg).2.2⟩⟩
theorem R4.put {n:List KK} (h:R4 w W v4 v5 v10 ks ys out gb ob) (ho:OwnK W' w.heap.size v' (out++n)) (hg:W.grownBy W' v10.ownBlock) (hf:Fresh W v10 v'):R4 w W' v4 v5 v' ks ys (out++n) gb ob:=
 ⟨h.below.grown hg h.below.size (fun k hk=>(h.o10.own k hk).1),h.o4.block (fun g hg'=>hg.block g (h.o4.own g hg').2 (fun e=>h.a104 g e.symm hg')),h.o5.block (fun g hg'=>hg.block g (h.o5.own g hg').2 (fun e=>h.a105 g e.symm hg')),ho,
  h.a45,h.a104.fresh hf (fun g hg=>(h.o4.own g hg).2),h.a105.fresh hf (fun g hg=>(h.o5.own g hg).2),fun g hgb=>⟨Nat.lt_of_lt_of_le (h.idx g hgb).1 hg.size,(hg.block g (h.idx g hgb).1 (fun e=>(h.idx g hgb).2.2 e.symm)).trans (h.idx g hgb).2.1,fun he=>by
   rcases hf with e|e
   ·exact(h.idx g hgb).2.2 (e▸he)
   ·rw[e] at he
    have h2:W.heap.size=g:=by simpa using he
    have:=(h.idx g hgb).1
    omega⟩⟩
end
theorem R3.sorted {w W W' X:World} {v3 v4 v5:Value} {d:List Nat} {ks ys:List KK} {B c:Nat} (h:R3 w W v3 v4 v5 d ks ys) (hg:W.grownBy W' v3.ownBlock) (hB:W'.heap.size<=B) (ho:OwnK X w.heap.size (.slice (some ⟨B,0,none⟩) 0 c) []) (hX:W'.grownBy X none):
  R4 w X v4 v5 (.slice (some ⟨B,0,none⟩) 0 c) ks ys [] v3.ownBlock (v3.ownBlock.bind fun g=>W'.heap[g]?):=by
 have hs:=hg.size
 refine⟨(h.below.grown hg h.below.size (fun k hk=>(h.o3.own k hk).1)).grown hX (Nat.le_trans h.below.size hs) (fun k hk=>by cases hk), ?_, ?_,ho,h.a45, ?_, ?_, ?_⟩
 ·refine h.o4.block (fun g hg'=> ?_)
  have hl:=(h.o4.own g hg').2
  rw[hX.block g (by omega) (by simp),hg.block g hl (fun e=>h.a34 g e.symm hg')]
 ·refine h.o5.block (fun g hg'=> ?_)
  have hl:=(h.o5.own g hg').2
  rw[hX.block g (by omega) (by simp),hg.block g hl (fun e=>h.a35 g e.symm hg')]
 ·intro g h1 h2
  have e:B=g:=by simpa [Value.ownBlock] using h1
  have:=(h.o4.own g h2).2
  omega
 ·intro g h1 h2
  have e:B=g:=by simpa [Value.ownBlock] using h1
  have:=(h.o5.own g h2).2
  omega
 ·intro g hgb
  have hl:=(h.o3.own g hgb).2
  refine⟨Nat.lt_of_lt_of_le (Nat.lt_of_lt_of_le hl hs) hX.size, ?_, ?_⟩
  ·rw[hX.block g (by omega) (by simp),hgb]
   rfl
  ·intro he
   have e:B=g:=by simpa [Value.ownBlock] using he
   omega
theorem mg_nil:mg []= []:=by unfold mg;simp
theorem mg_le (l:List KK): ∀u∈mg (ixs l),u<=4294967295:=by
 intro u hu
 unfold mg at hu
 rw[List.mem_mergeSort] at hu
 unfold ixs at hu
 obtain⟨k,_,rfl⟩:=List.mem_map.1 hu
 have:=kn_le k.s k.n
 unfold kn
 omega
theorem LiesU.blk {w w':World} {g:Nat} {d:Array Nat} {ob:Option Obj} (h:LiesU w g d) (he:w'.heap[g]? =ob) (h2:ob=w.heap[g]?):LiesU w' g d:=by
 obtain⟨r,hr⟩:=h
 exact⟨r,by rw[he,h2,hr]⟩
theorem ordered_rows (b off cap:Nat) (l:List KK) (hz: ∀k∈l,k.s.size<=1048576) (w:World) (htab:TabP w) (hb:b<w.heap.size) (hr:RowsK w b off l) (hlen:l.length<=1500000):Calls Tryz.prog 160 #[.slice (some ⟨b,off,none⟩) l.length cap] w fun e w'=> ∃v,e= .returned v/\OwnK w' w.heap.size v (outK (mg (ixs l))++strs l++syms l)/\Below w.heap.size w w':=by
 have HT:=hide htab
 clear htab
 have HRD:=hide hr
 have HFD:=hide hz
 clear hr hz
 go_enter Tryz.func160,Tryz.ntmps160
 go_wp2_with fail
 go_loopg [3,4,5,15] l.length (fun gm s3 s4 s5 s15 wr=> ∃j:Nat,s15= .int .i64 j/\j<=l.length/\l.length - j<=gm/\Hid (G3 w wr s3 s4 s5 (l.take j)))
 case atStart=>exact⟨0,rfl,by omega,by omega,hide (R3.nil w)⟩
 case round=>
  obtain⟨j,rfl,hj,hg,H3⟩:=hrel
  by_cases hlt:j<l.length
  ·have hjz:(j:Int)<l.length:=by omega
   obtain⟨d,hd⟩: ∃d,d=l[j]:=⟨_,rfl⟩
   have hst:=step_take l j hlt
   rw[←hd] at hst
   have hsz:d.s.size<=1048576:=by rw[hd];exact uh HFD _ (List.getElem_mem hlt)
   have HR:Hid (wr.rangeAt b (off+j * 2) d.cs):=hide (by rw[hd];exact(uh HRD).keep ((uh H3).below.block b hb) j hlt)
   have HN3:Hid ((ixs (l.take j)).length<=6000000):=hide (by have:=ixs_len (l.take j);rw[List.length_take] at this;omega)
   have HN4:Hid ((strs (l.take j)).length+ [d].length<=6000000):=hide (by have:=strs_len (l.take j);rw[List.length_take] at this;simp;omega)
   have HN5:Hid ((syms (l.take j)).length+ [d].length<=6000000):=hide (by have:=syms_len (l.take j);rw[List.length_take] at this;simp;omega)
   have HK:=hide (kindOf22 d.s d.n (by omega))
   have HAn:=hide (anew30 d.s d.n hsz)
   rw[agg_key] at HK HAn
   have ekd:kdOf d.s d.n=kd d:=rfl
   have ekn:knOf d.s d.n=kn d:=rfl
   rw[ekd,ekn] at HK
   have hkr:=kd_range d.s d.n
   rw[ekd] at hkr
   clear hd ekd ekn
   have LL:=hide (Kq.nil wr)
   replace H3:Hid (R3 w wr u3 u4 u5 (ixs (l.take j)) (strs (l.take j)) (syms (l.take j))):=H3
   by_cases h0:kd d=0
   ·rw[h0] at HK
    obtain⟨q1,q2,q3⟩:=step_0 (l.take j) d h0
    rw[←hst] at q1 q2 q3
    have HQ:=hide (And.intro q1 (And.intro q2 q3))
    clear q1 q2 q3 hst h0 hkr
    go_wp2_with (first|go_skip|((with_reducible apply kindex (j:=j));(case ho=>rfl);(case hw=>rfl);(case hx=>rfl);(case hix=>rfl);(case hj=>exact hlt);simp only[nn])|((with_reducible apply kread (d:=d));(case ho=>rfl);(case hw=>rfl);(case hx=>rfl);(case hc=>exact uh HR);simp only[nn])|((with_reducible apply kalloc23);(case ho=>rfl);(case hw=>rfl);(case hL=>exact uh LL);(intro X LX hbX;simp only[nn];simp only[List.cons_append,List.nil_append] at LX;replace LL:=hide LX;clear LX hbX))|((with_reducible apply kstore23 (u:=d) (l:= []) (d:=zeroK));(case ho=>rfl);(case hw=>rfl);(case hL=>exact uh LL);(case hx=>rfl);(case hy=>rfl);(case hm=>rfl);(case hne=>exact fun q hq=>by cases hq);(intro X LX hgX hsX;simp only[nn];simp only[List.cons_append,List.nil_append] at LX;replace LL:=hide LX;clear LX hgX hsX))|((with_reducible apply load23);(case ho=>rfl);(case hw=>rfl);(case hx=>rfl);(case hc=>first|exact(uh LL).get 0 rfl);simp only[nn]))
    refine(uh HK _).mono ?_
    rintro _ w1 ⟨rfl,hb1⟩
    replace LL:=hide ((uh LL).on hb1)
    replace H3:=hide ((uh H3).on (uh LL).below)
    clear hb1
    go_wp2_with (first|go_skip|((with_reducible apply kbuildU (n:=kn d));(case ho=>rfl);(case hw=>rfl);(case hx=>rfl);(intro X hc hs hb;simp only[nn];have HC:=hide hc;replace LL:=hide ((uh LL).on hb);replace H3:=hide ((uh H3).on hb);clear hc hs hb))|((with_reducible apply append_uf (n:=kn d));(case hgd=>rfl);(case ho=>rfl);(case hs=>rfl);(case hx=>rfl);(case hown=>exact(uh H3).o3);(case hB=>exact uh HC);(case hn=>exact uh HN3);(case hbase=>exact(uh H3).below.size);(intro v9 X9 k1 k2 k3;simp only[nn];have H4:=hide ((uh H3).put3 k1 k2 k3);clear k1 k2 k3)))
    go_roundg (l.length - (j+1))
    case measure=>omega
    case rel=>exact⟨j+1,by go_num,by omega,Nat.le_refl _,hide (by unfold G3;rw[(uh HQ).1,(uh HQ).2.1,(uh HQ).2.2];exact uh H4)⟩
   ·by_cases h1:kd d=1
    ·clear h0
     rw[h1] at HK
     obtain⟨q1,q2,q3⟩:=step_1 (l.take j) d h1
     rw[←hst] at q1 q2 q3
     have HQ:=hide (And.intro q1 (And.intro q2 q3))
     clear q1 q2 q3 hst h1 hkr
     go_wp2_with (first|go_skip|((with_reducible apply kindex (j:=j));(case ho=>rfl);(case hw=>rfl);(case hx=>rfl);(case hix=>rfl);(case hj=>exact hlt);simp only[nn])|((with_reducible apply kread (d:=d));(case ho=>rfl);(case hw=>rfl);(case hx=>rfl);(case hc=>exact uh HR);simp only[nn])|((with_reducible apply kalloc23);(case ho=>rfl);(case hw=>rfl);(case hL=>exact uh LL);(intro X LX hbX;simp only[nn];simp only[List.cons_append,List.nil_append] at LX;replace LL:=hide LX;clear LX hbX))|((with_reducible apply kstore23 (u:=d) (l:= []) (d:=zeroK));(case ho=>rfl);(case hw=>rfl);(case hL=>exact uh LL);(case hx=>rfl);(case hy=>rfl);(case hm=>rfl);(case hne=>exact fun q hq=>by cases hq);(intro X LX hgX hsX;simp only[nn];simp only[List.cons_append,List.nil_append] at LX;replace LL:=hide LX;clear LX hgX hsX))|((with_reducible apply load23);(case ho=>rfl);(case hw=>rfl);(case hx=>rfl);(case hc=>first|exact(uh LL).get 0 rfl);simp only[nn]))
     refine(uh HK _).mono ?_
     rintro _ w1 ⟨rfl,hb1⟩
     replace LL:=hide ((uh LL).on hb1)
     replace H3:=hide ((uh H3).on (uh LL).below)
     clear hb1
     go_wp2_with (first|go_skip|((with_reducible apply load23);(case ho=>rfl);(case hw=>rfl);(case hx=>rfl);(case hc=>first|exact(uh LL).get 0 rfl);simp only[nn])|((with_reducible apply kbuild (d:=d));(case ho=>rfl);(case hw=>rfl);(case hx=>rfl);(intro X hc hs hb;simp only[nn];have HC:=hide hc;replace LL:=hide ((uh LL).on hb);replace H3:=hide ((uh H3).on hb);clear hc hs hb)))
     refine(uh HAn _).mono ?_
     rintro _ w2 ⟨rfl,hb2⟩
     replace LL:=hide ((uh LL).on hb2)
     replace H3:=hide ((uh H3).on hb2)
     clear hb2
     go_wp2_with (first|go_skip|((with_reducible apply load23);(case ho=>rfl);(case hw=>rfl);(case hx=>rfl);(case hc=>first|exact(uh LL).get 0 rfl);simp only[nn])|((with_reducible apply kbuild (d:=d));(case ho=>rfl);(case hw=>rfl);(case hx=>rfl);(intro X hc hs hb;simp only[nn];have HC:=hide hc;replace LL:=hide ((uh LL).on hb);replace H3:=hide ((uh H3).on hb);clear hc hs hb))|((with_reducible apply append_kf (m:= [d]));(case hgd=>rfl);(case ho=>rfl);(case hs=>rfl);(case hx=>rfl);(case hown=>exact(uh H3).o4);(case hu=>exact uh HC);(case hcap=>exact(fun c hc=>by cases hc));(case hn=>exact uh HN4);(case hbase=>exact(uh H3).below.size);(intro v9 X9 k1 k2 k3;simp only[nn];have H4:=hide ((uh H3).put4 k1 k2 k3);clear k1 k2 k3)))
     go_roundg (l.length - (j+1))
     case measure=>omega
     case rel=>exact⟨j+1,by go_num,by omega,Nat.le_refl _,hide (by unfold G3;rw[(uh HQ).1,(uh HQ).2.1,(uh HQ).2.2];exact uh H4)⟩
    ·have h2:kd d=2:=by omega
     clear h0 h1
     rw[h2] at HK
     obtain⟨q1,q2,q3⟩:=step_2 (l.take j) d h2
     rw[←hst] at q1 q2 q3
     have HQ:=hide (And.intro q1 (And.intro q2 q3))
     clear q1 q2 q3 hst h2 hkr
     go_wp2_with (first|go_skip|((with_reducible apply kindex (j:=j));(case ho=>rfl);(case hw=>rfl);(case hx=>rfl);(case hix=>rfl);(case hj=>exact hlt);simp only[nn])|((with_reducible apply kread (d:=d));(case ho=>rfl);(case hw=>rfl);(case hx=>rfl);(case hc=>exact uh HR);simp only[nn])|((with_reducible apply kalloc23);(case ho=>rfl);(case hw=>rfl);(case hL=>exact uh LL);(intro X LX hbX;simp only[nn];simp only[List.cons_append,List.nil_append] at LX;replace LL:=hide LX;clear LX hbX))|((with_reducible apply kstore23 (u:=d) (l:= []) (d:=zeroK));(case ho=>rfl);(case hw=>rfl);(case hL=>exact uh LL);(case hx=>rfl);(case hy=>rfl);(case hm=>rfl);(case hne=>exact fun q hq=>by cases hq);(intro X LX hgX hsX;simp only[nn];simp only[List.cons_append,List.nil_append] at LX;replace LL:=hide LX;clear LX hgX hsX))|((with_reducible apply load23);(case ho=>rfl);(case hw=>rfl);(case hx=>rfl);(case hc=>first|exact(uh LL).get 0 rfl);simp only[nn]))
     refine(uh HK _).mono ?_
     rintro _ w1 ⟨rfl,hb1⟩
     replace LL:=hide ((uh LL).on hb1)
     replace H3:=hide ((uh H3).on (uh LL).below)
     clear hb1
     go_wp2_with (first|go_skip|((with_reducible apply load23);(case ho=>rfl);(case hw=>rfl);(case hx=>rfl);(case hc=>first|exact(uh LL).get 0 rfl);simp only[nn])|((with_reducible apply kbuild (d:=d));(case ho=>rfl);(case hw=>rfl);(case hx=>rfl);(intro X hc hs hb;simp only[nn];have HC:=hide hc;replace LL:=hide ((uh LL).on hb);replace H3:=hide ((uh H3).on hb);clear hc hs hb))|((with_reducible apply append_kf (m:= [d]));(case hgd=>rfl);(case ho=>rfl);(case hs=>rfl);(case hx=>rfl);(case hown=>exact(uh H3).o5);(case hu=>exact uh HC);(case hcap=>exact(fun c hc=>by cases hc));(case hn=>exact uh HN5);(case hbase=>exact(uh H3).below.size);(intro v9 X9 k1 k2 k3;simp only[nn];have H4:=hide ((uh H3).put5 k1 k2 k3);clear k1 k2 k3)))
     go_roundg (l.length - (j+1))
     case measure=>omega
     case rel=>exact⟨j+1,by go_num,by omega,Nat.le_refl _,hide (by unfold G3;rw[(uh HQ).1,(uh HQ).2.1,(uh HQ).2.2];exact uh H4)⟩
  ·have hjz: ¬(j:Int)<l.length:=by omega
   have H3:Hid (R3 w wr u3 u4 u5 (ixs l) (strs l) (syms l)):=hide (by have:=uh H3;unfold G3 at this;rw[List.take_of_length_le (by omega)] at this;exact this)
   have HLd:Hid ((ixs l).length<=1500000/\(strs l).length<=1500000/\(syms l).length<=1500000):=hide ⟨Nat.le_trans (ixs_len l) hlen,Nat.le_trans (strs_len l) hlen,Nat.le_trans (syms_len l) hlen⟩
   have HIx:Hid (∀u∈mg (ixs l),u<=4294967295):=hide (mg_le l)
   obtain⟨dd,hdd⟩: ∃dd,dd=ixs l:=⟨_,rfl⟩
   obtain⟨ks,hks⟩: ∃ks,ks=strs l:=⟨_,rfl⟩
   obtain⟨ys,hys⟩: ∃ys,ys=syms l:=⟨_,rfl⟩
   rw[←hdd,←hks,←hys] at H3 HLd
   rw[←hdd] at HIx
   have HD:=hide (And.intro hdd (And.intro hks hys))
   clear hdd hks hys
   have HS:=hide (sort_own u3 dd w.heap.size wr (uh H3).o3 (uh HLd).1)
   go_wp2_with fail
   refine(uh HS).mono ?_
   rintro _ w1 ⟨rfl,hg1,hi1,hn1⟩
   have HG1:=hide hg1
   have HI1:=hide hi1
   have HN1:=hide hn1
   clear hg1 hi1 hn1
   by_cases hnb:u3.ownBlock=none
   ·obtain⟨rfl,rfl⟩:=uh HN1 hnb
    have HM4:Hid (([]:List KK).length+ks.length<=6000000):=hide (by have:=(uh HLd).2.1;simp;omega)
    have HM5:Hid ((([]:List KK)++ks).length+ys.length<=6000000):=hide (by have h1:=(uh HLd).2.1;have h2:=(uh HLd).2.2;simp;omega)
    go_wp2_with (first|go_skip|((with_reducible apply kmake (c:=l.length) (base:=w.heap.size));(case ho=>rfl);(case hw=>rfl);(case hx=>rfl);(case hc=>omega);(case hb=>exact Nat.le_trans (uh H3).below.size (uh HG1).size);(intro X9 B9 k1 k2 k3;simp only[nn];have H4:=hide ((uh H3).sorted (uh HG1) k1 k2 k3);have HX9:=hide k3;clear k1 k2 k3)))
    go_loopg [10,52] 0 (fun gm s10 s52 wr2=>s52= .int .i64 0/\Hid (R4 w wr2 u4 u5 s10 ks ys [] none none))
    case atStart=>exact⟨rfl,H4⟩
    case round=>
     clear H4
     obtain⟨rfl,H4⟩:=hrel
     go_wp2_with (first|go_skip|((with_reducible apply append_kf (m:=ks));(case hgd=>rfl);(case ho=>rfl);(case hs=>rfl);(case hx=>rfl);(case hown=>exact(uh H4).o10);(case hu=>exact(uh H4).o4.reads);(case hcap=>exact own_cap (uh H4).o4);(case hn=>exact uh HM4);(case hbase=>exact(uh H4).below.size);(intro v9 X8 k1 k2 k3;simp only[nn];replace H4:=hide ((uh H4).put k1 k2 k3);clear k1 k2 k3))|((with_reducible apply append_kf (m:=ys));(case hgd=>rfl);(case ho=>rfl);(case hs=>rfl);(case hx=>rfl);(case hown=>exact(uh H4).o10);(case hu=>exact(uh H4).o5.reads);(case hcap=>exact own_cap (uh H4).o5);(case hn=>exact uh HM5);(case hbase=>exact(uh H4).below.size);(intro v9 X8 k1 k2 k3;simp only[nn];replace H4:=hide ((uh H4).put k1 k2 k3);clear k1 k2 k3)))
     go_ret
     refine⟨_,rfl, ?_,(uh H4).below⟩
     rw[←(uh HD).1,←(uh HD).2.1,←(uh HD).2.2,mg_nil]
     first|exact(uh H4).o10|(have h9:=(uh H4).o10;rw[List.append_assoc] at h9;exact h9)
   ·obtain⟨gi,hgi⟩: ∃g,u3.ownBlock=some g:=Option.ne_none_iff_exists'.1 hnb
    obtain⟨c3,hs3,hl3⟩:=uh HI1 gi hgi
    have HL3:=hide hl3
    subst hs3
    clear hl3 hnb
    have hdl:(mg dd).length=dd.length:=mg_len dd
    have hd3:=(uh HLd).1
    have HM4:Hid ((outK (mg dd)).length+ks.length<=6000000):=hide (by have:=(uh HLd).2.1;unfold outK;rw[List.length_map];omega)
    have HM5:Hid ((outK (mg dd)++ks).length+ys.length<=6000000):=hide (by have h1:=(uh HLd).2.1;have h2:=(uh HLd).2.2;unfold outK;rw[List.length_append,List.length_map];omega)
    go_wp2_with (first|go_skip|((with_reducible apply kmake (c:=l.length) (base:=w.heap.size));(case ho=>rfl);(case hw=>rfl);(case hx=>rfl);(case hc=>omega);(case hb=>exact Nat.le_trans (uh H3).below.size (uh HG1).size);(intro X9 B9 k1 k2 k3;simp only[nn];have H4:=hide ((uh H3).sorted (uh HG1) k1 k2 k3);have HX9:=hide k3;clear k1 k2 k3)))
    obtain⟨ob,hob⟩: ∃ob,ob=((Value.slice (some ⟨gi,0,none⟩) dd.length c3).ownBlock.bind fun g=>w1.heap[g]?):=⟨_,rfl⟩
    rw[←hob] at H4
    have hob2:ob=w1.heap[gi]? :=hob
    clear hob
    go_loopg [10,52] dd.length (fun gm s10 s52 wr2=> ∃j2:Nat,s52= .int .i64 j2/\j2<=dd.length/\dd.length - j2<=gm/\Hid (R4 w wr2 u4 u5 s10 ks ys (outK ((mg dd).take j2)) (some gi) ob))
    case atStart=>exact⟨0,rfl,by omega,by omega,H4⟩
    case round=>
     clear H4
     obtain⟨j2,rfl,hj2,hg2,H4⟩:=hrel
     by_cases hlt2:j2<dd.length
     ·have hjz2:(j2:Int)<dd.length:=by omega
      have hju:j2<(mg dd).length:=by omega
      obtain⟨un,hun⟩: ∃u,u=(mg dd)[j2]:=⟨_,rfl⟩
      have hule:un<=4294967295:=by rw[hun];exact uh HIx _ (List.getElem_mem hju)
      have hLw:LiesU wr gi (mg dd).toArray:=(uh HL3).blk ((uh H4).idx gi rfl).2.1 hob2
      have hcell:=(hLw.cell j2 (by simpa using hju)).1
      have hge:(mg dd).toArray[j2]! =un:=by rw[hun,getElem!_pos (mg dd).toArray j2 (by simpa using hju)];simp
      rw[hge] at hcell
      clear hLw hge
      have HNo:Hid ((outK ((mg dd).take j2)).length+ [(⟨dStr un,0⟩:KK)].length<=6000000):=hide (by unfold outK;rw[List.length_map,List.length_take];simp;omega)
      have HO:Hid (outK ((mg dd).take (j2+1))=outK ((mg dd).take j2)++ [⟨dStr un,0⟩]):=hide (by unfold outK;rw[List.take_succ_eq_append_getElem hju,List.map_append,←hun];rfl)
      have HFI:=hide (fun w hT=>fromIndex32 un hule w hT)
      clear hun hule
      go_wp2_with fail
      refine(uh HFI _ ((uh HT).on (uh H4).below)).mono ?_
      rintro _ w2 ⟨rfl,hb2⟩
      clear hcell
      replace H4:=hide ((uh H4).on hb2)
      clear hb2
      go_wp2_with (first|go_skip|((with_reducible apply kbuild (d:=⟨dStr un,0⟩));(case ho=>rfl);(case hw=>rfl);(case hx=>rfl);(intro X hc hs hb;simp only[nn];have HC:=hide hc;replace H4:=hide ((uh H4).on hb);clear hc hs hb))|((with_reducible apply append_kf (m:= [⟨dStr un,0⟩]));(case hgd=>rfl);(case ho=>rfl);(case hs=>rfl);(case hx=>rfl);(case hown=>exact(uh H4).o10);(case hu=>exact uh HC);(case hcap=>exact(fun c hc=>by cases hc));(case hn=>exact uh HNo);(case hbase=>exact(uh H4).below.size);(intro v9 X8 k1 k2 k3;simp only[nn];replace H4:=hide ((uh H4).put k1 k2 k3);clear k1 k2 k3)))
      go_roundg (dd.length - (j2+1))
      case measure=>omega
      case rel=>exact⟨j2+1,by go_num,by omega,Nat.le_refl _,hide (by rw[uh HO];exact uh H4)⟩
     ·have hjz2: ¬(j2:Int)<dd.length:=by omega
      replace H4:Hid (R4 w wr u4 u5 u10 ks ys (outK (mg dd)) (some gi) ob):=hide (by have:=uh H4;rw[List.take_of_length_le (by omega)] at this;exact this)
      go_wp2_with (first|go_skip|((with_reducible apply append_kf (m:=ks));(case hgd=>rfl);(case ho=>rfl);(case hs=>rfl);(case hx=>rfl);(case hown=>exact(uh H4).o10);(case hu=>exact(uh H4).o4.reads);(case hcap=>exact own_cap (uh H4).o4);(case hn=>exact uh HM4);(case hbase=>exact(uh H4).below.size);(intro v9 X8 k1 k2 k3;simp only[nn];replace H4:=hide ((uh H4).put k1 k2 k3);clear k1 k2 k3))|((with_reducible apply append_kf (m:=ys));(case hgd=>rfl);(case ho=>rfl);(case hs=>rfl);(case hx=>rfl);(case hown=>exact(uh H4).o10);(case hu=>exact(uh H4).o5.reads);(case hcap=>exact own_cap (uh H4).o5);(case hn=>exact uh HM5);(case hbase=>exact(uh H4).below.size);(intro v9 X8 k1 k2 k3;simp only[nn];replace H4:=hide ((uh H4).put k1 k2 k3);clear k1 k2 k3)))
      go_ret
      refine⟨_,rfl, ?_,(uh H4).below⟩
      rw[←(uh HD).1,←(uh HD).2.1,←(uh HD).2.2]
      first|exact(uh H4).o10|(have h9:=(uh H4).o10;rw[List.append_assoc] at h9;exact h9)
theorem ordered_nil (A:Option Addr) (cap:Nat) (w:World) (htab:TabP w):Calls Tryz.prog 160 #[.slice A 0 cap] w fun e w'=> ∃v,e= .returned v/\OwnK w' w.heap.size v (outK (mg (ixs []))++strs []++syms [])/\Below w.heap.size w w':=by
 have HT:=hide htab
 clear htab
 go_enter Tryz.func160,Tryz.ntmps160
 go_wp2_with fail
 go_loopg [3,4,5,15] 0 (fun gm s3 s4 s5 s15 wr=>s15= .int .i64 0/\Hid (G3 w wr s3 s4 s5 []))
 case atStart=>exact⟨rfl,hide (R3.nil w)⟩
 case round=>
  obtain⟨rfl,H3⟩:=hrel
  have H3:Hid (R3 w wr u3 u4 u5 (ixs []) (strs []) (syms [])):=H3
  have HLd:Hid ((ixs []).length<=1500000/\(strs []).length<=1500000/\(syms []).length<=1500000):=hide ⟨Nat.zero_le _,Nat.zero_le _,Nat.zero_le _⟩
  have HIx:Hid (∀u∈mg (ixs []),u<=4294967295):=hide (mg_le [])
  obtain⟨dd,hdd⟩: ∃dd,dd=ixs []:=⟨_,rfl⟩
  obtain⟨ks,hks⟩: ∃ks,ks=strs []:=⟨_,rfl⟩
  obtain⟨ys,hys⟩: ∃ys,ys=syms []:=⟨_,rfl⟩
  rw[←hdd,←hks,←hys] at H3 HLd
  rw[←hdd] at HIx
  have HD:=hide (And.intro hdd (And.intro hks hys))
  clear hdd hks hys
  have HS:=hide (sort_own u3 dd w.heap.size wr (uh H3).o3 (uh HLd).1)
  go_wp2_with fail
  refine(uh HS).mono ?_
  rintro _ w1 ⟨rfl,hg1,hi1,hn1⟩
  have HG1:=hide hg1
  have HI1:=hide hi1
  have HN1:=hide hn1
  clear hg1 hi1 hn1
  by_cases hnb:u3.ownBlock=none
  ·obtain⟨rfl,rfl⟩:=uh HN1 hnb
   have HM4:Hid (([]:List KK).length+ks.length<=6000000):=hide (by have:=(uh HLd).2.1;simp;omega)
   have HM5:Hid ((([]:List KK)++ks).length+ys.length<=6000000):=hide (by have h1:=(uh HLd).2.1;have h2:=(uh HLd).2.2;simp;omega)
   go_wp2_with (first|go_skip|((with_reducible apply kmake (c:=0) (base:=w.heap.size));(case ho=>rfl);(case hw=>rfl);(case hx=>rfl);(case hc=>omega);(case hb=>exact Nat.le_trans (uh H3).below.size (uh HG1).size);(intro X9 B9 k1 k2 k3;simp only[nn];have H4:=hide ((uh H3).sorted (uh HG1) k1 k2 k3);have HX9:=hide k3;clear k1 k2 k3)))
   go_loopg [10,52] 0 (fun gm s10 s52 wr2=>s52= .int .i64 0/\Hid (R4 w wr2 u4 u5 s10 ks ys [] none none))
   case atStart=>exact⟨rfl,H4⟩
   case round=>
    clear H4
    obtain⟨rfl,H4⟩:=hrel
    go_wp2_with (first|go_skip|((with_reducible apply append_kf (m:=ks));(case hgd=>rfl);(case ho=>rfl);(case hs=>rfl);(case hx=>rfl);(case hown=>exact(uh H4).o10);(case hu=>exact(uh H4).o4.reads);(case hcap=>exact own_cap (uh H4).o4);(case hn=>exact uh HM4);(case hbase=>exact(uh H4).below.size);(intro v9 X8 k1 k2 k3;simp only[nn];replace H4:=hide ((uh H4).put k1 k2 k3);clear k1 k2 k3))|((with_reducible apply append_kf (m:=ys));(case hgd=>rfl);(case ho=>rfl);(case hs=>rfl);(case hx=>rfl);(case hown=>exact(uh H4).o10);(case hu=>exact(uh H4).o5.reads);(case hcap=>exact own_cap (uh H4).o5);(case hn=>exact uh HM5);(case hbase=>exact(uh H4).below.size);(intro v9 X8 k1 k2 k3;simp only[nn];replace H4:=hide ((uh H4).put k1 k2 k3);clear k1 k2 k3)))
    go_ret
    refine⟨_,rfl, ?_,(uh H4).below⟩
    rw[←(uh HD).1,←(uh HD).2.1,←(uh HD).2.2,mg_nil]
    first|exact(uh H4).o10|(have h9:=(uh H4).o10;rw[List.append_assoc] at h9;exact h9)
  ·obtain⟨gi,hgi⟩: ∃g,u3.ownBlock=some g:=Option.ne_none_iff_exists'.1 hnb
   obtain⟨c3,hs3,hl3⟩:=uh HI1 gi hgi
   have HL3:=hide hl3
   subst hs3
   clear hl3 hnb
   have hdl:(mg dd).length=dd.length:=mg_len dd
   have hd3:=(uh HLd).1
   have HM4:Hid ((outK (mg dd)).length+ks.length<=6000000):=hide (by have:=(uh HLd).2.1;unfold outK;rw[List.length_map];omega)
   have HM5:Hid ((outK (mg dd)++ks).length+ys.length<=6000000):=hide (by have h1:=(uh HLd).2.1;have h2:=(uh HLd).2.2;unfold outK;rw[List.length_append,List.length_map];omega)
   go_wp2_with (first|go_skip|((with_reducible apply kmake (c:=0) (base:=w.heap.size));(case ho=>rfl);(case hw=>rfl);(case hx=>rfl);(case hc=>omega);(case hb=>exact Nat.le_trans (uh H3).below.size (uh HG1).size);(intro X9 B9 k1 k2 k3;simp only[nn];have H4:=hide ((uh H3).sorted (uh HG1) k1 k2 k3);have HX9:=hide k3;clear k1 k2 k3)))
   obtain⟨ob,hob⟩: ∃ob,ob=((Value.slice (some ⟨gi,0,none⟩) dd.length c3).ownBlock.bind fun g=>w1.heap[g]?):=⟨_,rfl⟩
   rw[←hob] at H4
   have hob2:ob=w1.heap[gi]? :=hob
   clear hob
   go_loopg [10,52] dd.length (fun gm s10 s52 wr2=> ∃j2:Nat,s52= .int .i64 j2/\j2<=dd.length/\dd.length - j2<=gm/\Hid (R4 w wr2 u4 u5 s10 ks ys (outK ((mg dd).take j2)) (some gi) ob))
   case atStart=>exact⟨0,rfl,by omega,by omega,H4⟩
   case round=>
    clear H4
    obtain⟨j2,rfl,hj2,hg2,H4⟩:=hrel
    by_cases hlt2:j2<dd.length
    ·have hjz2:(j2:Int)<dd.length:=by omega
     have hju:j2<(mg dd).length:=by omega
     obtain⟨un,hun⟩: ∃u,u=(mg dd)[j2]:=⟨_,rfl⟩
     have hule:un<=4294967295:=by rw[hun];exact uh HIx _ (List.getElem_mem hju)
     have hLw:LiesU wr gi (mg dd).toArray:=(uh HL3).blk ((uh H4).idx gi rfl).2.1 hob2
     have hcell:=(hLw.cell j2 (by simpa using hju)).1
     have hge:(mg dd).toArray[j2]! =un:=by rw[hun,getElem!_pos (mg dd).toArray j2 (by simpa using hju)];simp
     rw[hge] at hcell
     clear hLw hge
     have HNo:Hid ((outK ((mg dd).take j2)).length+ [(⟨dStr un,0⟩:KK)].length<=6000000):=hide (by unfold outK;rw[List.length_map,List.length_take];simp;omega)
     have HO:Hid (outK ((mg dd).take (j2+1))=outK ((mg dd).take j2)++ [⟨dStr un,0⟩]):=hide (by unfold outK;rw[List.take_succ_eq_append_getElem hju,List.map_append,←hun];rfl)
     have HFI:=hide (fun w hT=>fromIndex32 un hule w hT)
     clear hun hule
     go_wp2_with fail
     refine(uh HFI _ ((uh HT).on (uh H4).below)).mono ?_
     rintro _ w2 ⟨rfl,hb2⟩
     clear hcell
     replace H4:=hide ((uh H4).on hb2)
     clear hb2
     go_wp2_with (first|go_skip|((with_reducible apply kbuild (d:=⟨dStr un,0⟩));(case ho=>rfl);(case hw=>rfl);(case hx=>rfl);(intro X hc hs hb;simp only[nn];have HC:=hide hc;replace H4:=hide ((uh H4).on hb);clear hc hs hb))|((with_reducible apply append_kf (m:= [⟨dStr un,0⟩]));(case hgd=>rfl);(case ho=>rfl);(case hs=>rfl);(case hx=>rfl);(case hown=>exact(uh H4).o10);(case hu=>exact uh HC);(case hcap=>exact(fun c hc=>by cases hc));(case hn=>exact uh HNo);(case hbase=>exact(uh H4).below.size);(intro v9 X8 k1 k2 k3;simp only[nn];replace H4:=hide ((uh H4).put k1 k2 k3);clear k1 k2 k3)))
     go_roundg (dd.length - (j2+1))
     case measure=>omega
     case rel=>exact⟨j2+1,by go_num,by omega,Nat.le_refl _,hide (by rw[uh HO];exact uh H4)⟩
    ·have hjz2: ¬(j2:Int)<dd.length:=by omega
     replace H4:Hid (R4 w wr u4 u5 u10 ks ys (outK (mg dd)) (some gi) ob):=hide (by have:=uh H4;rw[List.take_of_length_le (by omega)] at this;exact this)
     go_wp2_with (first|go_skip|((with_reducible apply append_kf (m:=ks));(case hgd=>rfl);(case ho=>rfl);(case hs=>rfl);(case hx=>rfl);(case hown=>exact(uh H4).o10);(case hu=>exact(uh H4).o4.reads);(case hcap=>exact own_cap (uh H4).o4);(case hn=>exact uh HM4);(case hbase=>exact(uh H4).below.size);(intro v9 X8 k1 k2 k3;simp only[nn];replace H4:=hide ((uh H4).put k1 k2 k3);clear k1 k2 k3))|((with_reducible apply append_kf (m:=ys));(case hgd=>rfl);(case ho=>rfl);(case hs=>rfl);(case hx=>rfl);(case hown=>exact(uh H4).o10);(case hu=>exact(uh H4).o5.reads);(case hcap=>exact own_cap (uh H4).o5);(case hn=>exact uh HM5);(case hbase=>exact(uh H4).below.size);(intro v9 X8 k1 k2 k3;simp only[nn];replace H4:=hide ((uh H4).put k1 k2 k3);clear k1 k2 k3)))
     go_ret
     refine⟨_,rfl, ?_,(uh H4).below⟩
     rw[←(uh HD).1,←(uh HD).2.1,←(uh HD).2.2]
     first|exact(uh H4).o10|(have h9:=(uh H4).o10;rw[List.append_assoc] at h9;exact h9)
theorem ordered19 (v:Value) (l:List KK) (hz: ∀k∈l,k.s.size<=1048576) (w:World) (htab:TabP w) (hr:ReadsK w v l) (hlen:l.length<=1500000):Calls Tryz.prog 160 #[v] w fun e w'=> ∃v,e= .returned v/\OwnK w' w.heap.size v (outK (mg (ixs l))++strs l++syms l)/\Below w.heap.size w w':=by
 rcases hr with ⟨A,c,rfl,rfl⟩|⟨b,off,cap,rfl,hb,hr⟩
 ·exact ordered_nil A c w htab
 ·exact ordered_rows b off cap l hz w htab hb hr hlen
theorem order_rows (b off cap:Nat) (l:List KK) (w:World) (hT:Lib.Utf8Tabs 4 5 w) (htab:TabP w) (hb:b<w.heap.size) (hr:RowsK w b off l) (hlen:l.length<=1500000):Calls Tryz.prog 159 #[.slice (some ⟨b,off,none⟩) l.length cap] w fun e w'=> ∃v n,e= .returned (.tuple #[v, .int .i64 n])/\Below w.heap.size w w'/\((l.all goodK=true/\n=0/\OwnK w' w.heap.size v (outK (mg (ixs l))++strs l++syms l))∨(l.all goodK=false/\n=5/\v= .slice none 0 0)):=by
 have HRD:=hide hr
 have HTP:=hide htab
 have HT:=hide hT
 clear hT
 clear hr htab
 go_enter Tryz.func159,Tryz.ntmps159
 go_wp2_with fail
 go_loopg [9] l.length (fun g s9 wr=> ∃j:Nat,s9= .int .i64 j/\j<=l.length/\l.length - j<=g/\Hid ((l.take j).all goodK=true)/\Hid (Below w.heap.size w wr))
 case atStart=>exact⟨0,rfl,by omega,by omega,hide rfl,hide (Below.refl _ _)⟩
 case round=>
  obtain⟨j,rfl,hj,hg,HA,HB⟩:=hrel
  by_cases hlt:j<l.length
  ·have hjz:(j:Int)<l.length:=by omega
   obtain⟨d,hd⟩: ∃d,d=l[j]:=⟨_,rfl⟩
   have HR:Hid (wr.rangeAt b (off+j * 2) d.cs):=hide (by rw[hd];exact(uh HRD).keep ((uh HB).block b hb) j hlt)
   have HCk:=hide (fun w hT=>check12 d.s d.n w hT)
   rw[agg_key] at HCk
   have eg:(kVal d.s d.n).good=goodK d:=rfl
   rw[eg] at HCk
   have HTk:=hide (all_take hlt)
   have HN:=hide (fun hg=>all_not (l:=l) hlt hg)
   rw[←hd] at HTk HN
   generalize goodK d=gd at *
   clear hd eg
   have LL:=hide (Kq.nil wr)
   cases gd
   ·simp only[Bool.false_eq_true,if_false] at HCk
    go_wp2_with (first|go_skip|((with_reducible apply kindex (j:=j));(case ho=>rfl);(case hw=>rfl);(case hx=>rfl);(case hix=>rfl);(case hj=>exact hlt);simp only[nn])|((with_reducible apply kread (d:=d));(case ho=>rfl);(case hw=>rfl);(case hx=>rfl);(case hc=>exact uh HR);simp only[nn])|((with_reducible apply kalloc23);(case ho=>rfl);(case hw=>rfl);(case hL=>exact uh LL);(intro X LX hbX;simp only[nn];simp only[List.cons_append,List.nil_append] at LX;replace LL:=hide LX;clear LX hbX))|((with_reducible apply kstore23 (u:=d) (l:= []) (d:=zeroK));(case ho=>rfl);(case hw=>rfl);(case hL=>exact uh LL);(case hx=>rfl);(case hy=>rfl);(case hm=>rfl);(case hne=>exact fun q hq=>by cases hq);(intro X LX hgX hsX;simp only[nn];simp only[List.cons_append,List.nil_append] at LX;replace LL:=hide LX;clear LX hgX hsX))|((with_reducible apply load23);(case ho=>rfl);(case hw=>rfl);(case hx=>rfl);(case hc=>first|exact(uh LL).get 0 rfl);simp only[nn]))
    refine(uh HCk _ (tabs_below (uh HT) ((uh HB).trans ((uh LL).below.mono (uh HB).size)))).mono ?_
    rintro _ w1 ⟨rfl,hb1⟩
    replace LL:=hide ((uh LL).on hb1)
    have HB1:=hide ((uh HB).trans ((uh LL).below.mono (uh HB).size))
    clear hb1
    go_wp2
    go_ret2
    exact⟨_,_,rfl,uh HB1,Or.inr ⟨uh HN (by trivial),rfl,rfl⟩⟩
   ·simp only[if_true] at HCk
    go_wp2_with (first|go_skip|((with_reducible apply kindex (j:=j));(case ho=>rfl);(case hw=>rfl);(case hx=>rfl);(case hix=>rfl);(case hj=>exact hlt);simp only[nn])|((with_reducible apply kread (d:=d));(case ho=>rfl);(case hw=>rfl);(case hx=>rfl);(case hc=>exact uh HR);simp only[nn])|((with_reducible apply kalloc23);(case ho=>rfl);(case hw=>rfl);(case hL=>exact uh LL);(intro X LX hbX;simp only[nn];simp only[List.cons_append,List.nil_append] at LX;replace LL:=hide LX;clear LX hbX))|((with_reducible apply kstore23 (u:=d) (l:= []) (d:=zeroK));(case ho=>rfl);(case hw=>rfl);(case hL=>exact uh LL);(case hx=>rfl);(case hy=>rfl);(case hm=>rfl);(case hne=>exact fun q hq=>by cases hq);(intro X LX hgX hsX;simp only[nn];simp only[List.cons_append,List.nil_append] at LX;replace LL:=hide LX;clear LX hgX hsX))|((with_reducible apply load23);(case ho=>rfl);(case hw=>rfl);(case hx=>rfl);(case hc=>first|exact(uh LL).get 0 rfl);simp only[nn]))
    refine(uh HCk _ (tabs_below (uh HT) ((uh HB).trans ((uh LL).below.mono (uh HB).size)))).mono ?_
    rintro _ w1 ⟨rfl,hb1⟩
    replace LL:=hide ((uh LL).on hb1)
    have HB1:=hide ((uh HB).trans ((uh LL).below.mono (uh HB).size))
    clear hb1
    go_wp2
    go_roundg (l.length - (j+1))
    case measure=>omega
    case rel=>exact⟨j+1,by go_num,by omega,Nat.le_refl _,hide (by rw[uh HTk,uh HA];rfl),HB1⟩
  ·have hjz: ¬(j:Int)<l.length:=by omega
   have hall:l.all goodK=true:=by rw[←uh HA,List.take_of_length_le (by omega)]
   have HE:=hide hall
   have HO:=hide (ordered19 (.slice (some ⟨b,off,none⟩) l.length cap) l (fun k hk=>goodK_size (List.all_eq_true.1 hall k hk)) wr ((uh HTP).on (uh HB)) (.inr ⟨b,off,cap,rfl,Nat.lt_of_lt_of_le hb (uh HB).size,(uh HRD).keep ((uh HB).block b hb)⟩) hlen)
   clear hall
   go_wp2_with fail
   refine(uh HO).mono ?_
   rintro _ w1 ⟨v1,rfl,ho1,hb1⟩
   have HO1:=hide ho1
   have HB1:=hide ((uh HB).trans (hb1.mono (uh HB).size))
   clear ho1 hb1
   go_wp2
   go_ret2
   exact⟨_,_,rfl,uh HB1,Or.inl ⟨uh HE,rfl,(uh HO1).mono (uh HB).size⟩⟩
theorem order_nil (A:Option Addr) (cap:Nat) (w:World) (htab:TabP w):Calls Tryz.prog 159 #[.slice A 0 cap] w fun e w'=> ∃v n,e= .returned (.tuple #[v, .int .i64 n])/\Below w.heap.size w w'/\((([]:List KK).all goodK=true/\n=0/\OwnK w' w.heap.size v (outK (mg (ixs []))++strs []++syms []))∨(([]:List KK).all goodK=false/\n=5/\v= .slice none 0 0)):=by
 have HTP:=hide htab
 clear htab
 go_enter Tryz.func159,Tryz.ntmps159
 go_wp2_with fail
 go_loopg [9] 0 (fun g s9 wr=>s9= .int .i64 0/\wr=w)
 case atStart=>exact⟨rfl,rfl⟩
 case round=>
  obtain⟨rfl,rfl⟩:=hrel
  have HO:=hide (ordered19 (.slice A 0 cap) [] (fun k hk=>by cases hk) wr (uh HTP) (.inl ⟨A,cap,rfl,rfl⟩) (by simp))
  go_wp2_with fail
  refine(uh HO).mono ?_
  rintro _ w1 ⟨v1,rfl,ho1,hb1⟩
  have HO1:=hide ho1
  have HB1:=hide hb1
  clear ho1 hb1
  go_wp2
  go_ret2
  exact⟨_,_,rfl,uh HB1,Or.inl ⟨rfl,rfl,uh HO1⟩⟩
theorem order8 (v:Value) (l:List KK) (w:World) (hT:Lib.Utf8Tabs 4 5 w) (htab:TabP w) (hr:ReadsK w v l) (hlen:l.length<=1500000):Calls Tryz.prog 159 #[v] w fun e w'=> ∃v n,e= .returned (.tuple #[v, .int .i64 n])/\Below w.heap.size w w'/\((l.all goodK=true/\n=0/\OwnK w' w.heap.size v (outK (mg (ixs l))++strs l++syms l))∨(l.all goodK=false/\n=5/\v= .slice none 0 0)):=by
 rcases hr with ⟨A,c,rfl,rfl⟩|⟨b,off,cap,rfl,hb,hr⟩
 ·exact order_nil A c w htab
 ·exact order_rows b off cap l w hT htab hb hr hlen
def dN (u:Nat):List Nat:=(Lib.decDigits u).map UInt8.toNat
theorem dN_small {u:Nat} (h:u<10):dN u= [48+u]:=by
 unfold dN
 rw[Lib.decDigits_one h]
 simp
 omega
theorem dN_step {n e:Nat} (hn:1<=n) (he:e<10):dN (n * 10+e)=dN n++ [48+e]:=by
 unfold dN
 rw[Lib.decDigits,dif_neg (by omega)]
 have h1:(n * 10+e) / 10=n:=by omega
 have h2:(n * 10+e) % 10=e:=by omega
 rw[h1,h2,List.map_append]
 simp
 omega
theorem mg_perm (d:List Nat):(mg d).Perm d:=List.mergeSort_perm d _
