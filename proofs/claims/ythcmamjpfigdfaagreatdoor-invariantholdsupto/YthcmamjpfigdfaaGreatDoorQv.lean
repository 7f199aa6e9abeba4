import Derived.Test.YthcmamjpfigdfaaGreatDoorQs
import Derived.Test.YthcmamjpfigdfaaGreatDoorQu
import Derived.Lib.ItoaMem
import Derived.Lib.AppendIntMem
set_option linter.all false
namespace Go.Proofs.YthcmamjpfigdfaaGreatDoor
set_option maxRecDepth 100000
set_option maxHeartbeats 0
section
open Go Go.Proofs Go.RowKit
theorem small72 (u:Nat) (h:u<100) (w:World):Calls Tryz.prog 245 #[.int .u64 (u:Nat), .int .i64 10] w fun e w'=>e= .returned (.string ⟨(Lib.decDigits u).toArray⟩)/\w'=w:=by
 have z:(u:Int)<100:=by omega
 have HS:=Ab (fun w=>Tryz.internal_strconv_small u h w)
 generalize Lib.decDigits u=d at *
 go_enter Tryz.func245,Tryz.ntmps245
 go_wp2_with fail
 refine(Aa HS _).mono ?_
 rintro e w1 ⟨rfl,rfl⟩
 go_wp2
 go_ret
 exact⟨rfl,rfl⟩
end
section
open Go Go.Proofs Go.RowKit Go.Sort
theorem holds0 (w:World) (T:TypeId) (nd:Nat) (hs:nd<=24):Sort.Holds (fun (b:UInt8)=>Value.int .u8 (b.toNat:Int)) (w.alloc (.cells Lib.zeros24 T)) w.heap.size 0 (Array.replicate nd (0:UInt8)):=fun j hj=>by
 have hj':j<nd:=by simpa using hj
 refine⟨?_,World.frozen?_alloc_new _ _ _ _⟩
 rw[World.cell?_alloc_new,Lib.zeros24_at _ (by omega),getElem!_pos _ j hj]
 simp
theorem fin0 (w:World) (o:Obj) (dk:Array UInt8) (k:Nat): ∃os,(Sort.putRow (fun (b:UInt8)=>Value.int .u8 (b.toNat:Int)) (w.alloc o) w.heap.size 0 dk).drewN k=Sort.grow (w.drewN k) os:=by
 rw[Sort.alloc_eq_grow]
 obtain⟨os',_,e⟩:=Sort.putRow_grow_new (fun (b:UInt8)=>Value.int .u8 (b.toNat:Int)) w #[o] w.heap.size 0 dk (Nat.le_refl _)
 exact⟨os',by rw[e];rfl⟩
end
section
open Go Go.Proofs Go.RowKit Tryz
theorem Jr (w:World) (base:Nat) (t ty e:TypeId) (i:TypeInfo) (z:Value) (size bytes:Nat) (ht:prog.underlying t=some (.slice e)) (hi:prog.info? e=some i) (hz:i.zero=some z)
  (hsize:i.size=size) (hby:i.bytes=bytes) (hzs:z.cells.size=size) (hsz:0<size) (v:Value) (n:Nat) (xs:List Value) (hown:w.ownsRow base e size v n xs)
  (a:Addr) (m c:Nat) (news:List Value) (hl:news.length=m * size) (hnews: ∀j u,news[j]? =some u->w.cell? (a.add j)=some u) (h1: ∀u∈news,u.oneCell'=true)
  (h63:n+m<=maxLen) (hbytes:(n+m) * bytes<=140737488355328) (hbase:base<=w.heap.size):
  ∃v' w',(Builtin.append_ #[t,t] ty #[v, .slice (some a) m c]).run prog w= .ok v' w'/\w'.ownsRow base e size v' (n+m) (xs++news)/\w.grownBy w' v.ownBlock/\(v'.ownBlock=v.ownBlock∨v'.ownBlock=some w.heap.size):=by
 obtain⟨v',w',hr,ho,hg,hiff⟩:=run_append_own w base t ty e i z size bytes ht hi hz hsize hby hzs hsz v n xs hown a m c news hl hnews h1 h63 hbytes hbase
 refine⟨v',w',hr,ho,hg, ?_⟩
 have hm:n+m<=9223372036854775807:=by simp only[maxLen] at h63;omega
 have inj: ∀{v2:Value} {w2:World},(Builtin.append_ #[t,t] ty #[v, .slice (some a) m c]).run prog w= .ok v2 w2->v'=v2:=fun h2=>by
  rw[hr] at h2
  injection h2
 subst hsize
 subst hby
 rcases hown.2 with ⟨rfl,rfl⟩|⟨g,cap,cur,rfl,hbg,hgg,hnc,hcm,hcs,htake⟩
 ·by_cases h0:m=0
  ·exact Or.inl (by rw[hiff.2 ⟨rfl,h0⟩])
  ·right
   have hb:=hbytes
   rw[Nat.zero_add] at hb
   rw[inj (run_append_nil w t ty e i z ht hi hz a m c news hl hnews (by omega) (by omega) (by omega))]
   rfl
 ·by_cases hroom:n+m<=cap
  ·left
   have hfit:n * i.size+news.length<=cur.size:=by rw[hl,hcs,←Nat.add_mul];exact Nat.mul_le_mul_right _ hroom
   rw[inj (run_append_room w t ty e i ht hi g n cap cur hgg a m c news hl hnews h1 hroom hfit)]
   rfl
  ·right
   rw[inj (run_append_grow w t ty e i z ht hi hz ⟨g,0,none⟩ n cap xs hown.1 (hown.cells (g:=g) rfl) a m c news hl hnews (by omega) (by omega) (growslice_fits (by omega) hbytes))]
   rfl
def Kz (w:World) (v v':Value):Prop:=v'.ownBlock=v.ownBlock∨v'.ownBlock=some w.heap.size
section
variable {ops:Array Oper} {rest:List Oper} {o:Oper} {a:Act} {w:World} {Q:Exit->Act->World->Prop} {s x:Operand} {base:Nat} {l m:List KK} {v u:Value}
theorem ZbY {K:Act->World->Prop} (ho:o.op= .call {callee:= .builtin .append,args:= #[s,x],argTypes:= #[48,48]}) (hs:a.eval s=v) (hx:a.eval x=u) (hown:OwnK w base v l) (hu:Ym w u m) (hcap: ∀c,u= .slice none 0 c->c=0)
  (hn:l.length+m.length<=6000000) (hbase:base<=w.heap.size)
  (h: ∀v' w',OwnK w' base v' (l++m)->w.grownBy w' v.ownBlock->Kz w v v'->K (a.put o.dst v') w'):o.wp prog a w K Q:=by
 obtain⟨i0,hi,hz0,hz1,hz2⟩:=info_parts Rd
 have main: ∀ad c,u= .slice (some ad) m.length c->(∀j u,(Gm m)[j]? =some u->w.cell? (ad.add j)=some u)->o.wp prog a w K Q:=fun ad c hu' hc=>by
  obtain⟨v',w',hrun,h1,h2,h3⟩:=Jr w base 48 o.type 37 i0 _ 2 24 underlying48 hi hz0 hz1 hz2 rfl (by decide) v l.length (Gm l) hown ad m.length c (Gm m) (Ly m) hc (ZaK m) (by unfold maxLen;omega) (by omega) hbase
  have hK:=h v' w' (by unfold OwnK;rw[Vi,List.length_append];exact h1) h2 h3
  subst hu'
  unfold Oper.wp
  simp[execOp,ho,resolve,invoke,builtin,hs,hx,hrun,Result.andThen]
  exact hK
 rcases hu with ⟨A,c,rfl,rfl⟩|⟨b,off,cap,rfl,hlt,hc⟩
 ·cases A with
  |none=>
   obtain rfl:=hcap c rfl
   have hrun:=run_append_owned_none (P:=prog) (w:=w) base 48 o.type 37 i0 2 underlying48 hi v l.length (Gm l) hown
   have hK:=h v w (by simpa using hown) ⟨rfl,rfl,rfl,Nat.le_refl _,fun _ _ _=>rfl⟩ (Or.inl rfl)
   unfold Oper.wp
   simp[execOp,ho,resolve,invoke,builtin,hs,hx,hrun,Result.andThen]
   exact hK
  |some ad=>exact main ad c rfl (fun j u hu=>by simp[Gm] at hu)
 ·exact main _ cap rfl (fun j u hu=>by
   have:=Zbw.1 hc j u hu
   by_cases e:j=0
   ·subst e;simpa [Addr.add] using this
   ·simpa [Addr.add,e] using this)
theorem Gf (hgd:o.guard=none) (ho:o.op= .call {callee:= .builtin .append,args:= #[s,x],argTypes:= #[48,48]}) (hs:a.eval s=v) (hx:a.eval x=u) (hown:OwnK w base v l) (hu:Ym w u m) (hcap: ∀c,u= .slice none 0 c->c=0)
  (hn:l.length+m.length<=6000000) (hbase:base<=w.heap.size)
  (h: ∀v' w',OwnK w' base v' (l++m)->w.grownBy w' v.ownBlock->Kz w v v'->wpList prog ops Q rest (a.put o.dst v') w'):wpList prog ops Q (o::rest) a w:=
 wpList_plain hgd fun _ hK=>ZbY ho hs hx hown hu hcap hn hbase (fun v' w' h1 h2 h3=>hK _ _ (h v' w' h1 h2 h3))
def OwnU (w:World) (base:Nat) (v:Value) (d:List Nat):Prop:=w.ownsRow base 265 1 v d.length (d.map ZeB)
theorem Zfp:(prog.info? 265).map (fun i=>(i.zero,i.size,i.bytes))=some (some (.int .u32 0),1,4):=by kernel_rfl
theorem ZgO {d:List Nat} {n:Nat} {B:Nat} (hgd:o.guard=none) (ho:o.op= .call {callee:= .builtin .append,args:= #[s,x],argTypes:= #[286,286]}) (hs:a.eval s=v) (hx:a.eval x= .slice (some ⟨B,0,none⟩) 1 1) (hown:OwnU w base v d) (hB:w.cell? ⟨B,0,none⟩=some (.int .u32 (n:Nat)))
  (hn:d.length<=6000000) (hbase:base<=w.heap.size)
  (h: ∀v' w',OwnU w' base v' (d++ [n])->w.grownBy w' v.ownBlock->Kz w v v'->wpList prog ops Q rest (a.put o.dst v') w'):wpList prog ops Q (o::rest) a w:=by
 obtain⟨i0,hi,hz0,hz1,hz2⟩:=info_parts Zfp
 refine wpList_plain hgd fun K hK=> ?_
 obtain⟨v',w',hrun,h1,h2,h3⟩:=Jr w base 286 o.type 265 i0 _ 1 4 underlying286 hi hz0 hz1 hz2 rfl (by decide) v d.length (d.map ZeB) hown ⟨B,0,none⟩ 1 1 [.int .u32 (n:Nat)] rfl (fun j u hj=>by
  obtain rfl:j=0:=by
   have:=(List.getElem?_eq_some_iff.1 hj).1
   simpa using this
  have e:Value.int .u32 (n:Nat)=u:=by simpa using hj
  subst e
  simpa [Addr.add] using hB) (fun u hu=>by
  obtain rfl:u= .int .u32 (n:Nat):=by simpa using hu
  rfl) (by unfold maxLen;omega) (by omega) hbase
 have hP:=hK _ _ (h v' w' (by unfold OwnU;rw[List.length_append,List.map_append];exact h1) h2 h3)
 unfold Oper.wp
 simp[execOp,ho,resolve,invoke,builtin,hs,hx,hrun,Result.andThen]
 exact hP
theorem kbuildU {n:Nat} (hw:Region.wanted o (yielded ops a.tmps)=true) (ho:o.op= .buildSlice 286 1 #[(0,x)]) (hx:a.eval x= .int .u32 (n:Nat))
  (h: ∀X,X.cell? ⟨w.heap.size,0,none⟩=some (.int .u32 (n:Nat))->X.heap.size=w.heap.size+1->Below w.heap.size w X->wpList prog ops Q rest (a.put o.dst (.slice (some ⟨w.heap.size,0,none⟩) 1 1)) X):wpList prog ops Q (o::rest) a w:=by
 refine BigFrame.wpList_want hw fun K hK=> ?_
 obtain⟨i0,hi,hz0,hz1,hz2⟩:=info_parts Zfp
 refine wp_buildSlice 286 265 1 _ ho #[.int .u32 (n:Nat)] i0 _ underlying286 hi hz0 (by rw[hz1];decide) (by rw[hz1];decide) ?_ (hK _ _ (h _ (by simp[go_sem]) (by simp) ((Below.refl _ _).alloc (Nat.le_refl _) _)))
 rw[hz1]
 simp only[List.map_toArray,List.map_cons,List.map_nil,hx]
 kernel_rfl
end
theorem OwnU.own {w:World} {base:Nat} {v:Value} {l:List Nat} (h:OwnU w base v l): ∀g,v.ownBlock=some g->base<=g/\g<w.heap.size:=World.ownsRow.lt h
theorem OwnU.block {w w':World} {base:Nat} {v:Value} {l:List Nat} (h:OwnU w base v l) (he: ∀g,v.ownBlock=some g->w'.heap[g]? =w.heap[g]?):OwnU w' base v l:=by
 refine⟨h.1, ?_⟩
 rcases h.2 with h|⟨g',c',cur,rfl,h1,h2,h3⟩
 ·exact .inl h
 ·exact .inr ⟨_,c',cur,rfl,h1,(he g' rfl).trans h2,h3⟩
def Apart (v u:Value):Prop:= ∀g,v.ownBlock=some g->u.ownBlock≠some g
theorem Apart.symm {v u:Value} (h:Apart v u):Apart u v:=fun g hu hv=>h g hv hu
theorem Apart.fresh {w:World} {v v' u:Value} (h:Apart v u) (hf:Kz w v v') (hu: ∀g,u.ownBlock=some g->g<w.heap.size):Apart v' u:=by
 intro g hg he
 rcases hf with e|e
 ·exact h g (e▸hg) he
 ·rw[e] at hg
  have h1:=hu g he
  have h2:w.heap.size=g:=by simpa using hg
  omega
structure R3 (w W:World) (v3 v4 v5:Value) (d:List Nat) (ks ys:List KK):Prop where
 below:Below w.heap.size w W
 o3:OwnU W w.heap.size v3 d
 o4:OwnK W w.heap.size v4 ks
 o5:OwnK W w.heap.size v5 ys
 a34:Apart v3 v4
 a35:Apart v3 v5
 a45:Apart v4 v5
theorem R3.nil (w:World):R3 w w (.slice none 0 0) (.slice none 0 0) (.slice none 0 0) [] [] []:=
 ⟨Below.refl _ _,⟨rfl, .inl ⟨rfl,rfl⟩⟩,OwnK.nil _ _,OwnK.nil _ _,(fun g h=>by cases h),(fun g h=>by cases h),(fun g h=>by cases h)⟩
section
variable {w W W':World} {v3 v4 v5 v':Value} {d:List Nat} {ks ys:List KK}
theorem R3.on (h:R3 w W v3 v4 v5 d ks ys) (hb:Below W.heap.size W W'):R3 w W' v3 v4 v5 d ks ys:=
 ⟨h.below.trans (hb.mono h.below.size),h.o3.block (fun g hg=>hb.block g (h.o3.own g hg).2),h.o4.on hb,h.o5.on hb,h.a34,h.a35,h.a45⟩
theorem R3.put3 {n:Nat} (h:R3 w W v3 v4 v5 d ks ys) (ho:OwnU W' w.heap.size v' (d++ [n])) (hg:W.grownBy W' v3.ownBlock) (hf:Kz W v3 v'):R3 w W' v' v4 v5 (d++ [n]) ks ys:=
 ⟨h.below.grown hg h.below.size (fun k hk=>(h.o3.own k hk).1),ho,h.o4.block (fun g hg'=>hg.block g (h.o4.own g hg').2 (fun e=>h.a34 g e.symm hg')),h.o5.block (fun g hg'=>hg.block g (h.o5.own g hg').2 (fun e=>h.a35 g e.symm hg')),
  h.a34.fresh hf (fun g hg=>(h.o4.own g hg).2),h.a35.fresh hf (fun g hg=>(h.o5.own g hg).2),h.a45⟩
theorem R3.put4 {n:List KK} (h:R3 w W v3 v4 v5 d ks ys) (ho:OwnK W' w.heap.size v' (ks++n)) (hg:W.grownBy W' v4.ownBlock) (hf:Kz W v4 v'):R3 w W' v3 v' v5 d (ks++n) ys:=
 ⟨h.below.grown hg h.below.size (fun k hk=>(h.o4.own k hk).1),h.o3.block (fun g hg'=>hg.block g (h.o3.own g hg').2 (fun e=>h.a34 g hg' e.symm)),ho,h.o5.block (fun g hg'=>hg.block g (h.o5.own g hg').2 (fun e=>h.a45 g e.symm hg')),
  (h.a34.symm.fresh hf (fun g hg=>(h.o3.own g hg).2)).symm,h.a35,h.a45.fresh hf (fun g hg=>(h.o5.own g hg).2)⟩
theorem R3.put5 {n:List KK} (h:R3 w W v3 v4 v5 d ks ys) (ho:OwnK W' w.heap.size v' (ys++n)) (hg:W.grownBy W' v5.ownBlock) (hf:Kz W v5 v'):R3 w W' v3 v4 v' d ks (ys++n):=
 ⟨h.below.grown hg h.below.size (fun k hk=>(h.o5.own k hk).1),h.o3.block (fun g hg'=>hg.block g (h.o3.own g hg').2 (fun e=>h.a35 g hg' e.symm)),h.o4.block (fun g hg'=>hg.block g (h.o4.own g hg').2 (fun e=>h.a45 g hg' e.symm)),ho,
  h.a34,(h.a35.symm.fresh hf (fun g hg=>(h.o3.own g hg).2)).symm,(h.a45.symm.fresh hf (fun g hg=>(h.o4.own g hg).2)).symm⟩
end
theorem ret23 {fn:Func} {R:Ending->World->Prop} {a:Act} {w:World} {b r:Nat} {d:KK} (hr:fn.results= #[.cell r 37]) (hdf:a.defers= [])
  (hx:a.tmps.getD r undef= .pointer (some ⟨b,0,none⟩)) (hc:KLies w b d) (h:R (.returned (d.agg)) w):bodyPost prog fn R .ret a w:=by
 obtain⟨t,hu,hd⟩:=Zcq
 have hl:=run_loadVar_mid (P:=prog) w b 0 37 _ t hc.range hu hd Zct
 refine⟨hdf,_, ?_,h⟩
 simp only[Array.getD_eq_getD_getElem?] at hx
 unfold results
 simp[hr,hx,hl,asAddr]
 try rfl
