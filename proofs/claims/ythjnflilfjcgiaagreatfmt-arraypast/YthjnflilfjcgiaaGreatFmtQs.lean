import Derived.Test.YthjnflilfjcgiaaGreatFmtQr
import Derived.Test.YthjnflilfjcgiaaGreatFmtQq
set_option linter.all false
namespace Go.Proofs.YthjnflilfjcgiaaGreatFmt
set_option maxRecDepth 100000
set_option maxHeartbeats 0
section
open Go Go.Proofs Go.RowKit Go.Sort Tryz
theorem bl_any (n:Nat) (h:n<=1500000):Lib.bitLen n<=21:=by
 rcases Nat.lt_or_ge n 8 with h8|h8
 ·have: ∀m:Fin 8,Lib.bitLen m.val<=21:=by decide+kernel
  exact this ⟨n,h8⟩
 ·exact(bl_le n h8 h).2.2
theorem sort31 (blk cap:Nat) (d:Array Nat) (w:World) (hL:LiesU w blk d) (hsz:d.size<=1500000):
  Calls prog 163 #[.slice (some ⟨blk,0,none⟩) d.size cap] w fun e w'=>e= .returned (.tuple #[])/\ ∃d',d'.toList=d.toList.mergeSort (fun x y=> !ltN y x)/\LiesU w' blk d'/\w.grownBy w' (some blk):=by
 have HC:=Ab (Tryz.bits_Len (d.size:Int) w (by omega) (by omega))
 rw[Int.toNat_natCast] at HC
 have HP:=Ab (Zca blk (d.size+1) cap 0 d.size (Lib.bitLen d.size) d w (by omega) hL (by omega) (Nat.le_refl _) hsz (by have:=bl_any d.size hsz;omega) (.inl rfl))
 generalize Lib.bitLen d.size=k at *
 clear hL
 have z1:IntKind.u64.wrap (d.size:Int)=(d.size:Int):=by simp[IntKind.wrap,IntKind.bits,IntKind.signed];omega
 go_enter func163,ntmps163
 go_wp2_with fail
 refine(Aa HC).mono ?_
 rintro e w' ⟨rfl,rfl⟩
 go_wp2_with fail
 refine(Aa HP).mono ?_
 rintro e w1 ⟨rfl,d',hP,hS,hL1,hG1⟩
 have HF:=Ab (And.intro hL1 (And.intro hG1 (sorted_unique_holds (lt:=ltN) ZcM (fun x y h1 h2=>by simp[ltN] at *;omega) d d' hP hS)))
 clear hL1 hG1 hP hS
 go_wp2
 go_end0
 exact⟨rfl,d',(Aa HF).2.2,(Aa HF).1,(Aa HF).2.1⟩
theorem Rh (w:World):Calls prog 166 #[.slice none 0 0, .int .i64 0, .int .i64 0] w fun e w'=>e= .returned (.tuple #[])/\w.grownBy w' none:=by
 go_enter func166,ntmps166
 go_wp2_with fail
 go_loopg [6] 1 (fun g s6 wr=>s6= .int .i64 1/\Hid (w.grownBy wr none))
 case atStart=>exact⟨by go_num,Ab (Jr _ _)⟩
 case round=>
  obtain⟨rfl,hGk⟩:=hrel
  go_wp2_with fail
  go_end0
  exact⟨rfl,Aa hGk⟩
theorem ZcU (k:Nat) (w:World):Calls prog 164 #[.slice none 0 0, .int .i64 0, .int .i64 0, .int .i64 k] w fun e w'=>e= .returned (.tuple #[])/\w.grownBy w' none:=by
 have HI:=Ab (fun w=>Rh w)
 go_enter func164,ntmps164
 go_wp2_with fail
 go_loopg [1,2,3,8,9] 1 (fun g s1 s2 s3 s8 s9 wr=>s1= .int .i64 0/\s2= .int .i64 0/\s3= .int .i64 k/\s8= .bool true/\s9= .bool true/\Hid (w.grownBy wr none))
 case atStart=>exact⟨rfl,rfl,rfl,rfl,rfl,Ab (Jr _ _)⟩
 case round=>
  obtain⟨rfl,rfl,rfl,rfl,rfl,hG⟩:=hrel
  go_wp2_with fail
  refine((Aa HI) _).mono ?_
  rintro e w1 ⟨rfl,hG1⟩
  have HF:=Ab (Bw (Aa hG) hG1)
  clear hG1
  go_wp2
  (try simp only[Exit.inBlock,Exit.then])
  refine bodyPost_ret (results_none rfl _ _ _) rfl ?_
  exact⟨rfl,Aa HF⟩
theorem Zbw (w:World):Calls prog 163 #[.slice none 0 0] w fun e w'=>e= .returned (.tuple #[])/\w.grownBy w' none:=by
 have HC:=Ab (Tryz.bits_Len (0:Int) w (by omega) (by omega))
 have HP:=Ab (fun k=>ZcU k w)
 generalize Lib.bitLen (0:Int).toNat=k at *
 go_enter func163,ntmps163
 go_wp2_with fail
 refine(Aa HC).mono ?_
 rintro e w' ⟨rfl,rfl⟩
 go_wp2_with fail
 refine((Aa HP) k).mono ?_
 rintro e w1 ⟨rfl,hG1⟩
 have HF:=Ab hG1
 clear hG1
 go_wp2
 go_end0
 exact⟨rfl,Aa HF⟩
end
section
open Go Go.Proofs Go.RowKit Tryz
theorem Js (w:World) (base:Nat) (t ty e:TypeId) (i:TypeInfo) (z:Value) (size bytes:Nat) (ht:prog.underlying t=some (.slice e)) (hi:prog.info? e=some i) (hz:i.zero=some z)
  (hsize:i.size=size) (hby:i.bytes=bytes) (hzs:z.cells.size=size) (hsz:0<size) (v:Value) (n:Nat) (xs:List Value) (hown:w.ownsRow base e size v n xs)
  (a:Addr) (m c:Nat) (news:List Value) (hl:news.length=m * size) (hnews: ∀j u,news[j]? =some u->w.cell? (a.add j)=some u) (h1: ∀u∈news,u.oneCell'=true)
  (h63:n+m<=maxLen) (hbytes:(n+m) * bytes<=140737488355328) (hbase:base<=w.heap.size):
  ∃v' w',(Builtin.append_ #[t,t] ty #[v, .slice (some a) m c]).run prog w= .ok v' w'/\w'.ownsRow base e size v' (n+m) (xs++news)/\w.grownBy w' v.ownBlock/\(v'.ownBlock=v.ownBlock∨v'.ownBlock=some w.heap.size):=by
 obtain⟨v',w',hr,ho,hg,hiff⟩:=run_append_own w base t ty e i z size bytes ht hi hz hsize hby hzs hsz v n xs hown a m c news hl hnews h1 h63 hbytes hbase
 refine⟨v',w',hr,ho,hg, ?_⟩
 have hm:n+m<=9223372036854775807:=by simp only[maxLen] at h63;omega
 have inj: ∀{v2:Value} {w2:World},(Builtin.append_ #[t,t] ty #[v, .slice (some a) m c]).run prog w= .ok v2 w2->v'=v2:=fun h2=>by
  rw[hr] at h2
  injection h2
 subst hsize
 subst hby
 rcases hown.2 with ⟨rfl,rfl⟩|⟨g,cap,cur,rfl,hbg,hgg,hnc,hcm,hcs,htake⟩
 ·by_cases h0:m=0
  ·exact Or.inl (by rw[hiff.2 ⟨rfl,h0⟩])
  ·right
   have hb:=hbytes
   rw[Nat.zero_add] at hb
   rw[inj (run_append_nil w t ty e i z ht hi hz a m c news hl hnews (by omega) (by omega) (by omega))]
   rfl
 ·by_cases hroom:n+m<=cap
  ·left
   have hfit:n * i.size+news.length<=cur.size:=by rw[hl,hcs,←Nat.add_mul];exact Nat.mul_le_mul_right _ hroom
   rw[inj (run_append_room w t ty e i ht hi g n cap cur hgg a m c news hl hnews h1 hroom hfit)]
   rfl
  ·right
   rw[inj (run_append_grow w t ty e i z ht hi hz ⟨g,0,none⟩ n cap xs hown.1 (hown.cells (g:=g) rfl) a m c news hl hnews (by omega) (by omega) (growslice_fits (by omega) hbytes))]
   rfl
def Lq (w:World) (v v':Value):Prop:=v'.ownBlock=v.ownBlock∨v'.ownBlock=some w.heap.size
section
variable {ops : Array Oper} {rest : List Oper} {o : Oper} {a : Act} {w : World} {Q : Exit → Act → World → Prop} {s x : Operand} {base : Nat} {l m : List KK} {v u : Value}
theorem Yt {K:Act->World->Prop} (ho:o.op= .call {callee:= .builtin .append,args:= #[s,x],argTypes:= #[54,54]}) (hs:a.eval s=v) (hx:a.eval x=u) (hown:OwnK w base v l) (hu:Qx w u m) (hcap: ∀c,u= .slice none 0 c->c=0)
  (hn:l.length+m.length<=6000000) (hbase:base<=w.heap.size)
  (h: ∀v' w',OwnK w' base v' (l++m)->w.grownBy w' v.ownBlock->Lq w v v'->K (a.put o.dst v') w'):o.wp prog a w K Q:=by
 obtain⟨i0,hi,hz0,hz1,hz2⟩:=info_parts Nu
 have main: ∀ad c,u= .slice (some ad) m.length c->(∀j u,(En m)[j]? =some u->w.cell? (ad.add j)=some u)->o.wp prog a w K Q:=fun ad c hu' hc=>by
  obtain⟨v',w',hrun,h1,h2,h3⟩:=Js w base 54 o.type 42 i0 _ 2 24 underlying54 hi hz0 hz1 hz2 rfl (by decide) v l.length (En l) hown ad m.length c (En m) (Kt m) hc (Vg m) (by unfold maxLen;omega) (by omega) hbase
  have hK:=h v' w' (by unfold OwnK;rw[Px,List.length_append];exact h1) h2 h3
  subst hu'
  unfold Oper.wp
  simp[execOp,ho,resolve,invoke,builtin,hs,hx,hrun,Result.andThen]
  exact hK
 rcases hu with ⟨A,c,rfl,rfl⟩|⟨b,off,cap,rfl,hlt,hc⟩
 ·cases A with
  |none=>
   obtain rfl:=hcap c rfl
   have hrun:=run_append_owned_none (P:=prog) (w:=w) base 54 o.type 42 i0 2 underlying54 hi v l.length (En l) hown
   have hK:=h v w (by simpa using hown) ⟨rfl,rfl,rfl,Nat.le_refl _,fun _ _ _=>rfl⟩ (Or.inl rfl)
   unfold Oper.wp
   simp[execOp,ho,resolve,invoke,builtin,hs,hx,hrun,Result.andThen]
   exact hK
  |some ad=>exact main ad c rfl (fun j u hu=>by simp[En] at hu)
 ·exact main _ cap rfl (fun j u hu=>by
   have:=Xx.1 hc j u hu
   by_cases e:j=0
   ·subst e;simpa [Addr.add] using this
   ·simpa [Addr.add,e] using this)
theorem Et (hgd:o.guard=none) (ho:o.op= .call {callee:= .builtin .append,args:= #[s,x],argTypes:= #[54,54]}) (hs:a.eval s=v) (hx:a.eval x=u) (hown:OwnK w base v l) (hu:Qx w u m) (hcap: ∀c,u= .slice none 0 c->c=0)
  (hn:l.length+m.length<=6000000) (hbase:base<=w.heap.size)
  (h: ∀v' w',OwnK w' base v' (l++m)->w.grownBy w' v.ownBlock->Lq w v v'->wpList prog ops Q rest (a.put o.dst v') w'):wpList prog ops Q (o::rest) a w:=
 wpList_plain hgd fun _ hK=>Yt ho hs hx hown hu hcap hn hbase (fun v' w' h1 h2 h3=>hK _ _ (h v' w' h1 h2 h3))
def OwnU (w:World) (base:Nat) (v:Value) (d:List Nat):Prop:=w.ownsRow base 44 1 v d.length (d.map ZbV)
theorem Zcq:(prog.info? 44).map (fun i=>(i.zero,i.size,i.bytes))=some (some (.int .u32 0),1,4):=by kernel_rfl
theorem Zdp {d:List Nat} {n:Nat} {B:Nat} (hgd:o.guard=none) (ho:o.op= .call {callee:= .builtin .append,args:= #[s,x],argTypes:= #[236,236]}) (hs:a.eval s=v) (hx:a.eval x= .slice (some ⟨B,0,none⟩) 1 1) (hown:OwnU w base v d) (hB:w.cell? ⟨B,0,none⟩=some (.int .u32 (n:Nat)))
  (hn:d.length<=6000000) (hbase:base<=w.heap.size)
  (h: ∀v' w',OwnU w' base v' (d++ [n])->w.grownBy w' v.ownBlock->Lq w v v'->wpList prog ops Q rest (a.put o.dst v') w'):wpList prog ops Q (o::rest) a w:=by
 obtain⟨i0,hi,hz0,hz1,hz2⟩:=info_parts Zcq
 refine wpList_plain hgd fun K hK=> ?_
 obtain⟨v',w',hrun,h1,h2,h3⟩:=Js w base 236 o.type 44 i0 _ 1 4 underlying236 hi hz0 hz1 hz2 rfl (by decide) v d.length (d.map ZbV) hown ⟨B,0,none⟩ 1 1 [.int .u32 (n:Nat)] rfl (fun j u hj=>by
  obtain rfl:j=0:=by
   have:=(List.getElem?_eq_some_iff.1 hj).1
   simpa using this
  have e:Value.int .u32 (n:Nat)=u:=by simpa using hj
  subst e
  simpa [Addr.add] using hB) (fun u hu=>by
  obtain rfl:u= .int .u32 (n:Nat):=by simpa using hu
  rfl) (by unfold maxLen;omega) (by omega) hbase
 have hP:=hK _ _ (h v' w' (by unfold OwnU;rw[List.length_append,List.map_append];exact h1) h2 h3)
 unfold Oper.wp
 simp[execOp,ho,resolve,invoke,builtin,hs,hx,hrun,Result.andThen]
 exact hP
theorem kbuildU {n:Nat} (hw:Region.wanted o (yielded ops a.tmps)=true) (ho:o.op= .buildSlice 236 1 #[(0,x)]) (hx:a.eval x= .int .u32 (n:Nat))
  (h: ∀X,X.cell? ⟨w.heap.size,0,none⟩=some (.int .u32 (n:Nat))->X.heap.size=w.heap.size+1->Below w.heap.size w X->wpList prog ops Q rest (a.put o.dst (.slice (some ⟨w.heap.size,0,none⟩) 1 1)) X):wpList prog ops Q (o::rest) a w:=by
 refine BigFrame.wpList_want hw fun K hK=> ?_
 obtain⟨i0,hi,hz0,hz1,hz2⟩:=info_parts Zcq
 refine wp_buildSlice 236 44 1 _ ho #[.int .u32 (n:Nat)] i0 _ underlying236 hi hz0 (by rw[hz1];decide) (by rw[hz1];decide) ?_ (hK _ _ (h _ (by simp[go_sem]) (by simp) ((Below.refl _ _).alloc (Nat.le_refl _) _)))
 rw[hz1]
 simp only[List.map_toArray,List.map_cons,List.map_nil,hx]
 kernel_rfl
end
theorem OwnU.own {w:World} {base:Nat} {v:Value} {l:List Nat} (h:OwnU w base v l): ∀g,v.ownBlock=some g->base<=g/\g<w.heap.size:=World.ownsRow.lt h
theorem OwnU.block {w w':World} {base:Nat} {v:Value} {l:List Nat} (h:OwnU w base v l) (he: ∀g,v.ownBlock=some g->w'.heap[g]? =w.heap[g]?):OwnU w' base v l:=by
 refine⟨h.1, ?_⟩
 rcases h.2 with h|⟨g',c',cur,rfl,h1,h2,h3⟩
 ·exact .inl h
 ·exact .inr ⟨_,c',cur,rfl,h1,(he g' rfl).trans h2,h3⟩
def Apart (v u:Value):Prop:= ∀g,v.ownBlock=some g->u.ownBlock≠some g
theorem Apart.symm {v u:Value} (h:Apart v u):Apart u v:=fun g hu hv=>h g hv hu
theorem Apart.fresh {w:World} {v v' u:Value} (h:Apart v u) (hf:Lq w v v') (hu: ∀g,u.ownBlock=some g->g<w.heap.size):Apart v' u:=by
 intro g hg he
 rcases hf with e|e
 ·exact h g (e▸hg) he
 ·rw[e] at hg
  have h1:=hu g he
  have h2:w.heap.size=g:=by simpa using hg
  omega
structure R3 (w W:World) (v3 v4 v5:Value) (d:List Nat) (ks ys:List KK):Prop where
 below:Below w.heap.size w W
 o3:OwnU W w.heap.size v3 d
 o4:OwnK W w.heap.size v4 ks
 o5:OwnK W w.heap.size v5 ys
 a34:Apart v3 v4
 a35:Apart v3 v5
 a45:Apart v4 v5
theorem R3.nil (w:World):R3 w w (.slice none 0 0) (.slice none 0 0) (.slice none 0 0) [] [] []:=
 ⟨Below.refl _ _,⟨rfl, .inl ⟨rfl,rfl⟩⟩,OwnK.nil _ _,OwnK.nil _ _,(fun g h=>by cases h),(fun g h=>by cases h),(fun g h=>by cases h)⟩
section
variable {w W W' : World} {v3 v4 v5 v' : Value} {d : List Nat} {ks ys : List KK}
theorem R3.on (h:R3 w W v3 v4 v5 d ks ys) (hb:Below W.heap.size W W'):R3 w W' v3 v4 v5 d ks ys:=
 ⟨h.below.trans (hb.mono h.below.size),h.o3.block (fun g hg=>hb.block g (h.o3.own g hg).2),h.o4.on hb,h.o5.on hb,h.a34,h.a35,h.a45⟩
theorem R3.put3 {n:Nat} (h:R3 w W v3 v4 v5 d ks ys) (ho:OwnU W' w.heap.size v' (d++ [n])) (hg:W.grownBy W' v3.ownBlock) (hf:Lq W v3 v'):R3 w W' v' v4 v5 (d++ [n]) ks ys:=
 ⟨h.below.grown hg h.below.size (fun k hk=>(h.o3.own k hk).1),ho,h.o4.block (fun g hg'=>hg.block g (h.o4.own g hg').2 (fun e=>h.a34 g e.symm hg')),h.o5.block (fun g hg'=>hg.block g (h.o5.own g hg').2 (fun e=>h.a35 g e.symm hg')),
  h.a34.fresh hf (fun g hg=>(h.o4.own g hg).2),h.a35.fresh hf (fun g hg=>(h.o5.own g hg).2),h.a45⟩
theorem R3.put4 {n:List KK} (h:R3 w W v3 v4 v5 d ks ys) (ho:OwnK W' w.heap.size v' (ks++n)) (hg:W.grownBy W' v4.ownBlock) (hf:Lq W v4 v'):R3 w W' v3 v' v5 d (ks++n) ys:=
 ⟨h.below.grown hg h.below.size (fun k hk=>(h.o4.own k hk).1),h.o3.block (fun g hg'=>hg.block g (h.o3.own g hg').2 (fun e=>h.a34 g hg' e.symm)),ho,h.o5.block (fun g hg'=>hg.block g (h.o5.own g hg').2 (fun e=>h.a45 g e.symm hg')),
  (h.a34.symm.fresh hf (fun g hg=>(h.o3.own g hg).2)).symm,h.a35,h.a45.fresh hf (fun g hg=>(h.o5.own g hg).2)⟩
theorem R3.put5 {n:List KK} (h:R3 w W v3 v4 v5 d ks ys) (ho:OwnK W' w.heap.size v' (ys++n)) (hg:W.grownBy W' v5.ownBlock) (hf:Lq W v5 v'):R3 w W' v3 v4 v' d ks (ys++n):=
 ⟨h.below.grown hg h.below.size (fun k hk=>(h.o5.own k hk).1),h.o3.block (fun g hg'=>hg.block g (h.o3.own g hg').2 (fun e=>h.a35 g hg' e.symm)),h.o4.block (fun g hg'=>hg.block g (h.o4.own g hg').2 (fun e=>h.a45 g hg' e.symm)),ho,
  h.a34,(h.a35.symm.fresh hf (fun g hg=>(h.o3.own g hg).2)).symm,(h.a45.symm.fresh hf (fun g hg=>(h.o4.own g hg).2)).symm⟩
end
theorem ret23 {fn:Func} {R:Ending->World->Prop} {a:Act} {w:World} {b r:Nat} {d:KK} (hr:fn.results= #[.cell r 42]) (hdf:a.defers= [])
  (hx:a.tmps.getD r undef= .pointer (some ⟨b,0,none⟩)) (hc:KLies w b d) (h:R (.returned (d.agg)) w):bodyPost prog fn R .ret a w:=by
 obtain⟨t,hu,hd⟩:=Zu
 have hl:=run_loadVar_mid (P:=prog) w b 0 42 _ t hc.range hu hd Zw
 refine⟨hdf,_, ?_,h⟩
 simp only[Array.getD_eq_getD_getElem?] at hx
 unfold results
 simp[hr,hx,hl,asAddr]
 try rfl
theorem Lp (u:Nat) (hu:u<=4294967295) (w:World) (htab:TabP w):Calls prog 13 #[.int .u32 (u:Nat)] w fun e w'=>e= .returned (KK.agg ⟨Mg u,0⟩)/\Below w.heap.size w w':=by
 have H46:=Ab (fun w hT=>fmt46 u (by omega) w hT)
 have HT:=Ab htab
 clear htab
 have wu:IntKind.u64.wrap (u:Int)=u:=by rw[IntKind.wrap_u64];omega
 have LL:=Ab (Kq.nil w)
 generalize Mg u=s at *
 go_enter func13,ntmps13
 go_wp2_with (first|go_skip|((with_reducible apply Ld);(case ho=>rfl);(case hw=>rfl);(case hL=>exact Aa LL);(intro X LX hbX;simp only[nn];simp only[List.cons_append,List.nil_append] at LX;replace LL:=Ab LX;clear LX hbX))|((with_reducible apply Lb (u:=⟨s,0⟩) (l:= []) (d:=Ga));(case ho=>rfl);(case hw=>rfl);(case hL=>exact Aa LL);(case hx=>rfl);(case hy=>rfl);(case hm=>rfl);(case hne=>exact fun q hq=>by cases hq);(intro X LX hgX hsX;simp only[nn];simp only[List.cons_append,List.nil_append] at LX;replace LL:=Ab LX;clear LX hgX hsX)))
 refine(Aa H46 _ ((Aa HT).on (Aa LL).below)).mono ?_
 rintro _ w1 ⟨rfl,hb⟩
 replace LL:=Ab ((Aa LL).on hb)
 clear hb
 go_wp2_with (first|go_skip|((with_reducible apply Ld);(case ho=>rfl);(case hw=>rfl);(case hL=>exact Aa LL);(intro X LX hbX;simp only[nn];simp only[List.cons_append,List.nil_append] at LX;replace LL:=Ab LX;clear LX hbX))|((with_reducible apply Lb (u:=⟨s,0⟩) (l:= []) (d:=Ga));(case ho=>rfl);(case hw=>rfl);(case hL=>exact Aa LL);(case hx=>rfl);(case hy=>rfl);(case hm=>rfl);(case hne=>exact fun q hq=>by cases hq);(intro X LX hgX hsX;simp only[nn];simp only[List.cons_append,List.nil_append] at LX;replace LL:=Ab LX;clear LX hgX hsX)))
 refine ret23 rfl rfl rfl ((Aa LL).get 0 rfl) ?_
 exact⟨rfl,(Aa LL).below⟩
end
section
open Go Go.Proofs Go.Maps Go.RowKit Tryz
section
variable {md : Region.Mode} {ops : Array Oper} {rest : List Oper} {Q : Exit → Act → World → Prop} {S : World → Prop} {w w0 : World} {fuel : Nat} {listed : Array Bool} {a : Act} {o : Oper}
theorem Jo {w:World} {base e size n:Nat} {v:Value} {xs:List Value} (h:w.ownsRow base e size v n xs): ∃A c,v= .slice A n c:=by
 rcases h.2 with ⟨rfl,rfl⟩|⟨g,cap,cur,rfl, -⟩
 ·exact⟨_,_,rfl⟩
 ·exact⟨_,_,rfl⟩
theorem Vu {t e:TypeId} {size bytes n m c B base:Nat} {z v:Value} {xs news:List Value} {s x:Operand} (hgd:o.guard=none) (ho:o.op= .call {callee:= .builtin .append,args:= #[s,x],argTypes:= #[t,t]}) (hs:a.eval s=v) (hx:a.eval x= .slice (some ⟨B,0,none⟩) m c)
  (ht:prog.underlying t=some (.slice e)) (hi:(prog.info? e).map (fun i=>(i.zero,i.size,i.bytes))=some (some z,size,bytes)) (hz:z.cells.size=size) (hsz:0<size) (hown:w.ownsRow base e size v n xs) (hB:Holds w B news) (hl:news.length=m * size) (h1: ∀u∈news,u.oneCell'=true)
  (hn:n+m<=4000000) (hby:bytes<=10000) (hbase:base<=w.heap.size)
  (h: ∀A c w',w'.ownsRow base e size (.slice A (n+m) c) (n+m) (xs++news)->w.grownBy w' v.ownBlock->Lq w v (.slice A (n+m) c)->wpList prog ops Q rest (a.put o.dst (.slice A (n+m) c)) w'):wpList prog ops Q (o::rest) a w:=by
 obtain⟨i0,hi,hz0,hz1,hz2⟩:=info_parts hi
 refine wpList_plain hgd fun K hK=> ?_
 obtain⟨v',w',hrun,h2,h3,h4⟩:=Js w base t o.type e i0 _ size bytes ht hi hz0 hz1 hz2 hz hsz v n xs hown ⟨B,0,none⟩ m c news hl (fun j u hj=>by
  rw[Addr.add_mid]
  exact hB.2 j u hj) h1 (by unfold maxLen;omega) (Nat.le_trans (Nat.mul_le_mul hn hby) (by decide)) hbase
 obtain⟨A',c',rfl⟩:=Jo h2
 have hP:=hK _ _ (h A' c' w' h2 h3 h4)
 unfold Oper.wp
 simp[execOp,ho,resolve,invoke,builtin,hs,hx,hrun,Result.andThen]
 exact hP
theorem Za8 (off:Nat): ∀(vs:List Value) (j:Nat) (z:Array Value),off+j+vs.length<=z.size->
  ((vs.zipIdx j).foldl (fun cs (c,j)=>cs.setIfInBounds (off+j) c) z).toList=z.toList.take (off+j)++vs++z.toList.drop (off+j+vs.length)
 | [],j,z,h=>by simp
 |v::vs,j,z,h=>by
  simp only[List.length_cons] at h
  rw[List.zipIdx_cons,List.foldl_cons,Za8 off vs (j+1) (z.setIfInBounds (off+j) v) (by simp;omega)]
  have hj:off+j<z.toList.length:=by simp;omega
  have e1:(z.setIfInBounds (off+j) v).toList=z.toList.set (off+j) v:=by simp
  rw[e1,show off+(j+1)=off+j+1 by omega]
  rw[List.take_set,List.drop_set_of_lt (by omega),List.take_succ_eq_append_getElem hj]
  simp only[List.length_cons]
  rw[show off+j+1+vs.length=off+j+(vs.length+1) by omega]
  rw[List.set_append_right _ _ (by simp;omega)]
  have e2:off+j - (z.toList.take (off+j)).length=0:=by simp;omega
  rw[e2]
  simp
theorem Zbb (size:Nat) (z:Array Value) (v:Value) (hz:z.size=size) (hv:v.cells.size=size):Instr.fill (fun i=>some (i * size,size)) z [(0,v)]=some v.cells:=by
 have e:=Za8 0 v.cells.toList 0 z (by simp;omega)
 unfold Instr.fill
 simp only[Nat.zero_mul]
 rw[if_neg (by simp;omega)]
 unfold Instr.fill
 congr 1
 apply Array.toList_inj.1
 have e3:v.cells.zipIdx.foldl (fun cs (c,j)=>cs.setIfInBounds (0+j) c) z=(v.cells.toList.zipIdx 0).foldl (fun cs (c,j)=>cs.setIfInBounds (0+j) c) z:=by
  rw[←Array.foldl_toList,Array.toList_zipIdx]
 rw[e3,e]
 simp
 omega
theorem Yo {t e:TypeId} {size bytes:Nat} {z v:Value} {cs:List Value} {x:Operand} {E:List Nat} {L:List (Nat×List Value)} (hw:Region.wanted o (yielded ops a.tmps)=true) (ho:o.op= .buildSlice t 1 #[(0,x)]) (hx:a.eval x=v)
  (ht:prog.underlying t=some (.slice e)) (hi:(prog.info? e).map (fun i=>(i.zero,i.size,i.bytes))=some (some z,size,bytes)) (hs1:size<=100) (hv:v.cells.toList=cs) (hc:cs.length=size) (h0:0<size) (hL:Hq w0 w E L)
  (h: ∀X B,B=w.heap.size->Hq w0 X E (L++ [(B,cs)])->Below w.heap.size w X->wpList prog ops Q rest (a.put o.dst (.slice (some ⟨B,0,none⟩) 1 1)) X):wpList prog ops Q (o::rest) a w:=by
 refine BigFrame.wpList_want hw fun K hK=> ?_
 obtain⟨i0,hi,hz0,hz1,hz2⟩:=info_parts hi
 have ev:v.cells=cs.toArray:=by rw[←hv]
 have es:v.cells.size=size:=by rw[ev];simpa using hc
 refine wp_buildSlice t e 1 _ ho cs.toArray i0 _ ht hi hz0 (by rw[hz1];omega) (by rw[hz1];omega) ?_ (hK _ _ (h _ _ rfl (hL.new cs e (by omega)) ((Below.refl _ _).alloc (Nat.le_refl _) _)))
 rw[hz1,←ev]
 simp only[List.map_toArray,List.map_cons,List.map_nil,hx]
 exact Zbb size _ v (by simp) es
theorem ZbQ (i:Nat) (dst:Option Tmp) {V:Value} {X:World} {rs:List Nat} (hi:ops[i]? =some o) (hd:o.dst=dst) (hw:Region.wanted o (yielded ops a.tmps)=true) (he:(execOp a.eval o).run prog w= .ok (.value V) X) (hSX:S X)
  (h:wpAnyH prog md ops Q S fuel (listed.setIfInBounds i true) (a.put dst V) X) (hs:AllReadyH prog md ops Q S fuel listed a w rs):AllReadyH prog md ops Q S fuel listed a w (i::rs):=by
 subst hd
 refine AllReadyH.cons hi (fun K hK=> ?_) hs
 rw[if_pos hw]
 unfold Oper.wp
 rw[he]
 exact hK.out _ _ hSX (fun _=>h)
theorem Rj (i:Nat) (dst:Option Tmp) {X:World} {rs:List Nat} (hi:ops[i]? =some o) (hd:o.dst=dst) (hw:Region.wanted o (yielded ops a.tmps)=true) (he:(execOp a.eval o).run prog w= .ok .skip X) (hSX:S X)
  (h:wpAnyH prog md ops Q S fuel (listed.setIfInBounds i true) (a.put dst undef) X) (hs:AllReadyH prog md ops Q S fuel listed a w rs):AllReadyH prog md ops Q S fuel listed a w (i::rs):=by
 subst hd
 refine AllReadyH.cons hi (fun K hK=> ?_) hs
 rw[if_pos hw]
 unfold Oper.wp
 rw[he]
 exact hK.out _ _ hSX (fun _=>h)
theorem ex_box {v:Value} {x:Operand} (t:TypeId) (cs:List Value) (ho:o.op= .box t x) (hx:a.eval x=v) (hv:v.cells.toList=cs):(execOp a.eval o).run prog w= .ok (.value (.pointer (some ⟨w.heap.size,0,none⟩))) (w.alloc (Obj.cells cs.toArray t)):=by
 have e:v.cells=cs.toArray:=by rw[←hv]
 have e2:(Instr.box t v).run prog w= .ok (.pointer (some ⟨w.heap.size,0,none⟩)) (w.alloc (Obj.cells cs.toArray t)):=by rw[←e];rfl
 unfold execOp
 simp only[ho,hx]
 simp[e2]
theorem ex_upd {m x y:Operand} {b n sz r:Nat} {F:KK->Option Nat} {k:KK} (ho:o.op= .mapUpdate 167 m x y) (hm:a.eval m= .map (some b)) (hx:a.eval x=k.agg) (hy:a.eval y=pv (some r)) (h:MapIs w b n sz F) (hk:OkK k) (hn:n<maxLen):
  ∃X,(execOp a.eval o).run prog w= .ok .skip X/\MapIs X b (n+1) (if (F k).isSome then sz else sz+1) (Oc F k (some r))/\Fr w X [b]:=by
 obtain⟨X,h1,h2,h3⟩:=h.store hk hn r
 refine⟨X, ?_,h2,Fr.grown h3.grown⟩
 unfold execOp
 simp only[ho,hm,hx,hy]
 simp[h1]
end
end
section
open Go Go.Proofs Go.Maps Go.RowKit
theorem ZaC: ∀(l:List RR) (lo hi:Nat),l.Pairwise (fun a b=>a.n<b.n)->(∀r∈l,lo<=r.n/\r.n<=hi)->lo<=hi+1->lo+l.length<=hi+1
 | [],lo,hi,_,_,h=>by simpa using h
 |r::l,lo,hi,hp,hr,h=>by
  obtain⟨h1,h2⟩:=List.pairwise_cons.1 hp
  have h3:=hr r (by simp)
  have:=ZaC l (r.n+1) hi h2 (fun q hq=>⟨h1 q hq,(hr q (by simp[hq])).2⟩) (by omega)
  simp only[List.length_cons]
  omega
theorem TT.Is.len {T:TT} {W:World} (h:T.Is W):T.rows.length<=T.last:=by
 have:=ZaC T.rows 1 T.last h.rise h.num (by omega)
 omega
def TT.added (T:TT) (rv:Value) (R:Nat) (k:KK) (d:DD):TT:=⟨T.t,T.m,rv,T.rows++ [⟨R,k,d,T.last+1,false⟩],T.last+1⟩
theorem TT.added_live (T:TT) (rv:Value) (R:Nat) (k:KK) (d:DD):(T.added rv R k d).live=T.live++ [⟨R,k,d,T.last+1,false⟩]:=by
 simp[TT.added,TT.live]
theorem TT.added_find (T:TT) (rv:Value) (R:Nat) (k:KK) (d:DD) (hn:T.find k=none):(fun q=>((T.added rv R k d).find q).map (·.b))=Oc (fun q=>(T.find q).map (·.b)) k (some R):=by
 funext q
 unfold TT.find at *
 rw[TT.added_live,List.find?_append]
 by_cases e:q=k
 ·subst e
  rw[hn,Ma]
  simp
 ·rw[Ky e]
  have e2:([⟨R,k,d,T.last+1,false⟩]:List RR).find? (fun r=>decide (r.k=q))=none:=by
   simp
   exact fun h=>e h.symm
  rw[e2]
  simp
structure TT.Mid (T:TT) (W:World):Prop where
 map:MapIs W T.m T.last T.live.length (fun k=>(T.find k).map (·.b))
 own:OwnP W T.rv (T.rows.map (·.b))
 rows: ∀r∈T.rows,Holds W r.b r.cs
theorem TT.Is.mid {T:TT} {W:World} (h:T.Is W):T.Mid W:=⟨h.map,h.own,h.rows⟩
def TT.Part (T:TT) (b:Nat):Prop:=b=T.m∨T.rv.ownBlock=some b∨b∈T.rows.map (·.b)
theorem TT.Part.mem {T:TT} {b:Nat} (h:T.Part b):b∈T.blocks:=by
 simp only[TT.blocks,List.mem_cons,List.mem_append]
 rcases h with h|h|h
 ·exact .inr (.inl h)
 ·exact .inr (.inr (.inl (by rw[h];simp)))
 ·exact .inr (.inr (.inr h))
theorem TT.Part.ne {T:TT} {b:Nat} (h:T.Part b) (hnd:T.blocks.Nodup):b≠T.t:=by
 intro e
 subst e
 have h1:=(List.nodup_cons.1 hnd).1
 apply h1
 have:=h.mem
 simp only[List.mem_cons,List.mem_append]
 rcases h with h|h|h
 ·exact .inl h
 ·exact .inr (.inl (by rw[h];simp))
 ·exact .inr (.inr h)
theorem TT.Mid.block {T:TT} {W W':World} (h:T.Mid W) (he: ∀b,T.Part b->W'.heap[b]? =W.heap[b]?):T.Mid W':=
 ⟨h.map.block (he _ (.inl rfl)),h.own.block (fun g hg=>he g (.inr (.inl hg))),fun r hr=>(h.rows r hr).block (he _ (.inr (.inr (List.mem_map.2 ⟨r,hr,rfl⟩))))⟩
theorem TT.Mid.lt {T:TT} {W:World} (h:T.Mid W): ∀b,T.Part b->b<W.heap.size:=by
 intro b hb
 rcases hb with rfl|hb|hb
 ·exact h.map.lt
 ·exact h.own.lt b hb
 ·obtain⟨r,hr,rfl⟩:=List.mem_map.1 hb
  exact(h.rows r hr).lt (by simp[Dx])
theorem TT.Mid.fr {T:TT} {W W':World} {E:List Nat} (h:T.Mid W) (hf:Fr W W' E) (hE: ∀b,T.Part b->b ∉ E):T.Mid W':=h.block (fun b hb=>hf.block b (h.lt b hb) (hE b hb))
theorem TT.Mid.on {T:TT} {W W':World} (h:T.Mid W) (hb:Below W.heap.size W W'):T.Mid W':=h.block (fun b hb'=>hb.block b (h.lt b hb'))
theorem TT.Mid.drew {T:TT} {W:World} (h:T.Mid W):T.Mid W.drew:=h.block (fun _ _=>rfl)
theorem TT.Is.added {T:TT} {w X:World} {rv:Value} {R:Nat} {k:KK} {d:DD} (hT:T.Is w) (hn:T.find k=none) (hg:goodK k=true)
  (tab:Holds X T.t [.map (some T.m),rv, .int .u64 ((T.last+1:Nat):Int)]) (map:MapIs X T.m (T.last+1) (T.live.length+1) (Oc (fun q=>(T.find q).map (·.b)) k (some R))) (own:OwnP X rv (T.rows.map (·.b)++ [R]))
  (rows: ∀r∈T.rows,Holds X r.b r.cs) (new:Holds X R (RR.mk R k d (T.last+1) false).cs) (hR:w.heap.size<=R) (hrv: ∀g,rv.ownBlock=some g->(T.rv.ownBlock=some g∨w.heap.size<=g)/\g≠R):(T.added rv R k d).Is X:=by
 have hlt:=hT.lt
 refine⟨tab, ?_, ?_, ?_, ?_, ?_, ?_, ?_, ?_⟩
 ·rw[TT.added_find T rv R k d hn,TT.added_live,List.length_append]
  exact map
 ·simpa [TT.added] using own
 ·intro r hr
  rcases List.mem_append.1 (show r∈T.rows++ [_] from hr) with hr|hr
  ·exact rows r hr
  ·obtain rfl:r=⟨R,k,d,T.last+1,false⟩:=by simpa using hr
   exact new
 ·have hnd:=hT.nd
  unfold TT.blocks TT.added
  simp only[TT.blocks,List.nodup_cons,List.mem_cons,List.mem_append,List.nodup_append,List.map_append,List.map_cons,List.map_nil,not_or] at hnd ⊢
  obtain⟨⟨h1,h2,h3⟩,⟨h4,h5⟩,h6,h7,h8⟩:=hnd
  have l1:T.t<w.heap.size:=hlt _ (by simp[TT.blocks])
  have l2:T.m<w.heap.size:=hlt _ (by simp[TT.blocks])
  have l3: ∀b∈T.rows.map (·.b),b<w.heap.size:=fun b hb=>hlt _ (TT.Part.mem (.inr (.inr hb)))
  have hrv': ∀b∈rv.ownBlock.toList,(T.rv.ownBlock=some b∨w.heap.size<=b)/\b≠R:=fun b hb=>hrv b (by simpa using hb)
  refine⟨⟨h1,fun hb=> ?_,h3, ?_⟩,⟨fun hb=> ?_,h5, ?_⟩, ?_,⟨h7,by simp, ?_⟩, ?_⟩
  ·rcases (hrv' _ hb).1 with h|h
   ·exact h2 (by rw[h];simp)
   ·omega
  ·simp;omega
  ·rcases (hrv' _ hb).1 with h|h
   ·exact h4 (by rw[h];simp)
   ·omega
  ·simp;omega
  ·cases rv.ownBlock<;>simp
  ·intro a ha b hb
   have:=l3 a ha
   obtain rfl:b=R:=by simpa using hb
   omega
  ·intro a ha b hb
   rcases hb with hb|hb
   ·rcases (hrv' _ ha).1 with h|h
    ·exact h8 a (by rw[h];simp) b hb
    ·have:=l3 b hb;omega
   ·obtain rfl:b=R:=by simpa using hb
    exact(hrv' _ ha).2
 ·show (T.rows++ [_]).Pairwise _
  rw[List.pairwise_append]
  refine⟨hT.rise,by simp,fun a ha b hb=> ?_⟩
  obtain rfl:b=⟨R,k,d,T.last+1,false⟩:=by simpa using hb
  have:=(hT.num a ha).2
  show a.n<T.last+1
  omega
 ·intro r hr
  rcases List.mem_append.1 (show r∈T.rows++ [_] from hr) with hr|hr
  ·have:=hT.num r hr
   show 1<=r.n/\r.n<=T.last+1
   omega
  ·obtain rfl:r=⟨R,k,d,T.last+1,false⟩:=by simpa using hr
   show 1<=T.last+1/\T.last+1<=T.last+1
   omega
 ·rw[TT.added_live,List.pairwise_append]
  refine⟨hT.keys,by simp,fun a ha b hb=> ?_⟩
  obtain rfl:b=⟨R,k,d,T.last+1,false⟩:=by simpa using hb
  have:=List.find?_eq_none.1 hn a ha
  simpa using this
 ·rw[TT.added_live]
  intro r hr
  rcases List.mem_append.1 hr with hr|hr
  ·exact hT.good r hr
  ·obtain rfl:r=⟨R,k,d,T.last+1,false⟩:=by simpa using hr
   exact hg
end
section
open Go Go.Proofs Go.Maps Go.RowKit Tryz
theorem rv_new {T:TT} {w X:World} {v:Value} {R:Nat} (hT:T.Is w) (hf:Lq X T.rv v) (hR:w.heap.size<=R) (hR2:R<X.heap.size) (hs:w.heap.size<=X.heap.size): ∀g,v.ownBlock=some g->(T.rv.ownBlock=some g∨w.heap.size<=g)/\g≠R:=by
 intro g hg
 rcases hf with h|h
 ·rw[hg] at h
  have:=hT.lt g (TT.Part.mem (.inr (.inl h.symm)))
  exact⟨.inl h.symm,by omega⟩
 ·rw[hg] at h
  have:=Option.some.inj h
  exact⟨.inr (by omega),by omega⟩
theorem not_rv {T:TT} {w:World} (hT:T.Is w) {b:Nat} (hb:b=T.t∨w.heap.size<=b):b ∉ T.rv.ownBlock.toList:=by
 intro hm
 have hp:T.Part b:= .inr (.inl (by simpa using hm))
 rcases hb with hb|hb
 ·exact hp.ne hT.nd hb
 ·have:=hT.lt b hp.mem;omega
theorem not_m {T:TT} {w:World} (hT:T.Is w) {b:Nat} (hb:b=T.t∨w.heap.size<=b):b ∉ [T.m]:=by
 intro hm
 have hp:T.Part b:= .inl (by simpa using hm)
 rcases hb with hb|hb
 ·exact hp.ne hT.nd hb
 ·have:=hT.lt b hp.mem;omega
theorem four {T:TT} {n R B:Nat} {c1 c2 c3 c4:List Value} {q:Nat×List Value} (hq:q∈ [(T.t,c1),(n,c2),(R,c3),(B,c4)]) (hR:n<=R) (hB:n<=B):q.1=T.t∨n<=q.1:=by
 simp only[List.mem_cons,List.not_mem_nil,or_false] at hq
 rcases hq with rfl|rfl|rfl|rfl
 ·exact .inl rfl
 ·exact .inr (Nat.le_refl _)
 ·exact .inr hR
 ·exact .inr hB
def TT.Mid2 (T:TT) (v:Value) (R:Nat) (W:World):Prop:=MapIs W T.m T.last T.live.length (fun k=>(T.find k).map (·.b))/\OwnP W v (T.rows.map (·.b)++ [R])/\ ∀r∈T.rows,Holds W r.b r.cs
theorem TT.nd_rv {T:TT} (hnd:T.blocks.Nodup):(∀b,T.rv.ownBlock=some b->b≠T.m/\b ∉ T.rows.map (·.b)):=by
 intro b hb
 simp only[TT.blocks,List.nodup_cons,List.mem_cons,List.mem_append,List.nodup_append,not_or] at hnd
 obtain⟨⟨h1,h2,h3⟩,⟨h4,h5⟩,h6,h7,h8⟩:=hnd
 refine⟨fun e=>h4 (by rw[←e,hb];simp),fun hm=>h8 b (by rw[hb];simp) b hm rfl⟩
theorem TT.Mid.app {T:TT} {W W':World} {v:Value} {R:Nat} (h:T.Mid W) (hnd:T.blocks.Nodup) (hf:Fr W W' T.rv.ownBlock.toList) (ho:W'.ownsRow 0 171 1 v ((T.rows.map (·.b)).length+1) (Mz (T.rows.map (·.b))++ [.pointer (some ⟨R,0,none⟩)])):T.Mid2 v R W':=by
 have hn:=TT.nd_rv hnd
 refine⟨h.map.block (hf.block _ (h.lt _ (.inl rfl)) (fun hm=>(hn T.m (by simpa using hm)).1 rfl)), ?_,fun r hr=>(h.rows r hr).block (hf.block _ (h.lt _ (.inr (.inr (List.mem_map.2 ⟨r,hr,rfl⟩)))) (fun hm=>(hn r.b (by simpa using hm)).2 (List.mem_map.2 ⟨r,hr,rfl⟩)))⟩
 unfold OwnP
 rw[List.length_append]
 simpa [Mz] using ho
theorem TT.Mid2.block {T:TT} {v:Value} {R:Nat} {W W':World} (h:T.Mid2 v R W) (he: ∀b,(b=T.m∨v.ownBlock=some b∨b∈T.rows.map (·.b))->W'.heap[b]? =W.heap[b]?):T.Mid2 v R W':=
 ⟨h.1.block (he _ (.inl rfl)),h.2.1.block (fun g hg=>he g (.inr (.inl hg))),fun r hr=>(h.2.2 r hr).block (he _ (.inr (.inr (List.mem_map.2 ⟨r,hr,rfl⟩))))⟩
theorem TT.Mid2.drew {T:TT} {v:Value} {R:Nat} {W:World} (h:T.Mid2 v R W):T.Mid2 v R W.drew:=h.block (fun _ _=>rfl)
theorem TT.Mid2.lt {T:TT} {v:Value} {R:Nat} {W:World} (h:T.Mid2 v R W): ∀b,(b=T.m∨v.ownBlock=some b∨b∈T.rows.map (·.b))->b<W.heap.size:=by
 intro b hb
 rcases hb with rfl|hb|hb
 ·exact h.1.lt
 ·exact h.2.1.lt b hb
 ·obtain⟨r,hr,rfl⟩:=List.mem_map.1 hb
  exact(h.2.2 r hr).lt (by simp[Dx])
theorem TT.Mid2.fr {T:TT} {v:Value} {R:Nat} {w W W':World} (h:T.Mid2 v R W) (hf:Fr W W' [T.t]) (hT:T.Is w) (hv: ∀g,v.ownBlock=some g->(T.rv.ownBlock=some g∨w.heap.size<=g)/\g≠R):T.Mid2 v R W':=by
 refine h.block (fun b hb=>hf.block b (h.lt b hb) ?_)
 intro hm
 obtain rfl:b=T.t:=by simpa using hm
 rcases hb with hb|hb|hb
 ·exact TT.Part.ne (.inl hb) hT.nd rfl
 ·rcases (hv _ hb).1 with h1|h1
  ·exact TT.Part.ne (.inr (.inl h1)) hT.nd rfl
  ·have:=hT.lt T.t (by simp[TT.blocks]);omega
 ·exact TT.Part.ne (.inr (.inr hb)) hT.nd rfl
theorem TT.Mid2.fin {T:TT} {v:Value} {R:Nat} {w W X:World} (h:T.Mid2 v R W) (hf:Fr W X [T.m]) (hT:T.Is w) (hv: ∀g,v.ownBlock=some g->(T.rv.ownBlock=some g∨w.heap.size<=g)/\g≠R):OwnP X v (T.rows.map (·.b)++ [R])/\ ∀r∈T.rows,Holds X r.b r.cs:=by
 have hn:=TT.nd_rv hT.nd
 have hm:T.m ∉ T.rows.map (·.b):=by
  have hnd:=hT.nd
  simp only[TT.blocks,List.nodup_cons,List.mem_cons,List.mem_append,not_or] at hnd
  exact hnd.2.1.2
 refine⟨h.2.1.block (fun g hg=>hf.block g (h.lt g (.inr (.inl hg))) ?_),fun r hr=>(h.2.2 r hr).block (hf.block r.b (h.lt _ (.inr (.inr (List.mem_map.2 ⟨r,hr,rfl⟩)))) ?_)⟩
 ·intro e
  obtain rfl:g=T.m:=by simpa using e
  rcases (hv _ hg).1 with h1|h1
  ·exact(hn _ h1).1 rfl
  ·have:=hT.lt T.m (by simp[TT.blocks]);omega
 ·intro e
  have e2:r.b=T.m:=by simpa using e
  exact hm (e2▸List.mem_map.2 ⟨r,hr,rfl⟩)
theorem MapIs.drew {w:World} {b n sz:Nat} {F:KK->Option Nat} (h:MapIs w b n sz F):MapIs w.drew b n sz F:=h.block rfl
theorem gupd {md:Region.Mode} {ops:Array Oper} {Q:Exit->Act->World->Prop} {S:World->Prop} {w:World} {fuel:Nat} {listed:Array Bool} {a:Act} {o:Oper} (i:Nat) {m x y:Operand} {b n sz r:Nat} {F:KK->Option Nat} {k:KK} {rs:List Nat} (hi:ops[i]? =some o) (hd:o.dst=none) (hw:Region.wanted o (yielded ops a.tmps)=true)
  (ho:o.op= .mapUpdate 167 m x y) (hm:a.eval m= .map (some b)) (hx:a.eval x=k.agg) (hy:a.eval y=pv (some r)) (h:MapIs w b n sz F) (hk:OkK k) (hn:n<maxLen) (hon: ∀X,Fr w X [b]->S X)
  (hh: ∀X,MapIs X b (n+1) (if (F k).isSome then sz else sz+1) (Oc F k (some r))->Fr w X [b]->wpAnyH prog md ops Q S fuel (listed.setIfInBounds i true) (a.put none undef) X) (hs:AllReadyH prog md ops Q S fuel listed a w rs):AllReadyH prog md ops Q S fuel listed a w (i::rs):=by
 obtain⟨X,h1,h2,h3⟩:=ex_upd ho hm hx hy h hk hn
 exact Rj i none hi hd hw h1 (hon X h3) (hh X h2 h3) hs
theorem Uz:(prog.info? 171).map (fun i=>(i.zero,i.size,i.bytes))=some (some (.pointer none),1,8):=by kernel_rfl
theorem siz71:(prog.info? 46).map (·.size)=some 1:=by kernel_rfl
theorem siz70:(prog.info? 168).map (·.size)=some 1:=by kernel_rfl
theorem Zae {o:Oper} {a:Act} {w:World} {x:Operand} {n:Nat} (ho:o.op= .binOp .add 46 x (.const (.int .u64 1)) 46) (hx:a.eval x= .int .u64 (n:Nat)) (hc:a.eval (.const (.int .u64 1))= .int .u64 1) (hn:n<4000000):(execOp a.eval o).run prog w= .ok (.value (.int .u64 ((n:Int)+1))) w:=by
 unfold execOp
 simp only[ho,hx,hc]
 have e:IntKind.u64.wrap ((n:Int)+1)=(n:Int)+1:=by
  rw[IntKind.wrap_u64]
  omega
 simp[go_sem,eqGuard,underlying46,e]
theorem add34 (T:TT) (k:KK) (d:DD) (w:World) (hT:T.Is w) (hk:OkK k) (hg:goodK k=true) (hn:T.find k=none) (hl:T.last<4000000):Calls prog 96 #[.pointer (some ⟨T.t,0,none⟩), .agg (k.cs++d.cs).toArray] w fun e w'=>e= .returned (.tuple #[])/\ ∃rv R,(T.added rv R k d).Is w'/\Fr w w' T.blocks/\w.heap.size<=R/\(∀g,rv.ownBlock=some g->T.rv.ownBlock=some g∨w.heap.size<=g):=by
 have hlen:=hT.len
 have hlt:=hT.lt
 have LL:=Ab (((Hq.nil w T.blocks).add hT.tab (Nat.succ_pos _) (fun q hq=>by cases hq)).new (k.cs++d.cs) 106 (Nat.succ_pos _))
 have MM:=Ab (hT.mid.on ((Below.refl _ _).alloc (Nat.le_refl _) (Obj.cells (k.cs++d.cs).toArray 106)))
 have hl2:Hid (T.last<4000000):=Ab hl
 have HH:=Ab hT
 have hnd:=Ab hT.nd
 have hlen2:=Ab hlen
 have hlt2:=Ab hlt
 have hk2:=Ab hk
 have hn2:=Ab hn
 have hg2:=Ab hg
 clear hT hlen hlt hl hk hn hg
 go_enter func96,ntmps96
 go_wp2_with (first|go_skip|(refine rd rfl (Ai 46 isAgg46 rfl rfl ((Aa LL).get 0 rfl) rfl) ?_)|(refine rd rfl (Zae rfl rfl rfl (Aa hl2)) ?_)|((refine st (vs:= [.int .u64 ((T.last:Int)+1)]) 0 46 (by rfl) rfl rfl rfl rfl (by simp[Value.oneCell']) siz71 (Aa LL) rfl (by simp[TT.cs,Dp]) (Or.inl (List.mem_cons_self ..)) ?_);intro w3 L3 hf3 hs3;replace LL:=Ab L3;replace MM:=Ab ((Aa MM).fr hf3 (fun b hb=>by simpa using hb.ne (Aa hnd)));clear L3 hf3 hs3;simp only[nn]))
 obtain⟨R,hRe⟩: ∃R,R=w3.drew.heap.size:=⟨_,rfl⟩
 refine wp_region_held_drew (P:=prog) (S:=fun X=>Hq w X T.blocks [(T.t, [.map (some T.m),T.rv, .int .u64 ((T.last:Int)+1)]),(w.heap.size,(k.cs++d.cs))]/\T.Mid X) (by kernel_rfl) ⟨(Aa LL).drew,(Aa MM).drew⟩ (fun hS0=> ?_)
 refine y1 0 (some 12) (.agg (k.cs++d.cs).toArray) rfl (fun X hX=>Aj (vs:=(k.cs++d.cs)) 106 20 row58 siz58 rfl rfl (hX.1.get 1 rfl) rfl rfl) hS0 ?_
 refine y0 1 (some 13) (.pointer (some ⟨T.t,0,none⟩)) rfl hS0 ?_
 refine y0 2 (some 14) (.pointer (some ⟨T.t,0,none⟩)) rfl hS0 ?_
 refine y0 3 (some 15) (.pointer (some ⟨T.t,2,none⟩)) rfl hS0 ?_
 refine y1 4 (some 16) (.int .u64 ((T.last:Int)+1)) rfl (fun X hX=>Ai 46 isAgg46 rfl rfl (hX.1.get 0 rfl) rfl) hS0 ?_
 refine y0 5 (some 17) (.agg (RR.mk R k d (T.last+1) false).cs.toArray) rfl hS0 ?_
 have bl:=(Below.refl w3.drew.heap.size w3.drew).alloc (Nat.le_refl _) (Obj.cells (RR.mk R k d (T.last+1) false).cs.toArray 174)
 have L2:=hS0.1.new (RR.mk R k d (T.last+1) false).cs 174 (Nat.succ_pos _)
 refine wpAnyH_ready (rs:= [6]) (by kernel_rfl) (by simp) (ZbQ 6 (some 18) rfl (by kernel_rfl) (by kernel_rfl) (ex_box 174 (RR.mk R k d (T.last+1) false).cs rfl rfl rfl) (And.intro (hS0.1.on bl) (hS0.2.on bl)) ?_ AllReadyH.nil)
 have hR:=Ab (Nat.le_trans hS0.1.fr.size (Nat.le_of_eq hRe.symm))
 replace hS0:=And.intro (hS0.1.on bl) (hS0.2.on bl)
 simp only[nn]
 rw[←hRe] at L2 ⊢
 clear bl
 generalize w3.drew.alloc (Obj.cells (RR.mk R k d (T.last+1) false).cs.toArray 174)=w4 at *
 clear hRe
 refine y0 7 (some 4) (.pointer (some ⟨R,0,none⟩)) rfl hS0 ?_
 refine wpAnyH_done (by kernel_rfl) ?_ _
 try simp only[nn]
 replace MM:=Ab hS0.2
 replace LL:=Ab L2
 clear hS0 L2
 go_wp2_with (first|go_skip|(refine rd rfl (Ai 168 isAgg168 rfl rfl ((Aa LL).get 0 rfl) rfl) ?_)|((refine Yo (t:=168) (e:=171) (size:=1) (bytes:=8) (z:= .pointer none) (cs:= [.pointer (some ⟨R,0,none⟩)]) (by rfl) rfl rfl underlying168 Uz (by decide) rfl rfl (by decide) (Aa LL) ?_);intro w5 B5 hB5 L5 hb5;have hB5:=Ab (Nat.le_trans (Aa LL).fr.size (Nat.le_of_eq hB5.symm));replace LL:=Ab L5;replace MM:=Ab ((Aa MM).on hb5);clear L5 hb5;simp only[nn])|((refine Vu (v:=T.rv) rfl rfl rfl rfl underlying168 Uz rfl (by decide) (Aa MM).own ((Aa LL).get 3 rfl) rfl (by simp[Value.oneCell']) (by have h1:=Aa hlen2;have h2:=Aa hl2;simp;omega) (by decide) (Nat.zero_le _) ?_);intro A6 c6 w6 ho6 hg6 hf6;have V6:=Ab (rv_new (Aa HH) hf6 (Aa hR) ((Aa LL).lt (R,RR.cs ⟨R,k,d,T.last+1,false⟩) (by simp)) (Aa LL).fr.size);have M6:=Ab ((Aa MM).app (Aa hnd) (Fr.grown hg6) ho6);replace LL:=Ab ((Aa LL).step (Fr.grown hg6) (fun b hb=>Or.inl (TT.Part.mem (.inr (.inl (by simpa using hb))))) (fun q hq=>not_rv (Aa HH) (four hq (Aa hR) (Aa hB5))));clear MM ho6 hg6 hf6;simp only[nn])|((refine st (vs:= [.slice A6 _ c6]) 0 168 (by rfl) rfl rfl rfl rfl (by simp[Value.oneCell']) siz70 (Aa LL) rfl (by simp[TT.cs,Dp]) (Or.inl (List.mem_cons_self ..)) ?_);intro w7 L7 hf7 hs7;replace LL:=Ab L7;replace M6:=Ab ((Aa M6).fr hf7 (Aa HH) (Aa V6));clear L7 hf7 hs7;simp only[nn]))
 rw[List.length_map] at LL M6 V6 ⊢
 refine wp_region_held_drew (P:=prog) (S:=fun X=>Hq w X T.blocks [(T.t, [.map (some T.m), .slice A6 (T.rows.length+1) c6, .int .u64 ((T.last:Int)+1)]),(w.heap.size,(k.cs++d.cs)),(R,(RR.mk R k d (T.last+1) false).cs),(B5, [.pointer (some ⟨R,0,none⟩)])]) (by kernel_rfl) (Aa LL).drew (fun hS0=> ?_)
 refine y0 0 (some 29) (.pointer (some ⟨T.t,0,none⟩)) rfl hS0 ?_
 refine y0 1 (some 30) (.pointer (some ⟨T.t,0,none⟩)) rfl hS0 ?_
 refine y0 2 (some 31) (.pointer (some ⟨T.t,0,none⟩)) rfl hS0 ?_
 refine y1 3 (some 32) (.map (some T.m)) rfl (fun X hX=>Ai 167 isAgg167 rfl rfl (hX.get 0 rfl) rfl) hS0 ?_
 refine y0 4 (some 33) (.pointer (some ⟨w.heap.size,0,none⟩)) rfl hS0 ?_
 refine y1 5 (some 34) (k.agg) rfl (fun X hX=>Aj (vs:=k.cs) 42 2 Gq Jk rfl rfl (hX.get 1 rfl) rfl rfl) hS0 ?_
 refine y0 6 (some 35) (.pointer (some ⟨R,0,none⟩)) rfl hS0 ?_
 refine wpAnyH_ready (rs:= [7]) (by kernel_rfl) (by simp) (gupd (r:=R) 7 rfl (by kernel_rfl) (by kernel_rfl) rfl rfl rfl rfl (Aa M6).1.drew (Aa hk2) (by have h2:=Aa hl2;unfold maxLen;omega) (fun X hX=>hS0.step hX (fun b hb=>Or.inl (by obtain rfl:b=T.m:=(by simpa using hb);exact TT.Part.mem (.inl rfl))) (fun q hq=>not_m (Aa HH) (four hq (Aa hR) (Aa hB5)))) ?_ AllReadyH.nil)
 intro X hM hX
 replace hS0:=hS0.step hX (fun b hb=>Or.inl (by obtain rfl:b=T.m:=(by simpa using hb);exact TT.Part.mem (.inl rfl))) (fun q hq=>not_m (Aa HH) (four hq (Aa hR) (Aa hB5)))
 have hM2:Hid (MapIs X T.m (T.last+1) (T.live.length+1) (Oc (fun q=>(T.find q).map (·.b)) k (some R))):=by
  have e:=Aa hn2
  have:=hM
  simp only[e,Option.map_none,Option.isSome_none] at this
  exact Ab this
 have hF:=Ab ((Aa M6).drew.fin hX (Aa HH) (Aa V6))
 clear hM hX M6
 simp only[nn]
 refine wpAnyH_done (by kernel_rfl) ?_ _
 try simp only[nn]
 have LS:=Ab hS0
 clear hS0 LL
 go_wp2
 go_end0
 refine⟨rfl, .slice A6 (T.rows.length+1) c6,R, ?_,(Aa LS).fr,Aa hR,fun g hg=>((Aa V6) g hg).1⟩
 exact TT.Is.added (Aa HH) (Aa hn2) (Aa hg2) ((Aa LS).get 0 rfl) (Aa hM2) (Aa hF).1 (Aa hF).2 ((Aa LS).get 2 rfl) (Aa hR) (Aa V6)
end
section
open Go Go.Proofs Go.Maps Go.RowKit
def Ol (b:Nat) (d:DD) (r:RR):RR:=if r.b=b then {r with d:=d} else r
theorem Lr (b:Nat) (d:DD) (r:RR):(Ol b d r).b=r.b/\(Ol b d r).k=r.k/\(Ol b d r).n=r.n/\(Ol b d r).gone=r.gone:=by
 unfold Ol
 split<;>simp
def TT.upd (T:TT) (b:Nat) (d:DD):TT:={T with rows:=T.rows.map (Ol b d)}
theorem TT.upd_live (T:TT) (b:Nat) (d:DD):(T.upd b d).live=T.live.map (Ol b d):=by
 unfold TT.live TT.upd
 simp only[List.filter_map]
 congr 1
 apply List.filter_congr
 intro r _
 simp[(Lr b d r).2.2.2]
theorem TT.upd_find (T:TT) (b:Nat) (d:DD) (k:KK):(T.upd b d).find k=(T.find k).map (Ol b d):=by
 unfold TT.find
 rw[TT.upd_live,List.find?_map]
 congr 1
 congr 1
 funext r
 simp[(Lr b d r).2.1]
theorem TT.upd_bs (T:TT) (b:Nat) (d:DD):(T.upd b d).rows.map (·.b)=T.rows.map (·.b):=by
 unfold TT.upd
 simp only[List.map_map]
 apply List.map_congr_left
 intro r _
 exact(Lr b d r).1
theorem TT.upd_blocks (T:TT) (b:Nat) (d:DD):(T.upd b d).blocks=T.blocks:=by
 unfold TT.blocks
 rw[TT.upd_bs]
 rfl
theorem TT.Is.upd {T:TT} {w X:World} {r:RR} {d:DD} (hT:T.Is w) (hr:r∈T.rows) (hf:Fr w X [r.b]) (hn:Holds X r.b (r.k.cs++(d.cs++ [.int .u64 r.n, .bool r.gone]))):(T.upd r.b d).Is X:=by
 have hnd:=hT.nd
 simp only[TT.blocks,List.nodup_cons,List.mem_cons,List.mem_append,List.nodup_append,not_or] at hnd
 obtain⟨⟨h1,h2,h3⟩,⟨h4,h5⟩,h6,h7,h8⟩:=hnd
 have hm:r.b∈T.rows.map (·.b):=List.mem_map.2 ⟨r,hr,rfl⟩
 have hlt:=hT.lt
 have part: ∀b∈T.blocks,b≠r.b->X.heap[b]? =w.heap[b]? :=fun b hb hne=>hf.block b (hlt b hb) (by simpa using hne)
 refine⟨?_, ?_, ?_, ?_, ?_, ?_, ?_, ?_, ?_⟩
 ·exact hT.tab.block (part _ (by simp[TT.blocks]) (fun e=>h3 (e▸hm)))
 ·have e:(fun k=>((T.upd r.b d).find k).map (·.b))=fun k=>(T.find k).map (·.b):=by
   funext k
   rw[TT.upd_find]
   cases T.find k with
   |none=>rfl
   |some q=>simp[(Lr r.b d q).1]
  rw[e,TT.upd_live,List.length_map]
  exact hT.map.block (part _ (by simp[TT.blocks]) (fun e=>h5 (by rw[show T.m=r.b from e];exact hm)))
 ·rw[TT.upd_bs]
  exact hT.own.block (fun g hg=>part _ (TT.Part.mem (.inr (.inl hg))) (fun e=>h8 g (by rw[hg];simp) r.b hm e))
 ·intro q hq
  obtain⟨p,hp,rfl⟩:=List.mem_map.1 (show q∈T.rows.map (Ol r.b d) from hq)
  by_cases e:p.b=r.b
  ·have hpr:p=r:=by
    have:=hT.rise
    rcases List.getElem?_of_mem hp with ⟨i,hi⟩
    rcases List.getElem?_of_mem hr with ⟨j,hj⟩
    have e1:(T.rows.map (·.b))[i]? =some r.b:=by simp[hi,e]
    have e2:(T.rows.map (·.b))[j]? =some r.b:=by simp[hj]
    have hij:=(List.getElem?_inj (by simpa using (List.getElem?_eq_some_iff.1 hi).1) h7).1 (e1.trans e2.symm)
    subst hij
    rw[hi] at hj
    exact Option.some.inj hj
   subst hpr
   unfold Ol
   rw[if_pos rfl]
   exact hn
  ·unfold Ol
   rw[if_neg e]
   exact(hT.rows p hp).block (part _ (TT.Part.mem (.inr (.inr (List.mem_map.2 ⟨p,hp,rfl⟩)))) e)
 ·rw[TT.upd_blocks]
  exact hT.nd
 ·show (T.rows.map (Ol r.b d)).Pairwise _
  rw[List.pairwise_map]
  exact hT.rise.imp (fun {a b} h=>by rw[(Lr r.b d a).2.2.1,(Lr r.b d b).2.2.1];exact h)
 ·intro q hq
  obtain⟨p,hp,rfl⟩:=List.mem_map.1 (show q∈T.rows.map (Ol r.b d) from hq)
  rw[(Lr r.b d p).2.2.1]
  exact hT.num p hp
 ·rw[TT.upd_live,List.pairwise_map]
  exact hT.keys.imp (fun {a b} h=>by rw[(Lr r.b d a).2.1,(Lr r.b d b).2.1];exact h)
 ·rw[TT.upd_live]
  intro q hq
  obtain⟨p,hp,rfl⟩:=List.mem_map.1 hq
  rw[(Lr r.b d p).2.1]
  exact hT.good p hp
end
section
open Go Go.Proofs Go.Maps Go.RowKit Tryz
theorem isNaN82 (x:Nat) (w:World):Calls prog 128 #[.int .u64 x] w fun e w'=>e= .returned (.bool false)/\w'=w:=by
 go_enter func128,ntmps128
 go_wp2
 go_ret
 simp
theorem cmp71 (x y:Nat) (w:World):Calls prog 126 #[.int .u64 x, .int .u64 y] w fun e w'=>e= .returned (.int .i64 (if x<y then -1 else if y<x then 1 else 0))/\w'=w:=by
 have H1:=Ab (fun z:Nat=>isNaN82 z w)
 by_cases h1:x<y
 ·rw[if_pos h1]
  have h1':(x:Int)<(y:Int):=by omega
  go_enter func126,ntmps126
  go_wp2_with fail
  refine((Aa H1) x).mono ?_
  rintro _ _ ⟨rfl,rfl⟩
  go_wp2_with fail
  refine((Aa H1) y).mono ?_
  rintro _ _ ⟨rfl,rfl⟩
  go_wp2
  go_ret
  exact⟨rfl,rfl⟩
 ·rw[if_neg h1]
  have h1': ¬(x:Int)<(y:Int):=by omega
  by_cases h2:y<x
  ·rw[if_pos h2]
   have h2':(y:Int)<(x:Int):=by omega
   go_enter func126,ntmps126
   go_wp2_with fail
   refine((Aa H1) x).mono ?_
   rintro _ _ ⟨rfl,rfl⟩
   go_wp2_with fail
   refine((Aa H1) y).mono ?_
   rintro _ _ ⟨rfl,rfl⟩
   go_wp2
   go_ret
   exact⟨rfl,rfl⟩
  ·rw[if_neg h2]
   have h2': ¬(y:Int)<(x:Int):=by omega
   go_enter func126,ntmps126
   go_wp2_with fail
   refine((Aa H1) x).mono ?_
   rintro _ _ ⟨rfl,rfl⟩
   go_wp2_with fail
   refine((Aa H1) y).mono ?_
   rintro _ _ ⟨rfl,rfl⟩
   go_wp2
   go_ret
   exact⟨rfl,rfl⟩
def cu (x y:Nat):Int:=if x<y then -1 else if y<x then 1 else 0
theorem Vt (r:RR) (y:Nat) (w:World) (h:Holds w r.b r.cs):Calls prog 123 #[.pointer (some ⟨r.b,0,none⟩), .int .u64 y] w fun e w'=>e= .returned (.int .i64 (cu r.n y))/\w'=w:=by
 have H1:Hid (Calls prog 126 #[.int .u64 r.n, .int .u64 y] w fun e w'=>e= .returned (.int .i64 (cu r.n y))/\w'=w):=Ab (cmp71 r.n y w)
 generalize cu r.n y=c at *
 have HR:=Ab h
 clear h
 go_enter func123,ntmps123
 go_wp2_with (first|go_skip|(refine rd rfl (Ai 46 isAgg46 rfl rfl (Aa HR) rfl) ?_))
 refine(Aa H1).mono ?_
 rintro _ _ ⟨rfl,rfl⟩
 go_wp2
 go_ret
 exact⟨rfl,rfl⟩
theorem Gy {o:Oper} {a:Act} {W:World} {x:Operand} {B p:Nat} {v:Value} (t:TypeId) (hna: ∀w,(isAgg t).run prog w= .ok false w) (ho:o.op= .load t x) (hx:a.eval x= .pointer (some ⟨B,p,none⟩)) (h0:W.cell? ⟨B,p,none⟩=some v):(execOp a.eval o).run prog W= .ok (.value v) W:=by
 unfold execOp
 simp only[ho,hx]
 simp[go_sem,h0,hna]
theorem index70 (g off n cap j:Nat) (hj:j<n) (w:World):(Instr.indexAt 168 (.slice (some ⟨g,off,none⟩) n cap) (.int .i64 j)).run prog w= .ok (.pointer (some ⟨g,off+j,none⟩)) w:=by
 rw[run_indexAt_slice (h:=by kernel_rfl),if_pos ⟨by omega,by omega⟩]
 have e:(sizeOf (prog.elem 168)).run prog w= .ok 1 w:=by kernel_rfl
 rw[e]
 have e2:(Addr.add ⟨g,off,none⟩ ((j:Int).toNat * 1))=⟨g,off+j,none⟩:=by
  rw[Addr.add_mid]
  simp
 show Result.ok (Value.pointer (some (Addr.add ⟨g,off,none⟩ ((j:Int).toNat * 1)))) w=_
 rw[e2]
theorem Ox {o:Oper} {a:Act} {w:World} {x ix:Operand} {g off n cap:Nat} (j:Nat) (ho:o.op= .indexAddr 168 x ix) (hx:a.eval x= .slice (some ⟨g,off,none⟩) n cap) (hix:a.eval ix= .int .i64 j) (hj:j<n):(execOp a.eval o).run prog w= .ok (.value (.pointer (some ⟨g,off+j,none⟩))) w:=by
 unfold execOp
 simp only[ho,hx,hix]
 have:=index70 g off n cap j hj w
 simp[this]
theorem OwnP.cell {W:World} {g cap n:Nat} {l:List Nat} (h:OwnP W (.slice (some ⟨g,0,none⟩) n cap) l) (j:Nat) (hj:j<l.length):W.cell? ⟨g,j,none⟩=some (.pointer (some ⟨l[j],0,none⟩)):=by
 rcases h.2 with ⟨h1, -⟩|⟨g',cap',cur,h1,h2,h3,h4,h5,h6,h7⟩
 ·cases h1
 ·cases h1
  have e:cur.toList[j]? =some (.pointer (some ⟨l[j],0,none⟩)):=by
   have h8:(cur.toList.take (l.length * 1))[j]? =(Mz l)[j]? :=by rw[h7]
   rw[List.getElem?_take,if_pos (by omega)] at h8
   rw[h8]
   simp[Mz,hj]
  have e2:cur[j]? =some (.pointer (some ⟨l[j],0,none⟩)):=by simpa using e
  simp[World.cell?,h3,e2]
theorem bs_rows (g cap y:Nat) (l:List RR) (w:World) (ho:OwnP w (.slice (some ⟨g,0,none⟩) l.length cap) (l.map (·.b))) (hr: ∀r∈l,Holds w r.b r.cs) (hs:l.Pairwise (fun a b=>a.n<b.n)) (hl:l.length<=4000000):
  Calls prog 122 #[.slice (some ⟨g,0,none⟩) l.length cap, .int .u64 y, .func (.func 123) #[] #[]] w fun e w'=> ∃(p:Nat) (f:Value),e= .returned (.tuple #[.int .i64 p,f])/\p<=l.length/\(∀t (h:t<l.length),t<p->l[t].n<y)/\(∀t (h:t<l.length),p<=t->y<=l[t].n)/\w'=w:=by
 have HO:=Ab ho
 have HR:=Ab hr
 have HS:=Ab hs
 clear ho hr hs
 go_enter func122,ntmps122
 go_wp2_with fail
 go_loopg [9,10,11] l.length (fun gm s9 s10 s11 wr=> ∃i j:Nat,s9= .int .i64 i/\s10= .int .i64 j/\i<=j/\j<=l.length/\j - i<=gm/\Hid ((∀t (h:t<l.length),t<i->l[t].n<y)/\(∀t (h:t<l.length),j<=t->y<=l[t].n))/\wr=w)
 case atStart=>exact⟨0,l.length,rfl,rfl,by omega,by omega,by omega,Ab ⟨fun t h h2=>by omega,fun t h h2=>by omega⟩,rfl⟩
 case round=>
  obtain⟨i,j,rfl,rfl,hij,hjl,hg,H3,rfl⟩:=hrel
  by_cases hlt:i<j
  ·have hlz:(i:Int)<j:=by omega
   have hm:(i+j) / 2<l.length:=by omega
   obtain⟨r,hr⟩: ∃r,r=l[(i+j) / 2]:=⟨_,rfl⟩
   have HC:Hid (wr.cell? ⟨g,(i+j) / 2,none⟩=some (.pointer (some ⟨r.b,0,none⟩))):=Ab (by
    have:=(Aa HO).cell ((i+j) / 2) (by simpa using hm)
    rw[this,hr];simp)
   have HB:=Ab (Vt r y wr (Aa HR r (by rw[hr];exact List.getElem_mem hm)))
   by_cases hc:r.n<y
   ·have ec:cu r.n y= -1:=by unfold cu;rw[if_pos hc]
    rw[ec] at HB
    have HQ:Hid ((∀t (h:t<l.length),t<(i+j) / 2+1->l[t].n<y)/\(∀t (h:t<l.length),j<=t->y<=l[t].n)):=Ab ⟨fun t h h2=>(by
     rcases Nat.lt_or_ge t ((i+j) / 2) with h3|h3
     ·have h4:=(List.pairwise_iff_getElem.1 (Aa HS)) t ((i+j) / 2) h hm h3
      rw[←hr] at h4
      omega
     ·have h4:t=(i+j) / 2:=by omega
      subst h4
      rw[←hr];exact hc),(Aa H3).2⟩
    clear hr hc ec H3
    go_wp2_with (first|go_skip|(refine rd rfl (Gy 171 isAgg171 rfl rfl (Aa HC)) ?_))
    refine(Aa HB).mono ?_
    rintro _ _ ⟨rfl,rfl⟩
    go_wp2
    go_roundg (j - ((i+j) / 2+1))
    case measure=>omega
    case rel=>exact⟨(i+j) / 2+1,j,by first|rfl|(congr 1;omega),rfl,by omega,hjl,by omega,HQ,rfl⟩
   ·have ec: ¬cu r.n y<0:=by unfold cu;rw[if_neg hc];split<;>omega
    generalize cu r.n y=c at *
    have HQ:Hid ((∀t (h:t<l.length),t<i->l[t].n<y)/\(∀t (h:t<l.length),(i+j) / 2<=t->y<=l[t].n)):=Ab ⟨(Aa H3).1,fun t h h2=>(by
     rcases Nat.lt_or_ge ((i+j) / 2) t with h3|h3
     ·have h4:=(List.pairwise_iff_getElem.1 (Aa HS)) ((i+j) / 2) t hm h h3
      rw[←hr] at h4
      omega
     ·have h4:t=(i+j) / 2:=by omega
      subst h4
      rw[←hr];omega)⟩
    clear hr hc H3
    go_wp2_with (first|go_skip|(refine rd rfl (Gy 171 isAgg171 rfl rfl (Aa HC)) ?_))
    refine(Aa HB).mono ?_
    rintro _ _ ⟨rfl,rfl⟩
    go_wp2
    go_roundg ((i+j) / 2 - i)
    case measure=>omega
    case rel=>exact⟨i,(i+j) / 2,rfl,by first|rfl|(congr 1;omega),by omega,by omega,by omega,HQ,rfl⟩
  ·have hlz: ¬(i:Int)<j:=by omega
   have hij2:i=j:=by omega
   subst hij2
   by_cases he:i<l.length
   ·have hez:(i:Int)<l.length:=by omega
    obtain⟨r,hr⟩: ∃r,r=l[i]:=⟨_,rfl⟩
    have HC:Hid (wr.cell? ⟨g,i,none⟩=some (.pointer (some ⟨r.b,0,none⟩))):=Ab (by
     have:=(Aa HO).cell i (by simpa using he)
     rw[this,hr];simp)
    have HB:=Ab (Vt r y wr (Aa HR r (by rw[hr];exact List.getElem_mem he)))
    generalize cu r.n y=c at *
    clear hr
    go_wp2_with (first|go_skip|(refine rd rfl (Gy 171 isAgg171 rfl rfl (Aa HC)) ?_))
    refine(Aa HB).mono ?_
    rintro _ _ ⟨rfl,rfl⟩
    go_wp2
    go_ret2
    exact⟨i,_,rfl,hjl,(Aa H3).1,(Aa H3).2,rfl⟩
   ·have hez: ¬(i:Int)<l.length:=by omega
    go_wp2
    go_ret2
    exact⟨i,⟨_,rfl⟩,hjl,(Aa H3).1,(Aa H3).2,rfl⟩
theorem bs_nil (y:Nat) (A:Option Addr) (cap:Nat) (w:World):
  Calls prog 122 #[.slice A 0 cap, .int .u64 y, .func (.func 123) #[] #[]] w fun e w'=> ∃(p:Nat) (f:Value),e= .returned (.tuple #[.int .i64 p,f])/\p=0/\w'=w:=by
 go_enter func122,ntmps122
 go_wp2_with fail
 go_loopg [9,10,11] 0 (fun gm s9 s10 s11 wr=>s9= .int .i64 0/\s10= .int .i64 0/\wr=w)
 case atStart=>exact⟨rfl,rfl,rfl⟩
 case round=>
  obtain⟨rfl,rfl,rfl⟩:=hrel
  go_wp2
  go_ret2
  exact⟨0,_,rfl,rfl,rfl⟩
theorem find_at {l:List RR} {P:RR->Bool} {j:Nat} (hj:j<l.length) (h:P l[j]=true) (hb: ∀t (ht:t<l.length),t<j->P l[t]=false):l.find? P=some l[j]:=by
 rw[List.find?_eq_some_iff_getElem]
 exact⟨h,j,hj,rfl,fun t ht=>by rw[hb t (by omega) ht];rfl⟩
theorem find_none {l:List RR} {P:RR->Bool} (hb: ∀t (ht:t<l.length),P l[t]=false):l.find? P=none:=by
 rw[List.find?_eq_none]
 intro x hx
 obtain⟨t,ht,rfl⟩:=List.getElem_of_mem hx
 rw[hb t ht]
 simp
def Ep (n:Nat) (r:RR):Bool:=decide (n<r.n) && !r.gone
def TT.next (T:TT) (n:Nat):Option RR:=T.rows.find? (Ep n)
theorem slice70 (g n cap p:Nat) (hp:p<=n) (hn:n<=cap) (w:World): ∃off,(n - p≠0->off=p)/\(Instr.sliceAt 168 (.slice (some ⟨g,0,none⟩) n cap) (some (.int .i64 (p:Nat))) none none).run prog w= .ok (.slice (some ⟨g,off,none⟩) (n - p) (cap - p)) w:=by
 refine⟨if cap=p then 0 else p,fun h=>by rw[if_neg (by omega)], ?_⟩
 rw[run_sliceAt_slice (h:=by kernel_rfl),run_slice_l (ht:=by kernel_rfl) (h0:=by omega) (h1:=by omega)]
 have e:(sizeOf (prog.elem 168)).run prog w= .ok 1 w:=by kernel_rfl
 rw[e]
 by_cases h0:p=0
 ·subst h0
  simp[sliced,Addr.add,Result.andThen]
 ·by_cases h1:cap=p
  ·simp[sliced,Addr.add,Result.andThen,h0,h1]
  ·simp[sliced,Addr.add,Result.andThen,h0,h1]
theorem Zaz (w:World):(Instr.sliceAt 168 (.slice none 0 0) (some (.int .i64 (0:Nat))) none none).run prog w= .ok (.slice none 0 0) w:=by kernel_rfl
theorem Vk {o:Oper} {a:Act} {w:World} {x ix:Operand} {v u:Value} {p:Nat} (ho:o.op= .slice 168 x (some ix) none none) (hx:a.eval x=v) (hix:a.eval ix= .int .i64 (p:Nat)) (h:(Instr.sliceAt 168 v (some (.int .i64 (p:Nat))) none none).run prog w= .ok u w):(execOp a.eval o).run prog w= .ok (.value u) w:=by
 unfold execOp
 simp only[ho,hx]
 simp[hix,h]
theorem Zc1 (T:TT) (n g cap:Nat) (w:World) (hT:T.Is w) (hl:T.last<=4000000) (hn:n<4000000) (hv:T.rv= .slice (some ⟨g,0,none⟩) T.rows.length cap) (hcap:T.rows.length<=cap):Calls prog 110 #[.pointer (some ⟨T.t,0,none⟩), .int .u64 n] w fun e w'=>e= .returned (pv ((T.next n).map (·.b)))/\w'=w:=by
 have hlen:=hT.len
 have HO:Hid (OwnP w (.slice (some ⟨g,0,none⟩) T.rows.length cap) (T.rows.map (·.b))):=Ab (hv▸hT.own)
 have HB:=Ab (bs_rows g cap (n+1) T.rows w (Aa HO) hT.rows hT.rise (by omega))
 have HS:=Ab (fun p hp=>slice70 g T.rows.length cap p hp hcap w)
 have hlen2:=Ab hlen
 have HT:=Ab hT
 have hl2:=Ab hl
 have hn2:=Ab hn
 have HV:Hid (Holds w T.t [.map (some T.m), .slice (some ⟨g,0,none⟩) T.rows.length cap, .int .u64 T.last]):=Ab (by have:=hT.tab;unfold TT.cs at this;rw[hv] at this;exact this)
 have HX:Hid (∀j,(hj:j<T.rows.length)->w.cell? ⟨g,j,none⟩=some (.pointer (some ⟨T.rows[j].b,0,none⟩))/\Holds w T.rows[j].b T.rows[j].cs):=Ab (fun j hj=>⟨by
  have:=(Aa HO).cell j (by simpa using hj)
  rw[this];simp,hT.rows _ (List.getElem_mem hj)⟩)
 unfold TT.next
 obtain⟨l,hle⟩: ∃l,l=T.rows:=⟨_,rfl⟩
 rw[←hle] at HB HS hlen2 HV HX HO ⊢
 clear hle hv hcap hT hlen hl hn HO
 go_enter func110,ntmps110
 go_wp2_with (first|go_skip|(refine rd rfl (Ai 168 isAgg168 rfl rfl (Aa HV) rfl) ?_)|(refine rd rfl (Zae rfl rfl rfl (Aa hn2)) ?_))
 refine(Aa HB).mono ?_
 rintro _ w1 ⟨p,f,rfl,hp,h1,h2,rfl⟩
 obtain⟨off,ho,hs⟩:=(Aa HS) p hp
 have HX:=HX
 have H1:=Ab h1
 have H2:=Ab h2
 have HSl:=Ab hs
 have Ho:=Ab ho
 clear h1 h2 hs HS ho HB
 go_wp2_with (first|go_skip|(refine rd rfl (Ai 168 isAgg168 rfl rfl (Aa HV) rfl) ?_)|(refine rd rfl (Vk rfl rfl rfl (Aa HSl)) ?_))
 go_loopg [26,8] l.length (fun gm s26 s8 wr=> ∃i:Nat,s26= .int .i64 i/\i<=l.length - p/\l.length - p - i<=gm/\Hid (∀t (h:t<l.length),p<=t->t<p+i->l[t].gone=true)/\wr=w1)
 case atStart=>exact⟨0,rfl,by omega,by omega,Ab (fun t h h2 h3=>by omega),rfl⟩
 case round=>
  obtain⟨i,rfl,hi,hg,H3,rfl⟩:=hrel
  have hL:l.length<=4000000:=by have a:=Aa hlen2;have b:=Aa hl2;omega
  have hiz:i<=4000000:=by omega
  by_cases hlt:i<l.length - p
  ·have hlz:(i:Int)<((l.length - p:Nat):Int):=by omega
   have hm:p+i<l.length:=by omega
   obtain⟨r,hr⟩: ∃r,r=l[p+i]:=⟨_,rfl⟩
   obtain⟨hc1,hc2⟩:=(Aa HX) (p+i) hm
   rw[←hr] at hc1 hc2
   have HC:Hid (wr.cell? ⟨g,off+i,none⟩=some (.pointer (some ⟨r.b,0,none⟩))):=Ab (by rw[(Aa Ho) (by omega)];exact hc1)
   have HR:=Ab hc2
   clear hc1 hc2
   cases hgn:r.gone with
   |true=>
    have HR2:Hid (Holds wr r.b (r.k.cs++(r.d.cs++ [.int .u64 r.n, .bool true]))):=Ab (hgn▸Aa HR)
    have HQ:Hid (∀t (h:t<l.length),p<=t->t<p+(i+1)->l[t].gone=true):=Ab (fun t h h2 h3=>by
     rcases Nat.lt_or_ge t (p+i) with h4|h4
     ·exact(Aa H3) t h h2 h4
     ·have h5:t=p+i:=by omega
      subst h5
      rw[←hr];exact hgn)
    clear hr hgn H3 HR
    go_wp2_with (first|go_skip|(refine rd rfl (Gy 171 isAgg171 rfl rfl (Aa HC)) ?_)|(refine rd rfl (Ai 4 isAgg4 rfl rfl (Aa HR2) rfl) ?_))
    go_roundg (l.length - p - (i+1))
    case measure=>omega
    case rel=>exact⟨i+1,by go_num,hlt,Nat.le_refl _,HQ,rfl⟩
   |false=>
    have HR2:Hid (Holds wr r.b (r.k.cs++(r.d.cs++ [.int .u64 r.n, .bool false]))):=Ab (hgn▸Aa HR)
    have hfnd:l.find? (Ep n)=some r:=by
     rw[hr]
     refine find_at hm ?_ (fun t ht h4=> ?_)
     ·have:=(Aa H2) (p+i) hm (by omega)
      rw[←hr] at this ⊢
      simp[Ep,hgn];omega
     ·rcases Nat.lt_or_ge t p with h5|h5
      ·have:=(Aa H1) t ht h5
       simp[Ep];omega
      ·have:=(Aa H3) t ht h5 h4
       simp[Ep,this]
    have HF:=Ab hfnd
    clear hr hgn H3 HR hfnd
    go_wp2_with (first|go_skip|(refine rd rfl (Gy 171 isAgg171 rfl rfl (Aa HC)) ?_)|(refine rd rfl (Ai 4 isAgg4 rfl rfl (Aa HR2) rfl) ?_))
    go_ret
    refine⟨?_,rfl⟩
    rw[Aa HF]
    rfl
  ·have hlz: ¬(i:Int)<((l.length - p:Nat):Int):=by omega
   have hfnd:l.find? (Ep n)=none:=by
    refine find_none (fun t ht=> ?_)
    rcases Nat.lt_or_ge t p with h5|h5
    ·have:=(Aa H1) t ht h5
     simp[Ep];omega
    ·have:=(Aa H3) t ht h5 (by omega)
     simp[Ep,this]
   have HF:=Ab hfnd
   clear hfnd
   go_wp2
   go_ret
   refine⟨?_,rfl⟩
   rw[Aa HF]
   rfl
theorem Uo (T:TT) (n:Nat) (w:World) (hT:T.Is w) (hl:T.last<=4000000) (hn:n<4000000):Calls prog 110 #[.pointer (some ⟨T.t,0,none⟩), .int .u64 n] w fun e w'=>e= .returned (pv ((T.next n).map (·.b)))/\w'=w:=by
 rcases hT.own.2 with ⟨h1,h2⟩|⟨g,cap,cur,h1,h2,h3,h4,h5⟩
 ·have hr:T.rows= []:=by simpa using h2
  have HV:Hid (Holds w T.t [.map (some T.m), .slice none 0 0, .int .u64 T.last]):=Ab (by have:=hT.tab;unfold TT.cs at this;rw[h1] at this;exact this)
  have HB:=Ab (bs_nil (n+1) none 0 w)
  have HS:=Ab (Zaz w)
  have hn2:=Ab hn
  have HE:Hid (T.next n=none):=Ab (by unfold TT.next;rw[hr];rfl)
  clear hT hl hn h1 h2 hr
  go_enter func110,ntmps110
  go_wp2_with (first|go_skip|(refine rd rfl (Ai 168 isAgg168 rfl rfl (Aa HV) rfl) ?_)|(refine rd rfl (Zae rfl rfl rfl (Aa hn2)) ?_))
  refine(Aa HB).mono ?_
  rintro _ w1 ⟨p,f,rfl,rfl,rfl⟩
  go_wp2_with (first|go_skip|(refine rd rfl (Ai 168 isAgg168 rfl rfl (Aa HV) rfl) ?_)|(refine rd rfl (Vk rfl rfl rfl (Aa HS)) ?_))
  go_loopg [26,8] 0 (fun gm s26 s8 wr=>s26= .int .i64 0/\wr=w1)
  case atStart=>exact⟨rfl,rfl⟩
  case round=>
   obtain⟨rfl,rfl⟩:=hrel
   go_wp2
   go_ret
   refine⟨?_,rfl⟩
   rw[Aa HE]
   rfl
 ·have e:T.rv= .slice (some ⟨g,0,none⟩) T.rows.length cap:=by rw[h1];simp
  exact Zc1 T n g cap w hT hl hn e (by simpa using h4)
