import Derived.Test.YtieahhciibdnaaaGreatDoorRl
import Derived.Test.YtieahhciibdnaaaGreatDoorRm
set_option linter.all false
namespace Go.Proofs.YtieahhciibdnaaaGreatDoor
set_option maxRecDepth 100000
set_option maxHeartbeats 0
section
open Go Go.Proofs Go.Maps Go.RowKit FM Tryz
attribute [local go_sem] Ak Ae Aq Dl Dk Bl Af Aj Ad Bj Et Es
section
variable {md : Region.Mode} {ops : Array Oper} {Q : Exit → Act → World → Prop} {S : World → Prop} {w w0 : World} {fuel : Nat} {listed : Array Bool} {a : Act} {o : Oper} {E : List Nat} {L : List Ob}
theorem gmkS {t e:TypeId} {size bytes:Nat} {z:Value} {c x:Operand} (n:Nat) (i:Nat) (dst:Option Tmp) {rs:List Nat} (hi':ops[i]? =some o) (hd:o.dst=dst) (hw:Region.wanted o (yielded ops a.tmps)=true) (ho:o.op= .makeSlice t c x) (hc:a.eval c= .int .i64 0) (hx:a.eval x= .int .i64 (n:Nat))
  (ht:prog.underlying t=some (.slice e)) (hi:(prog.info? e).map (fun i=>(i.zero,i.size,i.bytes))=some (some z,size,bytes)) (hn:n<=100000) (hs:size<=100) (hby:bytes<=10000) (hL:Sy w0 w E L) (hS: ∀X,S X)
  (h: ∀X B,Sy w0 X E (L++ [Do 0 e size (.slice (some ⟨B,0,none⟩) 0 n) 0 []])->wpAnyH prog md ops Q S fuel (listed.setIfInBounds i true) (a.put dst (.slice (some ⟨B,0,none⟩) 0 n)) X) (hr:AllReadyH prog md ops Q S fuel listed a w rs):AllReadyH prog md ops Q S fuel listed a w (i::rs):=by
 obtain⟨i0,hi,hz0,hz1,hz2⟩:=info_parts hi
 obtain⟨wm,hrun,hm1,hm2⟩:=run_makeSlice_owned (P:=prog) w 0 t e i0 _ size ht hi hz0 hz1 .i64 .i64 n (Nat.le_trans (Nat.mul_le_mul hn hs) (by decide)) (by rw[hz2];exact Nat.le_trans (Nat.mul_le_mul hby hn) (by decide)) (by unfold maxLen;omega) (Nat.zero_le _)
 have he:(execOp a.eval o).run prog w= .ok (.value (.slice (some ⟨w.heap.size,0,none⟩) 0 n)) wm:=by
  unfold execOp
  simp only[ho,hc,hx]
  simp[hrun]
 exact Zd i dst hi' hd hw he (hS _) (h wm _ (hL.add (o:=Do 0 e size (.slice (some ⟨w.heap.size,0,none⟩) 0 n) 0 []) (Lk _ _ _ _ _ _) hm1 ⟨hm2.os,hm2.tape,hm2.output,hm2.size,fun k hk=>hm2.block k hk (by simp)⟩ (fun b hb=>by
  have:b=w.heap.size:=by simpa [Do,Value.ownBlock,eq_comm] using hb
  omega))) hr
theorem gmkT {α:Type} {t e:TypeId} {x:Operand} {n:Int} (R:Value->Option (DataW Unit×List MemPlace)) (dat:α->DataW Unit) (z:α) (i:Nat) (dst:Option Tmp) {rs:List Nat} (ht:prog.underlying t=some (.map 9 e)) (hi':ops[i]? =some o) (hd:o.dst=dst) (hw:Region.wanted o (yielded ops a.tmps)=true) (ho:o.op= .makeMap t (some x)) (hx:a.eval x= .int .i64 n) (hL:Sy w0 w E L) (hS: ∀X,S X)
  (h: ∀X B,Sy w0 X E (L++ [Eb R dat z B 0 (fun _=>none)])->wpAnyH prog md ops Q S fuel (listed.setIfInBounds i true) (a.put dst (.map (some B))) X) (hr:AllReadyH prog md ops Q S fuel listed a w rs):AllReadyH prog md ops Q S fuel listed a w (i::rs):=by
 have e2:(Instr.makeMap t (some (.int .i64 n))).run prog w= .ok (.map (some w.heap.size)) (w.alloc (.map #[] 0)):=by
  simp[Instr.makeMap,run_underlying ht,asInt,asIntOf,Result.andThen]
 have he:(execOp a.eval o).run prog w= .ok (.value (.map (some w.heap.size))) (w.alloc (.map #[] 0)):=by
  unfold execOp
  simp only[ho,hx,Option.map_some]
  simp[e2]
 exact Zd i dst hi' hd hw he (hS _) (h _ w.heap.size (hL.add (Nw R dat z _ _ _) (MapT.made w) ((Below.refl _ _).alloc (Nat.le_refl _) _) (fun b hb=>by rw[List.mem_singleton.1 hb];exact Nat.le_refl _))) hr
theorem Zd1 {t e:TypeId} {size bytes n B base:Nat} {z v:Value} {xs news:List Value} {s x:Operand} {rs:List Nat} (k j:Nat) (i:Nat) (dst:Option Tmp) (hi':ops[i]? =some o) (hd:o.dst=dst) (hw:Region.wanted o (yielded ops a.tmps)=true) (ho:o.op= .call {callee:= .builtin .append,args:= #[s,x],argTypes:= #[t,t]}) (hs:a.eval s=v) (hx:a.eval x= .slice (some ⟨B,0,none⟩) 1 1)
  (ht:prog.underlying t=some (.slice e)) (hi:(prog.info? e).map (fun i=>(i.zero,i.size,i.bytes))=some (some z,size,bytes)) (hz:z.cells.size=size) (hsz:0<size) (hL:Sy w0 w E L) (hi1:L[k]? =some (Do base e size v n xs)) (hj1:L[j]? =some (Ao B news)) (hl:news.length=size) (h1: ∀u∈news,u.oneCell'=true)
  (hn:n+1<=4000000) (hby:bytes<=10000) (hbase:base<=w.heap.size) (hS: ∀X,S X) (h: ∀A c X,Sy w0 X E (L.set k (Do base e size (.slice A (n+1) c) (n+1) (xs++news)))->wpAnyH prog md ops Q S fuel (listed.setIfInBounds i true) (a.put dst (.slice A (n+1) c)) X) (hr:AllReadyH prog md ops Q S fuel listed a w rs):AllReadyH prog md ops Q S fuel listed a w (i::rs):=by
 obtain⟨A,c',w',hrun,h2,h3,h4⟩:=ex_app (n:=n) (m:=1) (c:=1) ho hs hx ht hi hz hsz (hL.get k hi1) (hL.hold j hj1) (by rw[hl];omega) h1 hn hby hbase
 exact Zd i dst hi' hd hw hrun (hS _) (h A c' w' (hL.row k hi1 h2 h3 h4)) hr
theorem gupT {α:Type} {R:Value->Option (DataW Unit×List MemPlace)} {val:α->Value} {dat:α->DataW Unit} {z:α} {t e:TypeId} {m x y:Operand} {b n:Nat} {F:ByteArray->Option α} {q:ByteArray} {rs:List Nat} (k:Nat) (r:α) (V:Enc R val dat) (T:EncT val z t e) (i:Nat) (hi':ops[i]? =some o) (hd:o.dst=none) (hw:Region.wanted o (yielded ops a.tmps)=true) (ho:o.op= .mapUpdate t m x y) (hm:a.eval m= .map (some b)) (hx:a.eval x= .string q) (hy:a.eval y=val r) (hk:okN q) (hn:n<maxLen) (hL:Sy w0 w E L) (hg:L[k]? =some (Eb R dat z b n F))
  (hS: ∀X,S X) (h: ∀X,Sy w0 X E (L.set k (Eb R dat z b (n+1) (Mx F q (some r))))->wpAnyH prog md ops Q S fuel (listed.setIfInBounds i true) (a.put none undef) X) (hr:AllReadyH prog md ops Q S fuel listed a w rs):AllReadyH prog md ops Q S fuel listed a w (i::rs):=by
 obtain⟨X,hrun,hM,ht⟩:=MapT.store V T (show MapT R dat z w b n F from hL.get k hg) hk hn r
 have S1:=hL.set k hg (Nw R dat z b (n+1) (Mx F q (some r))) hM (Zm ht) (fun b hb=> .inl hb)
 have he:(execOp a.eval o).run prog w= .ok .skip X:=by
  unfold execOp
  simp only[ho,hm,hx,hy]
  simp[hrun]
 exact Qj i none hi' hd hw he (hS _) (h _ S1) hr
end
def nmB (l:List ByteArray):List BN:=l.map (fun s=>⟨s,zeroV⟩)
theorem Mb {ns:List ByteArray} {i:Nat} {s:ByteArray} (h:ns[i]? =some s):(nmB (ns.take i)).flatMap BN.cs++BN.cs ⟨s,zeroV⟩=(nmB (ns.take (i+1))).flatMap BN.cs:=by
 rw[Vf h]
 simp[nmB]
theorem Gk (l:List ByteArray):(nmB l).length=l.length:=by simp[nmB]
def plF (l:List ByteArray):Nat->ByteArray->Option Nat
 |0=>fun _=>none
 |i+1=>Mx (plF l i) ((l[i]?).getD ByteArray.empty) (some i)
theorem Ma {l:List ByteArray} {i:Nat} {s:ByteArray} (h:l[i]? =some s):Mx (plF l i) s (some i)=plF l (i+1):=by
 show _=Mx (plF l i) ((l[i]?).getD ByteArray.empty) (some i)
 rw[h]
 rfl
theorem ZcW {l:List ByteArray}: ∀(i:Nat),i<=l.length-> ∀(s:ByteArray) (j:Nat),plF l i s=some j->l[j]? =some s
 |0,_,s,j,h=>by cases h
 |i+1,hi,s,j,h=>by
  have hs:l[i]? =some l[i]:=List.getElem?_eq_getElem (by omega)
  rw[←Ma hs] at h
  unfold Mx at h
  split at h
  ·rename_i e
   cases h
   rw[hs,e]
  ·exact ZcW i (by omega) s j h
theorem ZcX {l:List ByteArray} (hn:l.Nodup): ∀(i:Nat),i<=l.length-> ∀(j:Nat) (s:ByteArray),j<i->l[j]? =some s->plF l i s=some j
 |0,_,j,s,h,_=>by omega
 |i+1,hi,j,s,h,hs=>by
  have hs2:l[i]? =some l[i]:=List.getElem?_eq_getElem (by omega)
  rw[←Ma hs2]
  unfold Mx
  obtain⟨hj,hjs⟩:=List.getElem?_eq_some_iff.1 hs
  by_cases e:j=i
  ·subst e
   rw[if_pos hjs.symm]
  ·have: ¬s=l[i]:=fun e2=>by
    have:=List.pairwise_iff_getElem.1 hn j i hj (by omega) (by omega)
    exact this (hjs.trans e2)
   rw[if_neg this]
   exact ZcX hn i (by omega) j s (by omega) hs
structure NewX (ns:List ByteArray) (p:EX):Prop where
 W:p.Wf
 nm:(p.l.map (·.n)).Perm ns
 z: ∀a∈p.l,a.v=zeroV
 srt: ∀(i j:Nat) (x y:BN),i<j->p.l[i]? =some x->p.l[j]? =some y->M.cmpL (unS x.n) (unS y.n)<=0
def mkGB (ns:List ByteArray) (h: ∀s∈ns,gkN s=true) (hv: ∀s,gkN s=true->vS s=true/\s.size<=1048576):List GB:=ns.pmap (fun s hs=>⟨⟨s,zeroV⟩,hs⟩) (fun s hs=>hv s (h s hs))
theorem Qd {ns:List ByteArray} (h: ∀s∈ns,gkN s=true) (hv: ∀s,gkN s=true->vS s=true/\s.size<=1048576):(mkGB ns h hv).map (·.1)=nmB ns:=by
 unfold mkGB nmB
 rw[List.map_pmap]
 simp
theorem ZaF (l:List GB):l.flatMap Dw=(l.map (·.1)).flatMap BN.cs:=by
 rw[List.flatMap_map]
 rfl
theorem Rk (s:ByteArray) (h:gkN s=true):vS s=true/\s.size<=1048576:=by
 unfold gkN at h
 rw[ZbG] at h
 simp at h
 exact⟨h.2,h.1⟩
theorem Zx {ns:List ByteArray} (h:Ko ns=0):(∀s∈ns,gkN s=true)/\ns.Nodup:=by
 unfold Ko at h
 split at h
 ·rename_i hb
  unfold Zd9 at hb
  simp only[Bool.and_eq_true,List.all_eq_true,decide_eq_true_eq] at hb
  exact hb
 ·cases h
theorem Zc3 {ns:List ByteArray} {l l':List GB} {b pb pn:Nat} {lv:Value} (hn:ns.Nodup) (hl:l.map (·.1)=nmB ns) (hp:l'.Perm l) (hs: ∀(a b:Nat) (x y:GB),a<b->l'[a]? =some x->l'[b]? =some y->Yn x y<=0) (hz:ns.length<=1000):
  NewX ns ⟨b,lv,l'.map (·.1),pb,pn,plF ((l'.map (·.1)).map (·.n)) l'.length⟩:=by
 have hm:((l'.map (·.1)).map (·.n)).Perm ns:=by
  have h1:=(hp.map (·.1)).map BN.n
  rw[hl] at h1
  have e:(nmB ns).map BN.n=ns:=by simp[nmB,Function.comp_def]
  rwa [e] at h1
 have hlen:l'.length=ns.length:=by have:=hm.length_eq;simpa using this
 have hnd:((l'.map (·.1)).map (·.n)).Nodup:=hm.nodup_iff.2 hn
 refine⟨⟨fun s i hi=> ?_,fun i a ha=> ?_,fun a ha=> ?_,by show (l'.map (·.1)).length<=1000;rw[List.length_map];omega⟩,hm,fun a ha=> ?_,fun i j x y hij hx hy=> ?_⟩
 ·have h1:=ZcW l'.length (by simp) s i hi
  rw[List.getElem?_map] at h1
  show ∃v,(l'.map (·.1))[i]? =some ⟨s,v⟩
  cases h2:(l'.map (·.1))[i]? with
  |none=>rw[h2] at h1;cases h1
  |some a=>
   rw[h2] at h1
   have h1:some a.n=some s:=h1
   exact⟨a.v,by rw[←Option.some.inj h1]⟩
 ·have ha:(l'.map (·.1))[i]? =some a:=ha
  exact ZcX hnd l'.length (by simp) i a.n (by have:=(List.getElem?_eq_some_iff.1 ha).1;simpa using this) (by rw[List.getElem?_map,ha];rfl)
 ·obtain⟨g, -,rfl⟩:=List.mem_map.1 ha
  exact g.2.2
 ·have h1:a∈l.map (·.1):=(hp.map (·.1)).mem_iff.1 ha
  rw[hl] at h1
  obtain⟨s, -,rfl⟩:=List.mem_map.1 h1
  rfl
 ·have hx:(l'.map (·.1))[i]? =some x:=hx
  have hy:(l'.map (·.1))[j]? =some y:=hy
  rw[List.getElem?_map] at hx hy
  cases h1:l'[i]? with
  |none=>rw[h1] at hx;cases hx
  |some g=>
   cases h2:l'[j]? with
   |none=>rw[h2] at hy;cases hy
   |some g2=>
    rw[h1] at hx
    rw[h2] at hy
    cases hx
    cases hy
    exact hs i j g g2 hij h1 h2
theorem Uc:(prog.info? 130).map (fun i=>(i.zero,i.size,i.bytes))=some (some (.agg Jb.cs.toArray),6,64):=by kernel_rfl
theorem ZaL {o:Oper} {a:Act} {w:World} {x:Operand} {s:ByteArray} (ho:o.op= .build 130 #[(0,x)]) (hx:a.eval x= .string s):(execOp a.eval o).run prog w= .ok (.value (.agg (BN.cs ⟨s,zeroV⟩).toArray)) w:=by
 have e:(Instr.build 130 #[(0, .string s)]).run prog w= .ok (.agg (BN.cs ⟨s,zeroV⟩).toArray) w:=by kernel_rfl
 unfold execOp
 simp only[ho,List.map_toArray,List.map_cons,List.map_nil,hx]
 simp[e]
theorem Ru {o:Oper} {a:Act} {w:World} {x0:Operand} {b:BN} (ho:o.op= .buildSlice 125 1 #[(0,x0)]) (h0:a.eval x0= .agg b.cs.toArray):(execOp a.eval o).run prog w= .ok (.value (.slice (some ⟨w.heap.size,0,none⟩) 1 1)) (w.alloc (Obj.cells b.cs.toArray 130)):=by
 have e:(Instr.buildSlice 125 1 #[(0, .agg b.cs.toArray)]).run prog w= .ok (.slice (some ⟨w.heap.size,0,none⟩) 1 1) (w.alloc (Obj.cells b.cs.toArray 130)):=by kernel_rfl
 unfold execOp
 simp only[ho,List.map_toArray,List.map_cons,List.map_nil,h0]
 simp[e]
theorem ex_bEX {o:Oper} {a:Act} {w:World} {x y:Operand} {B n c:Nat} {q:Nat} (ho:o.op= .build 128 #[(0,x),(1,y)]) (hx:a.eval x= .slice (some ⟨B,0,none⟩) n c) (hy:a.eval y= .map (some q)):(execOp a.eval o).run prog w= .ok (.value (.agg #[.slice (some ⟨B,0,none⟩) n c, .map (some q)])) w:=by
 have e:(Instr.build 128 #[(0, .slice (some ⟨B,0,none⟩) n c),(1, .map (some q))]).run prog w= .ok (.agg #[.slice (some ⟨B,0,none⟩) n c, .map (some q)]) w:=by kernel_rfl
 unfold execOp
 simp only[ho,List.map_toArray,List.map_cons,List.map_nil,hx,hy]
 simp[e]
def LX1 (w:World) (ns:List ByteArray) (Bx Bm i:Nat) (wr:World):Prop:= ∃g c,Sy w wr [] [Ao Bx [.slice (some ⟨g,0,none⟩) i c, .map (some Bm)],Do 0 130 6 (.slice (some ⟨g,0,none⟩) i c) i ((nmB (ns.take i)).flatMap BN.cs),Eb iR iD 0 Bm 0 (fun _=>none)]
def nmG (l:List GB):List ByteArray:=(l.map (·.1)).map (·.n)
theorem nmG_at {l:List GB} {i:Nat} {b:GB} (h:l[i]? =some b):(nmG l)[i]? =some b.1.n:=by
 unfold nmG
 rw[List.getElem?_map,List.getElem?_map,h]
 rfl
theorem ZdP (A:Option Addr) {n c:Nat}: ∀u∈ [Value.slice A n c],u.oneCell'=true:=by simp[Value.oneCell']
theorem szx:(prog.info? 125).map (·.size)=some 1:=by kernel_rfl
def LX2 (l:List GB) (Bx Bm g c n i:Nat):List Ob:= [Ao Bx [.slice (some ⟨g,0,none⟩) n c, .map (some Bm)],Do 0 130 6 (.slice (some ⟨g,0,none⟩) n c) n (l.flatMap Dw),Eb iR iD 0 Bm i (plF (nmG l) i)]
theorem Xf {l:List GB} {Bx Bm g c n i:Nat} (hl:l.length=n):LX2 l Bx Bm g c n i=(⟨Bx, .slice (some ⟨g,0,none⟩) n c,l.map (·.1),Bm,i,plF (nmG l) i⟩:EX).things:=by
 subst hl
 unfold LX2 EX.things
 simp only[List.length_map,ZaF]
 rfl
theorem xis_of {w X:World} {l:List GB} {Bx Bm g c n i:Nat} (hl:l.length=n) (S:Sy w X [] (LX2 l Bx Bm g c n i)):(⟨Bx, .slice (some ⟨g,0,none⟩) n c,l.map (·.1),Bm,i,plF (nmG l) i⟩:EX).Is X:=by
 rw[Xf hl] at S
 exact⟨S.ho,S.dis⟩
theorem xfresh {w X:World} {l:List GB} {Bx Bm g c n i:Nat} (hl:l.length=n) (S:Sy w X [] (LX2 l Bx Bm g c n i)): ∀b∈(⟨Bx, .slice (some ⟨g,0,none⟩) n c,l.map (·.1),Bm,i,plF (nmG l) i⟩:EX).blocks,w.heap.size<=b:=by
 rw[Xf hl] at S
 intro b hb
 obtain⟨o,ho,hb⟩:=List.mem_flatMap.1 hb
 exact(S.lo o ho b hb).elim (fun h=>by cases h) id
theorem Vx (B:Option Addr) (c0:Nat) (ns:List ByteArray) (w:World) (hT:Lib.Utf8Tabs 1 2 w) (h3:3<=w.heap.size) (hR:ReadsN w B ns) (hE:Ko ns=0) (hz:ns.length<=1000):Calls prog 32 #[.slice B ns.length c0] w fun e w'=> ∃p:EX,e= .returned (.pointer (some ⟨p.b,0,none⟩))/\NewX ns p/\p.Is w'/\Below w.heap.size w w'/\ ∀b∈p.blocks,w.heap.size<=b:=by
 have SS:=Ab (Sy.nil w [])
 have HT:=Ab hT
 clear hT
 have HR:=Ab hR
 have HG:=Ab (Zx hE)
 have H3:=Ab h3
 clear hR hE h3
 go_enter func32,ntmps32
 go_wp2_with fail
 have hS0b:Sy w _ [] []:=(Aa SS).drew
 clear SS
 refine wp_region_held_drew (P:=prog) (S:=fun _=>True) (by kernel_rfl) (trivial) (fun hS0=> ?_)
 refine gp 0 (some 8) (.slice B ns.length c0) rfl rfl (trivial) ?_
 refine gq 1 (some 9) (.int .i64 (ns.length:Nat)) rfl rfl (fun X hX=>Bo 22 9 underlying22 rfl rfl) (trivial) ?_
 refine gp 3 (some 11) (.slice B ns.length c0) rfl rfl (trivial) ?_
 refine gq 4 (some 12) (.int .i64 (ns.length:Nat)) rfl rfl (fun X hX=>Bo 22 9 underlying22 rfl rfl) (trivial) ?_
 refine gr (rs:= [2,5]) (gmkS ns.length 2 (some 10) rfl rfl (by kernel_rfl) rfl rfl rfl underlying125 Uc (by omega) (by decide) (by decide) hS0b (fun _=>trivial) ?_ (gmkT iR iD 0 5 (some 13) Yj.und rfl rfl (by kernel_rfl) rfl rfl hS0b (fun _=>trivial) ?_ gn))
 ·intro Ys1 Bs1 hqs1
  simp only[nn]
  refine gr (rs:= [5]) (gmkT iR iD 0 5 (some 13) Yj.und rfl rfl (by kernel_rfl) rfl rfl hqs1 (fun _=>trivial) ?_ gn)
  intro Ys2 Bs2 hqs2
  refine gq 6 (some 14) (.agg #[.slice (some ⟨Bs1,0,none⟩) 0 ns.length, .map (some Bs2)]) rfl rfl (fun X hX=>ex_bEX rfl rfl rfl) (trivial) ?_
  refine gr (rs:= [7]) (Ze 7 (some 15) 128 ([.slice (some ⟨Bs1,0,none⟩) 0 ns.length, .map (some Bs2)]) rfl rfl (by kernel_rfl) rfl rfl rfl (Nat.succ_pos _) hqs2 (fun _ hZ=>trivial) ?_ gn)
  intro Ys3 Bs3 hEs3 hqs3
  clear hEs3
  refine gp 8 (some 3) (.pointer (some ⟨Bs3,0,none⟩)) rfl rfl (trivial) ?_
  refine dn ?_
  try simp only[nn]
  have hq9:=hqs3.perm (List.perm_append_comm (l₁:= [_,_]) (l₂:= [_]))
  have HI0:Hid (LX1 w ns Bs3 Bs2 0 _):=Ab ⟨_,_,hq9⟩
  clear hq9 hqs3
  obtain⟨Bx,hBx⟩: ∃Bx,Bx=Bs3:=⟨_,rfl⟩
  obtain⟨Bm,hBm⟩: ∃Bm,Bm=Bs2:=⟨_,rfl⟩
  rw[←hBx,←hBm] at HI0
  rw[←hBx]
  clear hBx hBm
  go_wp2_with (first|go_skip|((with_reducible show wpList ..);first|(refine rd rfl (Bo 22 9 underlying22 rfl rfl) ?_)))
  go_loopg [18] ns.length (fun gm s18 wr=> ∃i:Nat,s18= .int .i64 (i:Nat)/\i<=ns.length/\ns.length - i<=gm/\Hid (LX1 w ns Bx Bm i wr))
  case atStart=>exact⟨0,rfl,by omega,by omega,HI0⟩
  case round=>
   clear HI0
   obtain⟨i,rfl,hil,hgm,HI⟩:=hrel
   by_cases hlt:i<ns.length
   ·have dlt:decide ((i:Int)<(ns.length:Int))=true:=decide_eq_true (by omega)
    have hw1:IntKind.i64.wrap ((i:Int)+1)=(i:Int)+1:=by rw[IntKind.wrap_i64];omega
    obtain⟨s,hs⟩: ∃s,ns[i]? =some s:=⟨_,List.getElem?_eq_getElem hlt⟩
    obtain⟨b,off,hA,hb,hcell⟩:=(Aa HR) i s hs
    have HC:Hid (∀X:World,Fr w X []->X.cell? ⟨b,off+i * 1,none⟩=some (.string s)):=Ab (fun X k=>by rw[World.cell?_of_block (k.block b hb (by simp))];exact hcell)
    subst hA
    have HLT:=Ab hlt
    have HNS:=Ab hs
    have HSZ:=Ab (Qk ((Aa HG).1 s (List.mem_of_getElem? hs)))
    obtain⟨g,c,hS1⟩:=Aa HI
    have SS:=Ab hS1
    clear HI hS1 hb hcell hlt hil hs
    go_wp2_with (first|go_skip|((with_reducible show wpList ..);first|(refine rd rfl (Bp 22 1 i Zdw ZdY rfl rfl rfl (Aa HLT)) ?_)|(refine rd rfl (Dc 9 isAgg9 rfl rfl (Aa HC _ (Aa SS).fr)) ?_)))
    have hS5:Sy w _ [] [Ao Bx [.slice (some ⟨g,0,none⟩) i c, .map (some Bm)],Do 0 130 6 (.slice (some ⟨g,0,none⟩) i c) i ((nmB (ns.take i)).flatMap BN.cs),Eb iR iD 0 Bm 0 (fun _=>none)]:=(Aa SS).drew
    clear SS
    refine wp_region_held_drew (P:=prog) (S:=fun _=>True) (by kernel_rfl) (trivial) (fun hS0=> ?_)
    refine gp 0 (some 22) (.pointer (some ⟨Bx,0,none⟩)) rfl rfl (trivial) ?_
    refine gp 1 (some 23) (.pointer (some ⟨Bx,0,none⟩)) rfl rfl (trivial) ?_
    refine gp 2 (some 24) (.pointer (some ⟨Bx,0,none⟩)) rfl rfl (trivial) ?_
    refine gp 3 (some 25) (.pointer (some ⟨Bx,0,none⟩)) rfl rfl (trivial) ?_
    refine gp 5 (some 27) (.string s) rfl rfl (trivial) ?_
    refine gr (rs:= [4,6]) (gv 4 (some 26) rfl rfl (Ag 125 isAgg125 rfl rfl (hS5.hold 0 rfl) rfl) (trivial) ?_ (gc 6 (some 28) rfl rfl (Gq s _ (Aa HSZ)) ?_ gn))
    ·simp only[nn]
     refine gr (rs:= [6]) (gc 6 (some 28) rfl rfl (Gq s _ (Aa HSZ)) ?_ gn)
     rintro e Yt2 ⟨rfl,hYt2⟩
     have hqt2:=Sy.on hS5 hYt2
     refine⟨_,rfl,trivial, ?_⟩
     refine gq 7 (some 29) (.agg (BN.cs ⟨s,zeroV⟩).toArray) rfl rfl (fun X hX=>ZaL rfl rfl) (trivial) ?_
     refine gr (rs:= [8]) (Ax 8 (some 30) rfl rfl (by kernel_rfl) (Ru (b:=⟨s,zeroV⟩) rfl rfl) (Nat.succ_pos _) hqt2 (fun _ hZ=>trivial) ?_ gn)
     intro Yt3 Bt3 hEt3 hqt3
     clear hEt3
     simp only[nn]
     refine gr (rs:= [9]) (Zd1 1 3 9 (some 31) rfl rfl (by kernel_rfl) rfl rfl rfl underlying125 Uc rfl (by decide) hqt3 rfl rfl rfl (Ey _) (by omega) (by decide) (Nat.zero_le _) (fun _=>trivial) ?_ gn)
     intro At4 ct4 Yt4 hqt4
     refine gp 10 (some 32) (.pointer (some ⟨Bx,0,none⟩)) rfl rfl (trivial) ?_
     refine gp 11 (some 33) (.pointer (some ⟨Bx,0,none⟩)) rfl rfl (trivial) ?_
     refine gr (rs:= [12]) (Jd (vs:= [.slice At4 (i+1) ct4]) (new:= [.slice At4 (i+1) ct4, .map (some Bm)]) 12 0 125 rfl rfl (by kernel_rfl) rfl rfl rfl rfl (ZdP _) szx hqt4 rfl (by simp[Bz,VV.cs,KK.cs,DD.cs,OB.cs,hcs,Ar,zeroV]) (by simp[Bz,VV.cs,KK.cs,DD.cs,OB.cs,hcs,Ar,zeroV]) (fun _ hZ=>trivial) ?_ gn)
     intro Yt5 hqt5
     refine dn ?_
     try simp only[nn]
     have hq9:=Sy.left (L:= [_,_,_]) (M:= [_]) hqt5
     rw[Mb (Aa HNS)] at hq9
     obtain⟨g2,c2,e2, -, -, -⟩:=Ju (f:=BN.cs) Lw (hq9.get 1 rfl:World.ownsRow _ 0 130 6 (.slice At4 (i+1) ct4) (i+1) _) (by rw[Gk,List.length_take];have:=Aa HLT;omega) i (by rw[Gk,List.length_take];have:=Aa HLT;omega)
     cases e2
     have HI4:Hid (LX1 w ns Bx Bm (i+1) _):=Ab ⟨_,_,hq9⟩
     clear hq9 hqt5
     go_wp2
     go_roundg (ns.length - (i+1))
     case measure=>have:=Aa HLT;omega
     case rel=>exact⟨i+1,by go_num,by have:=Aa HLT;omega,by omega,HI4⟩
    ·rintro e Yt6 ⟨rfl,hYt6⟩
     have hqt6:=Sy.on hS5 hYt6
     refine⟨_,rfl,trivial, ?_⟩
     refine gq 7 (some 29) (.agg (BN.cs ⟨s,zeroV⟩).toArray) rfl rfl (fun X hX=>ZaL rfl rfl) (trivial) ?_
     refine gr (rs:= [4,8]) (gv 4 (some 26) rfl rfl (Ag 125 isAgg125 rfl rfl (hqt6.hold 0 rfl) rfl) (trivial) ?_ (Ax 8 (some 30) rfl rfl (by kernel_rfl) (Ru (b:=⟨s,zeroV⟩) rfl rfl) (Nat.succ_pos _) hqt6 (fun _ hZ=>trivial) ?_ gn))
     ·simp only[nn]
      refine gr (rs:= [8]) (Ax 8 (some 30) rfl rfl (by kernel_rfl) (Ru (b:=⟨s,zeroV⟩) rfl rfl) (Nat.succ_pos _) hqt6 (fun _ hZ=>trivial) ?_ gn)
      intro Yt8 Bt8 hEt8 hqt8
      clear hEt8
      simp only[nn]
      refine gr (rs:= [9]) (Zd1 1 3 9 (some 31) rfl rfl (by kernel_rfl) rfl rfl rfl underlying125 Uc rfl (by decide) hqt8 rfl rfl rfl (Ey _) (by omega) (by decide) (Nat.zero_le _) (fun _=>trivial) ?_ gn)
      intro At9 ct9 Yt9 hqt9
      refine gp 10 (some 32) (.pointer (some ⟨Bx,0,none⟩)) rfl rfl (trivial) ?_
      refine gp 11 (some 33) (.pointer (some ⟨Bx,0,none⟩)) rfl rfl (trivial) ?_
      refine gr (rs:= [12]) (Jd (vs:= [.slice At9 (i+1) ct9]) (new:= [.slice At9 (i+1) ct9, .map (some Bm)]) 12 0 125 rfl rfl (by kernel_rfl) rfl rfl rfl rfl (ZdP _) szx hqt9 rfl (by simp[Bz,VV.cs,KK.cs,DD.cs,OB.cs,hcs,Ar,zeroV]) (by simp[Bz,VV.cs,KK.cs,DD.cs,OB.cs,hcs,Ar,zeroV]) (fun _ hZ=>trivial) ?_ gn)
      intro Yt10 hqt10
      refine dn ?_
      try simp only[nn]
      have hq9:=Sy.left (L:= [_,_,_]) (M:= [_]) hqt10
      rw[Mb (Aa HNS)] at hq9
      obtain⟨g2,c2,e2, -, -, -⟩:=Ju (f:=BN.cs) Lw (hq9.get 1 rfl:World.ownsRow _ 0 130 6 (.slice At9 (i+1) ct9) (i+1) _) (by rw[Gk,List.length_take];have:=Aa HLT;omega) i (by rw[Gk,List.length_take];have:=Aa HLT;omega)
      cases e2
      have HI4:Hid (LX1 w ns Bx Bm (i+1) _):=Ab ⟨_,_,hq9⟩
      clear hq9 hqt10
      go_wp2
      go_roundg (ns.length - (i+1))
      case measure=>have:=Aa HLT;omega
      case rel=>exact⟨i+1,by go_num,by have:=Aa HLT;omega,by omega,HI4⟩
     ·intro Yt11 Bt11 hEt11 hqt11
      clear hEt11
      simp only[nn]
      refine gr (rs:= [4]) (gv 4 (some 26) rfl rfl (Ag 125 isAgg125 rfl rfl (hqt11.hold 0 rfl) rfl) (trivial) ?_ gn)
      simp only[nn]
      refine gr (rs:= [9]) (Zd1 1 3 9 (some 31) rfl rfl (by kernel_rfl) rfl rfl rfl underlying125 Uc rfl (by decide) hqt11 rfl rfl rfl (Ey _) (by omega) (by decide) (Nat.zero_le _) (fun _=>trivial) ?_ gn)
      intro At13 ct13 Yt13 hqt13
      refine gp 10 (some 32) (.pointer (some ⟨Bx,0,none⟩)) rfl rfl (trivial) ?_
      refine gp 11 (some 33) (.pointer (some ⟨Bx,0,none⟩)) rfl rfl (trivial) ?_
      refine gr (rs:= [12]) (Jd (vs:= [.slice At13 (i+1) ct13]) (new:= [.slice At13 (i+1) ct13, .map (some Bm)]) 12 0 125 rfl rfl (by kernel_rfl) rfl rfl rfl rfl (ZdP _) szx hqt13 rfl (by simp[Bz,VV.cs,KK.cs,DD.cs,OB.cs,hcs,Ar,zeroV]) (by simp[Bz,VV.cs,KK.cs,DD.cs,OB.cs,hcs,Ar,zeroV]) (fun _ hZ=>trivial) ?_ gn)
      intro Yt14 hqt14
      refine dn ?_
      try simp only[nn]
      have hq9:=Sy.left (L:= [_,_,_]) (M:= [_]) hqt14
      rw[Mb (Aa HNS)] at hq9
      obtain⟨g2,c2,e2, -, -, -⟩:=Ju (f:=BN.cs) Lw (hq9.get 1 rfl:World.ownsRow _ 0 130 6 (.slice At13 (i+1) ct13) (i+1) _) (by rw[Gk,List.length_take];have:=Aa HLT;omega) i (by rw[Gk,List.length_take];have:=Aa HLT;omega)
      cases e2
      have HI4:Hid (LX1 w ns Bx Bm (i+1) _):=Ab ⟨_,_,hq9⟩
      clear hq9 hqt14
      go_wp2
      go_roundg (ns.length - (i+1))
      case measure=>have:=Aa HLT;omega
      case rel=>exact⟨i+1,by go_num,by have:=Aa HLT;omega,by omega,HI4⟩
   ·obtain rfl:i=ns.length:=by omega
    obtain⟨g,c,hS1⟩:=Aa HI
    rw[List.take_length,←Qd (Aa HG).1 Rk,←ZaF] at hS1
    obtain⟨l0,hl0⟩: ∃l0,l0=mkGB ns (Aa HG).1 Rk:=⟨_,rfl⟩
    have hm0:l0.map (·.1)=nmB ns:=by rw[hl0];exact Qd _ _
    rw[←hl0] at hS1
    have hn0:l0.length=ns.length:=by have:=congrArg List.length hm0;rwa [List.length_map,Gk] at this
    have h3g:3<=g:=Nat.le_trans (Aa H3) ((hS1.lo _ (List.mem_cons_of_mem _ (List.mem_cons_self ..)) g (by simp[Do,Value.ownBlock])).elim (fun h=>by cases h) id)
    have SS:=Ab hS1
    rw[←hn0] at hS1
    have HSO:=sort_b (l:=l0) (i:=1) (base:=0) (c:=c) hS1 (Al (Aa HT) hS1.fr.below) h3g rfl (by omega)
    rw[hn0] at HSO
    clear hlt hil HI hS1 hl0
    go_wp2_with (first|go_skip|((with_reducible show wpList ..);first|(refine z1 125 isAgg125 0 (by rfl) rfl rfl SS rfl rfl ?_;simp only[nn])))
    refine HSO.mono ?_
    clear HSO SS
    rintro _ Y ⟨rfl,l,hp,hsr,hS2⟩
    have HLL:Hid (l.length=ns.length):=Ab (by rw[hp.length_eq];exact hn0)
    have HNX:Hid (∀c,NewX ns ⟨Bx, .slice (some ⟨g,0,none⟩) ns.length c,l.map (·.1),Bm,ns.length,plF (nmG l) ns.length⟩):=Ab (fun c=>by
      have:=Zc3 (b:=Bx) (pb:=Bm) (pn:=ns.length) (lv:= .slice (some ⟨g,0,none⟩) ns.length c) (Aa HG).2 hm0 hp hsr (by omega)
      rw[Aa HLL] at this
      exact this)
    have SS:Hid (Sy w _ [] [Ao Bx [.slice (some ⟨g,0,none⟩) ns.length c, .map (some Bm)],Do 0 130 6 (.slice (some ⟨g,0,none⟩) ns.length c) ns.length (l.flatMap Dw),Eb iR iD 0 Bm 0 (fun _=>none)]):=Ab hS2
    clear hS2 hp hsr
    go_wp2_with (first|go_skip|((with_reducible show wpList ..);first|(refine z1 125 isAgg125 0 (by rfl) rfl rfl SS rfl rfl ?_;simp only[nn])|(refine rd rfl (Bo 125 130 underlying125 rfl rfl) ?_)))
    have HI2:Hid (Sy w _ [] (LX2 l Bx Bm g c ns.length 0)):=Ab (Aa SS)
    clear SS
    go_loopg [45] ns.length (fun gm s45 wr=> ∃i:Nat,s45= .int .i64 (i:Nat)/\i<=ns.length/\ns.length - i<=gm/\Hid (Sy w wr [] (LX2 l Bx Bm g c ns.length i)))
    case atStart=>exact⟨0,rfl,by omega,by omega,HI2⟩
    case round=>
     clear HI2
     obtain⟨i,rfl,hil,hgm,HI⟩:=hrel
     by_cases hlt:i<ns.length
     ·have dlt:decide ((i:Int)<(ns.length:Int))=true:=decide_eq_true (by omega)
      have hw1:IntKind.i64.wrap ((i:Int)+1)=(i:Int)+1:=by rw[IntKind.wrap_i64];omega
      obtain⟨b,hb⟩: ∃b,l[i]? =some b:=⟨_,List.getElem?_eq_getElem (by rw[Aa HLL];exact hlt)⟩
      have HNB:=Ab (nmG_at hb)
      have HLT:=Ab hlt
      have SS:Hid (Sy w _ [] [Ao Bx [.slice (some ⟨g,0,none⟩) ns.length c, .map (some Bm)],Do 0 130 6 (.slice (some ⟨g,0,none⟩) ns.length c) ns.length (l.flatMap Dw),Eb iR iD 0 Bm i (plF (nmG l) i)]):=Ab (Aa HI)
      clear HI hlt hil
      obtain⟨q,hq⟩: ∃q,q=0+i * 6:=⟨_,rfl⟩
      have HQ:=Ab hq
      have HE: ∀X,Sy w X [] [Ao Bx [.slice (some ⟨g,0,none⟩) ns.length c, .map (some Bm)],Do 0 130 6 (.slice (some ⟨g,0,none⟩) ns.length c) ns.length (l.flatMap Dw),Eb iR iD 0 Bm i (plF (nmG l) i)]->X.rangeAt g q (Dw b):=fun X S=>by
        obtain⟨g2,c2,e2, -, -,e3⟩:=Ju (f:=Dw) Jn (S.get 1 rfl:World.ownsRow _ 0 130 6 _ ns.length _) (Aa HLL) i (by rw[Aa HLL];exact Aa HLT)
        cases e2
        obtain⟨hil,hbe⟩:=List.getElem?_eq_some_iff.1 hb
        rw[hbe] at e3
        rw[hq]
        exact e3
      clear hb hq
      go_wp2_with (first|go_skip|((with_reducible show wpList ..);first|(refine rd rfl (Oz q i rfl rfl rfl (Aa HLT) (Aa HQ)) ?_)|(refine rd rfl (ZaH (p:=b.1) rfl rfl (HE _ (Aa SS))) ?_)|(refine zA 130 (Jb.cs) (by rfl) rfl SS ?_;clear SS;intro X7 B7 SS;simp only[nn])|(refine zS (hp:=(show 0+6<=6 by decide)) (b.1.cs) 3 130 (by rfl) rfl rfl rfl rfl (Ey _) szB SS rfl ?_;clear SS;intro Xz SS;simp only[nn])))
      have hS5:Sy w _ [] [Ao Bx [.slice (some ⟨g,0,none⟩) ns.length c, .map (some Bm)],Do 0 130 6 (.slice (some ⟨g,0,none⟩) ns.length c) ns.length (l.flatMap Dw),Eb iR iD 0 Bm i (plF (nmG l) i),Ao B7 (Dw b)]:=(Aa SS).drew
      clear SS HE
      refine wp_region_held_drew (P:=prog) (S:=fun _=>True) (by kernel_rfl) (trivial) (fun hS0=> ?_)
      refine gp 0 (some 50) (.pointer (some ⟨Bx,0,none⟩)) rfl rfl (trivial) ?_
      refine gp 1 (some 51) (.pointer (some ⟨Bx,0,none⟩)) rfl rfl (trivial) ?_
      refine gp 2 (some 52) (.pointer (some ⟨Bx,1,none⟩)) rfl rfl (trivial) ?_
      refine gp 4 (some 54) (.pointer (some ⟨B7,0,none⟩)) rfl rfl (trivial) ?_
      refine gp 6 (some 56) (.int .i64 (i:Nat)) rfl rfl (trivial) ?_
      refine gr (rs:= [3,5]) (gv 3 (some 53) rfl rfl (Ag 126 isAgg126 rfl rfl (hS5.hold 0 rfl) rfl) (trivial) ?_ (gv 5 (some 55) rfl rfl (Ag 9 isAgg9 rfl rfl (hS5.hold 3 rfl) rfl) (trivial) ?_ gn))
      ·simp only[nn]
       refine gr (rs:= [5]) (gv 5 (some 55) rfl rfl (Ag 9 isAgg9 rfl rfl (hS5.hold 3 rfl) rfl) (trivial) ?_ gn)
       simp only[nn]
       refine gr (rs:= [7]) (gupT 2 i encI Yj 7 rfl rfl (by kernel_rfl) rfl rfl rfl rfl (Nat.le_trans b.2.2 (by decide)) (by unfold maxLen;have:=Aa HLT;omega) hS5 rfl (fun _=>trivial) ?_ gn)
       intro Yu3 hqu3
       refine dn ?_
       try simp only[nn]
       have hq9:=Sy.left (L:= [_,_,_]) (M:= [_]) hqu3
       rw[Ma (Aa HNB)] at hq9
       have HI4:Hid (Sy w _ [] (LX2 l Bx Bm g c ns.length (i+1))):=Ab hq9
       clear hq9 hqu3
       go_wp2
       go_roundg (ns.length - (i+1))
       case measure=>have:=Aa HLT;omega
       case rel=>exact⟨i+1,by go_num,by have:=Aa HLT;omega,by omega,HI4⟩
      ·simp only[nn]
       refine gr (rs:= [3]) (gv 3 (some 53) rfl rfl (Ag 126 isAgg126 rfl rfl (hS5.hold 0 rfl) rfl) (trivial) ?_ gn)
       simp only[nn]
       refine gr (rs:= [7]) (gupT 2 i encI Yj 7 rfl rfl (by kernel_rfl) rfl rfl rfl rfl (Nat.le_trans b.2.2 (by decide)) (by unfold maxLen;have:=Aa HLT;omega) hS5 rfl (fun _=>trivial) ?_ gn)
       intro Yu6 hqu6
       refine dn ?_
       try simp only[nn]
       have hq9:=Sy.left (L:= [_,_,_]) (M:= [_]) hqu6
       rw[Ma (Aa HNB)] at hq9
       have HI4:Hid (Sy w _ [] (LX2 l Bx Bm g c ns.length (i+1))):=Ab hq9
       clear hq9 hqu6
       go_wp2
       go_roundg (ns.length - (i+1))
       case measure=>have:=Aa HLT;omega
       case rel=>exact⟨i+1,by go_num,by have:=Aa HLT;omega,by omega,HI4⟩
     ·obtain rfl:i=ns.length:=by omega
      clear hlt hil
      go_wp2
      go_ret
      exact⟨⟨Bx, .slice (some ⟨g,0,none⟩) ns.length c,l.map (·.1),Bm,ns.length,plF (nmG l) ns.length⟩,rfl,Aa HNX c,xis_of (Aa HLL) (Aa HI),(Aa HI).fr.below,xfresh (Aa HLL) (Aa HI)⟩
 ·intro Ys4 Bs4 hqs4
  simp only[nn]
  refine gr (rs:= [2]) (gmkS ns.length 2 (some 10) rfl rfl (by kernel_rfl) rfl rfl rfl underlying125 Uc (by omega) (by decide) (by decide) hqs4 (fun _=>trivial) ?_ gn)
  intro Ys5 Bs5 hqs5
  refine gq 6 (some 14) (.agg #[.slice (some ⟨Bs5,0,none⟩) 0 ns.length, .map (some Bs4)]) rfl rfl (fun X hX=>ex_bEX rfl rfl rfl) (trivial) ?_
  refine gr (rs:= [7]) (Ze 7 (some 15) 128 ([.slice (some ⟨Bs5,0,none⟩) 0 ns.length, .map (some Bs4)]) rfl rfl (by kernel_rfl) rfl rfl rfl (Nat.succ_pos _) hqs5 (fun _ hZ=>trivial) ?_ gn)
  intro Ys6 Bs6 hEs6 hqs6
  clear hEs6
  refine gp 8 (some 3) (.pointer (some ⟨Bs6,0,none⟩)) rfl rfl (trivial) ?_
  refine dn ?_
  try simp only[nn]
  have hq9:=hqs6.perm ((List.perm_append_comm (l₁:= [_,_]) (l₂:= [_])).trans (List.Perm.cons _ (List.Perm.swap _ _ _)))
  have HI0:Hid (LX1 w ns Bs6 Bs4 0 _):=Ab ⟨_,_,hq9⟩
  clear hq9 hqs6
  obtain⟨Bx,hBx⟩: ∃Bx,Bx=Bs6:=⟨_,rfl⟩
  obtain⟨Bm,hBm⟩: ∃Bm,Bm=Bs4:=⟨_,rfl⟩
  rw[←hBx,←hBm] at HI0
  rw[←hBx]
  clear hBx hBm
  go_wp2_with (first|go_skip|((with_reducible show wpList ..);first|(refine rd rfl (Bo 22 9 underlying22 rfl rfl) ?_)))
  go_loopg [18] ns.length (fun gm s18 wr=> ∃i:Nat,s18= .int .i64 (i:Nat)/\i<=ns.length/\ns.length - i<=gm/\Hid (LX1 w ns Bx Bm i wr))
  case atStart=>exact⟨0,rfl,by omega,by omega,HI0⟩
  case round=>
   clear HI0
   obtain⟨i,rfl,hil,hgm,HI⟩:=hrel
   by_cases hlt:i<ns.length
   ·have dlt:decide ((i:Int)<(ns.length:Int))=true:=decide_eq_true (by omega)
    have hw1:IntKind.i64.wrap ((i:Int)+1)=(i:Int)+1:=by rw[IntKind.wrap_i64];omega
    obtain⟨s,hs⟩: ∃s,ns[i]? =some s:=⟨_,List.getElem?_eq_getElem hlt⟩
    obtain⟨b,off,hA,hb,hcell⟩:=(Aa HR) i s hs
    have HC:Hid (∀X:World,Fr w X []->X.cell? ⟨b,off+i * 1,none⟩=some (.string s)):=Ab (fun X k=>by rw[World.cell?_of_block (k.block b hb (by simp))];exact hcell)
    subst hA
    have HLT:=Ab hlt
    have HNS:=Ab hs
    have HSZ:=Ab (Qk ((Aa HG).1 s (List.mem_of_getElem? hs)))
    obtain⟨g,c,hS1⟩:=Aa HI
    have SS:=Ab hS1
    clear HI hS1 hb hcell hlt hil hs
    go_wp2_with (first|go_skip|((with_reducible show wpList ..);first|(refine rd rfl (Bp 22 1 i Zdw ZdY rfl rfl rfl (Aa HLT)) ?_)|(refine rd rfl (Dc 9 isAgg9 rfl rfl (Aa HC _ (Aa SS).fr)) ?_)))
    have hS5:Sy w _ [] [Ao Bx [.slice (some ⟨g,0,none⟩) i c, .map (some Bm)],Do 0 130 6 (.slice (some ⟨g,0,none⟩) i c) i ((nmB (ns.take i)).flatMap BN.cs),Eb iR iD 0 Bm 0 (fun _=>none)]:=(Aa SS).drew
    clear SS
    refine wp_region_held_drew (P:=prog) (S:=fun _=>True) (by kernel_rfl) (trivial) (fun hS0=> ?_)
    refine gp 0 (some 22) (.pointer (some ⟨Bx,0,none⟩)) rfl rfl (trivial) ?_
    refine gp 1 (some 23) (.pointer (some ⟨Bx,0,none⟩)) rfl rfl (trivial) ?_
    refine gp 2 (some 24) (.pointer (some ⟨Bx,0,none⟩)) rfl rfl (trivial) ?_
    refine gp 3 (some 25) (.pointer (some ⟨Bx,0,none⟩)) rfl rfl (trivial) ?_
    refine gp 5 (some 27) (.string s) rfl rfl (trivial) ?_
    refine gr (rs:= [4,6]) (gv 4 (some 26) rfl rfl (Ag 125 isAgg125 rfl rfl (hS5.hold 0 rfl) rfl) (trivial) ?_ (gc 6 (some 28) rfl rfl (Gq s _ (Aa HSZ)) ?_ gn))
    ·simp only[nn]
     refine gr (rs:= [6]) (gc 6 (some 28) rfl rfl (Gq s _ (Aa HSZ)) ?_ gn)
     rintro e Yt2 ⟨rfl,hYt2⟩
     have hqt2:=Sy.on hS5 hYt2
     refine⟨_,rfl,trivial, ?_⟩
     refine gq 7 (some 29) (.agg (BN.cs ⟨s,zeroV⟩).toArray) rfl rfl (fun X hX=>ZaL rfl rfl) (trivial) ?_
     refine gr (rs:= [8]) (Ax 8 (some 30) rfl rfl (by kernel_rfl) (Ru (b:=⟨s,zeroV⟩) rfl rfl) (Nat.succ_pos _) hqt2 (fun _ hZ=>trivial) ?_ gn)
     intro Yt3 Bt3 hEt3 hqt3
     clear hEt3
     simp only[nn]
     refine gr (rs:= [9]) (Zd1 1 3 9 (some 31) rfl rfl (by kernel_rfl) rfl rfl rfl underlying125 Uc rfl (by decide) hqt3 rfl rfl rfl (Ey _) (by omega) (by decide) (Nat.zero_le _) (fun _=>trivial) ?_ gn)
     intro At4 ct4 Yt4 hqt4
     refine gp 10 (some 32) (.pointer (some ⟨Bx,0,none⟩)) rfl rfl (trivial) ?_
     refine gp 11 (some 33) (.pointer (some ⟨Bx,0,none⟩)) rfl rfl (trivial) ?_
     refine gr (rs:= [12]) (Jd (vs:= [.slice At4 (i+1) ct4]) (new:= [.slice At4 (i+1) ct4, .map (some Bm)]) 12 0 125 rfl rfl (by kernel_rfl) rfl rfl rfl rfl (ZdP _) szx hqt4 rfl (by simp[Bz,VV.cs,KK.cs,DD.cs,OB.cs,hcs,Ar,zeroV]) (by simp[Bz,VV.cs,KK.cs,DD.cs,OB.cs,hcs,Ar,zeroV]) (fun _ hZ=>trivial) ?_ gn)
     intro Yt5 hqt5
     refine dn ?_
     try simp only[nn]
     have hq9:=Sy.left (L:= [_,_,_]) (M:= [_]) hqt5
     rw[Mb (Aa HNS)] at hq9
     obtain⟨g2,c2,e2, -, -, -⟩:=Ju (f:=BN.cs) Lw (hq9.get 1 rfl:World.ownsRow _ 0 130 6 (.slice At4 (i+1) ct4) (i+1) _) (by rw[Gk,List.length_take];have:=Aa HLT;omega) i (by rw[Gk,List.length_take];have:=Aa HLT;omega)
     cases e2
     have HI4:Hid (LX1 w ns Bx Bm (i+1) _):=Ab ⟨_,_,hq9⟩
     clear hq9 hqt5
     go_wp2
     go_roundg (ns.length - (i+1))
     case measure=>have:=Aa HLT;omega
     case rel=>exact⟨i+1,by go_num,by have:=Aa HLT;omega,by omega,HI4⟩
    ·rintro e Yt6 ⟨rfl,hYt6⟩
     have hqt6:=Sy.on hS5 hYt6
     refine⟨_,rfl,trivial, ?_⟩
     refine gq 7 (some 29) (.agg (BN.cs ⟨s,zeroV⟩).toArray) rfl rfl (fun X hX=>ZaL rfl rfl) (trivial) ?_
     refine gr (rs:= [4,8]) (gv 4 (some 26) rfl rfl (Ag 125 isAgg125 rfl rfl (hqt6.hold 0 rfl) rfl) (trivial) ?_ (Ax 8 (some 30) rfl rfl (by kernel_rfl) (Ru (b:=⟨s,zeroV⟩) rfl rfl) (Nat.succ_pos _) hqt6 (fun _ hZ=>trivial) ?_ gn))
     ·simp only[nn]
      refine gr (rs:= [8]) (Ax 8 (some 30) rfl rfl (by kernel_rfl) (Ru (b:=⟨s,zeroV⟩) rfl rfl) (Nat.succ_pos _) hqt6 (fun _ hZ=>trivial) ?_ gn)
      intro Yt8 Bt8 hEt8 hqt8
      clear hEt8
      simp only[nn]
      refine gr (rs:= [9]) (Zd1 1 3 9 (some 31) rfl rfl (by kernel_rfl) rfl rfl rfl underlying125 Uc rfl (by decide) hqt8 rfl rfl rfl (Ey _) (by omega) (by decide) (Nat.zero_le _) (fun _=>trivial) ?_ gn)
      intro At9 ct9 Yt9 hqt9
      refine gp 10 (some 32) (.pointer (some ⟨Bx,0,none⟩)) rfl rfl (trivial) ?_
      refine gp 11 (some 33) (.pointer (some ⟨Bx,0,none⟩)) rfl rfl (trivial) ?_
      refine gr (rs:= [12]) (Jd (vs:= [.slice At9 (i+1) ct9]) (new:= [.slice At9 (i+1) ct9, .map (some Bm)]) 12 0 125 rfl rfl (by kernel_rfl) rfl rfl rfl rfl (ZdP _) szx hqt9 rfl (by simp[Bz,VV.cs,KK.cs,DD.cs,OB.cs,hcs,Ar,zeroV]) (by simp[Bz,VV.cs,KK.cs,DD.cs,OB.cs,hcs,Ar,zeroV]) (fun _ hZ=>trivial) ?_ gn)
      intro Yt10 hqt10
      refine dn ?_
      try simp only[nn]
      have hq9:=Sy.left (L:= [_,_,_]) (M:= [_]) hqt10
      rw[Mb (Aa HNS)] at hq9
      obtain⟨g2,c2,e2, -, -, -⟩:=Ju (f:=BN.cs) Lw (hq9.get 1 rfl:World.ownsRow _ 0 130 6 (.slice At9 (i+1) ct9) (i+1) _) (by rw[Gk,List.length_take];have:=Aa HLT;omega) i (by rw[Gk,List.length_take];have:=Aa HLT;omega)
      cases e2
      have HI4:Hid (LX1 w ns Bx Bm (i+1) _):=Ab ⟨_,_,hq9⟩
      clear hq9 hqt10
      go_wp2
      go_roundg (ns.length - (i+1))
      case measure=>have:=Aa HLT;omega
      case rel=>exact⟨i+1,by go_num,by have:=Aa HLT;omega,by omega,HI4⟩
     ·intro Yt11 Bt11 hEt11 hqt11
      clear hEt11
      simp only[nn]
      refine gr (rs:= [4]) (gv 4 (some 26) rfl rfl (Ag 125 isAgg125 rfl rfl (hqt11.hold 0 rfl) rfl) (trivial) ?_ gn)
      simp only[nn]
      refine gr (rs:= [9]) (Zd1 1 3 9 (some 31) rfl rfl (by kernel_rfl) rfl rfl rfl underlying125 Uc rfl (by decide) hqt11 rfl rfl rfl (Ey _) (by omega) (by decide) (Nat.zero_le _) (fun _=>trivial) ?_ gn)
      intro At13 ct13 Yt13 hqt13
      refine gp 10 (some 32) (.pointer (some ⟨Bx,0,none⟩)) rfl rfl (trivial) ?_
      refine gp 11 (some 33) (.pointer (some ⟨Bx,0,none⟩)) rfl rfl (trivial) ?_
      refine gr (rs:= [12]) (Jd (vs:= [.slice At13 (i+1) ct13]) (new:= [.slice At13 (i+1) ct13, .map (some Bm)]) 12 0 125 rfl rfl (by kernel_rfl) rfl rfl rfl rfl (ZdP _) szx hqt13 rfl (by simp[Bz,VV.cs,KK.cs,DD.cs,OB.cs,hcs,Ar,zeroV]) (by simp[Bz,VV.cs,KK.cs,DD.cs,OB.cs,hcs,Ar,zeroV]) (fun _ hZ=>trivial) ?_ gn)
      intro Yt14 hqt14
      refine dn ?_
      try simp only[nn]
      have hq9:=Sy.left (L:= [_,_,_]) (M:= [_]) hqt14
      rw[Mb (Aa HNS)] at hq9
      obtain⟨g2,c2,e2, -, -, -⟩:=Ju (f:=BN.cs) Lw (hq9.get 1 rfl:World.ownsRow _ 0 130 6 (.slice At13 (i+1) ct13) (i+1) _) (by rw[Gk,List.length_take];have:=Aa HLT;omega) i (by rw[Gk,List.length_take];have:=Aa HLT;omega)
      cases e2
      have HI4:Hid (LX1 w ns Bx Bm (i+1) _):=Ab ⟨_,_,hq9⟩
      clear hq9 hqt14
      go_wp2
      go_roundg (ns.length - (i+1))
      case measure=>have:=Aa HLT;omega
      case rel=>exact⟨i+1,by go_num,by have:=Aa HLT;omega,by omega,HI4⟩
   ·obtain rfl:i=ns.length:=by omega
    obtain⟨g,c,hS1⟩:=Aa HI
    rw[List.take_length,←Qd (Aa HG).1 Rk,←ZaF] at hS1
    obtain⟨l0,hl0⟩: ∃l0,l0=mkGB ns (Aa HG).1 Rk:=⟨_,rfl⟩
    have hm0:l0.map (·.1)=nmB ns:=by rw[hl0];exact Qd _ _
    rw[←hl0] at hS1
    have hn0:l0.length=ns.length:=by have:=congrArg List.length hm0;rwa [List.length_map,Gk] at this
    have h3g:3<=g:=Nat.le_trans (Aa H3) ((hS1.lo _ (List.mem_cons_of_mem _ (List.mem_cons_self ..)) g (by simp[Do,Value.ownBlock])).elim (fun h=>by cases h) id)
    have SS:=Ab hS1
    rw[←hn0] at hS1
    have HSO:=sort_b (l:=l0) (i:=1) (base:=0) (c:=c) hS1 (Al (Aa HT) hS1.fr.below) h3g rfl (by omega)
    rw[hn0] at HSO
    clear hlt hil HI hS1 hl0
    go_wp2_with (first|go_skip|((with_reducible show wpList ..);first|(refine z1 125 isAgg125 0 (by rfl) rfl rfl SS rfl rfl ?_;simp only[nn])))
    refine HSO.mono ?_
    clear HSO SS
    rintro _ Y ⟨rfl,l,hp,hsr,hS2⟩
    have HLL:Hid (l.length=ns.length):=Ab (by rw[hp.length_eq];exact hn0)
    have HNX:Hid (∀c,NewX ns ⟨Bx, .slice (some ⟨g,0,none⟩) ns.length c,l.map (·.1),Bm,ns.length,plF (nmG l) ns.length⟩):=Ab (fun c=>by
      have:=Zc3 (b:=Bx) (pb:=Bm) (pn:=ns.length) (lv:= .slice (some ⟨g,0,none⟩) ns.length c) (Aa HG).2 hm0 hp hsr (by omega)
      rw[Aa HLL] at this
      exact this)
    have SS:Hid (Sy w _ [] [Ao Bx [.slice (some ⟨g,0,none⟩) ns.length c, .map (some Bm)],Do 0 130 6 (.slice (some ⟨g,0,none⟩) ns.length c) ns.length (l.flatMap Dw),Eb iR iD 0 Bm 0 (fun _=>none)]):=Ab hS2
    clear hS2 hp hsr
    go_wp2_with (first|go_skip|((with_reducible show wpList ..);first|(refine z1 125 isAgg125 0 (by rfl) rfl rfl SS rfl rfl ?_;simp only[nn])|(refine rd rfl (Bo 125 130 underlying125 rfl rfl) ?_)))
    have HI2:Hid (Sy w _ [] (LX2 l Bx Bm g c ns.length 0)):=Ab (Aa SS)
    clear SS
    go_loopg [45] ns.length (fun gm s45 wr=> ∃i:Nat,s45= .int .i64 (i:Nat)/\i<=ns.length/\ns.length - i<=gm/\Hid (Sy w wr [] (LX2 l Bx Bm g c ns.length i)))
    case atStart=>exact⟨0,rfl,by omega,by omega,HI2⟩
    case round=>
     clear HI2
     obtain⟨i,rfl,hil,hgm,HI⟩:=hrel
     by_cases hlt:i<ns.length
     ·have dlt:decide ((i:Int)<(ns.length:Int))=true:=decide_eq_true (by omega)
      have hw1:IntKind.i64.wrap ((i:Int)+1)=(i:Int)+1:=by rw[IntKind.wrap_i64];omega
      obtain⟨b,hb⟩: ∃b,l[i]? =some b:=⟨_,List.getElem?_eq_getElem (by rw[Aa HLL];exact hlt)⟩
      have HNB:=Ab (nmG_at hb)
      have HLT:=Ab hlt
      have SS:Hid (Sy w _ [] [Ao Bx [.slice (some ⟨g,0,none⟩) ns.length c, .map (some Bm)],Do 0 130 6 (.slice (some ⟨g,0,none⟩) ns.length c) ns.length (l.flatMap Dw),Eb iR iD 0 Bm i (plF (nmG l) i)]):=Ab (Aa HI)
      clear HI hlt hil
      obtain⟨q,hq⟩: ∃q,q=0+i * 6:=⟨_,rfl⟩
      have HQ:=Ab hq
      have HE: ∀X,Sy w X [] [Ao Bx [.slice (some ⟨g,0,none⟩) ns.length c, .map (some Bm)],Do 0 130 6 (.slice (some ⟨g,0,none⟩) ns.length c) ns.length (l.flatMap Dw),Eb iR iD 0 Bm i (plF (nmG l) i)]->X.rangeAt g q (Dw b):=fun X S=>by
        obtain⟨g2,c2,e2, -, -,e3⟩:=Ju (f:=Dw) Jn (S.get 1 rfl:World.ownsRow _ 0 130 6 _ ns.length _) (Aa HLL) i (by rw[Aa HLL];exact Aa HLT)
        cases e2
        obtain⟨hil,hbe⟩:=List.getElem?_eq_some_iff.1 hb
        rw[hbe] at e3
        rw[hq]
        exact e3
      clear hb hq
      go_wp2_with (first|go_skip|((with_reducible show wpList ..);first|(refine rd rfl (Oz q i rfl rfl rfl (Aa HLT) (Aa HQ)) ?_)|(refine rd rfl (ZaH (p:=b.1) rfl rfl (HE _ (Aa SS))) ?_)|(refine zA 130 (Jb.cs) (by rfl) rfl SS ?_;clear SS;intro X7 B7 SS;simp only[nn])|(refine zS (hp:=(show 0+6<=6 by decide)) (b.1.cs) 3 130 (by rfl) rfl rfl rfl rfl (Ey _) szB SS rfl ?_;clear SS;intro Xz SS;simp only[nn])))
      have hS5:Sy w _ [] [Ao Bx [.slice (some ⟨g,0,none⟩) ns.length c, .map (some Bm)],Do 0 130 6 (.slice (some ⟨g,0,none⟩) ns.length c) ns.length (l.flatMap Dw),Eb iR iD 0 Bm i (plF (nmG l) i),Ao B7 (Dw b)]:=(Aa SS).drew
      clear SS HE
      refine wp_region_held_drew (P:=prog) (S:=fun _=>True) (by kernel_rfl) (trivial) (fun hS0=> ?_)
      refine gp 0 (some 50) (.pointer (some ⟨Bx,0,none⟩)) rfl rfl (trivial) ?_
      refine gp 1 (some 51) (.pointer (some ⟨Bx,0,none⟩)) rfl rfl (trivial) ?_
      refine gp 2 (some 52) (.pointer (some ⟨Bx,1,none⟩)) rfl rfl (trivial) ?_
      refine gp 4 (some 54) (.pointer (some ⟨B7,0,none⟩)) rfl rfl (trivial) ?_
      refine gp 6 (some 56) (.int .i64 (i:Nat)) rfl rfl (trivial) ?_
      refine gr (rs:= [3,5]) (gv 3 (some 53) rfl rfl (Ag 126 isAgg126 rfl rfl (hS5.hold 0 rfl) rfl) (trivial) ?_ (gv 5 (some 55) rfl rfl (Ag 9 isAgg9 rfl rfl (hS5.hold 3 rfl) rfl) (trivial) ?_ gn))
      ·simp only[nn]
       refine gr (rs:= [5]) (gv 5 (some 55) rfl rfl (Ag 9 isAgg9 rfl rfl (hS5.hold 3 rfl) rfl) (trivial) ?_ gn)
       simp only[nn]
       refine gr (rs:= [7]) (gupT 2 i encI Yj 7 rfl rfl (by kernel_rfl) rfl rfl rfl rfl (Nat.le_trans b.2.2 (by decide)) (by unfold maxLen;have:=Aa HLT;omega) hS5 rfl (fun _=>trivial) ?_ gn)
       intro Yu3 hqu3
       refine dn ?_
       try simp only[nn]
       have hq9:=Sy.left (L:= [_,_,_]) (M:= [_]) hqu3
       rw[Ma (Aa HNB)] at hq9
       have HI4:Hid (Sy w _ [] (LX2 l Bx Bm g c ns.length (i+1))):=Ab hq9
       clear hq9 hqu3
       go_wp2
       go_roundg (ns.length - (i+1))
       case measure=>have:=Aa HLT;omega
       case rel=>exact⟨i+1,by go_num,by have:=Aa HLT;omega,by omega,HI4⟩
      ·simp only[nn]
       refine gr (rs:= [3]) (gv 3 (some 53) rfl rfl (Ag 126 isAgg126 rfl rfl (hS5.hold 0 rfl) rfl) (trivial) ?_ gn)
       simp only[nn]
       refine gr (rs:= [7]) (gupT 2 i encI Yj 7 rfl rfl (by kernel_rfl) rfl rfl rfl rfl (Nat.le_trans b.2.2 (by decide)) (by unfold maxLen;have:=Aa HLT;omega) hS5 rfl (fun _=>trivial) ?_ gn)
       intro Yu6 hqu6
       refine dn ?_
       try simp only[nn]
       have hq9:=Sy.left (L:= [_,_,_]) (M:= [_]) hqu6
       rw[Ma (Aa HNB)] at hq9
       have HI4:Hid (Sy w _ [] (LX2 l Bx Bm g c ns.length (i+1))):=Ab hq9
       clear hq9 hqu6
       go_wp2
       go_roundg (ns.length - (i+1))
       case measure=>have:=Aa HLT;omega
       case rel=>exact⟨i+1,by go_num,by have:=Aa HLT;omega,by omega,HI4⟩
     ·obtain rfl:i=ns.length:=by omega
      clear hlt hil
      go_wp2
      go_ret
      exact⟨⟨Bx, .slice (some ⟨g,0,none⟩) ns.length c,l.map (·.1),Bm,ns.length,plF (nmG l) ns.length⟩,rfl,Aa HNX c,xis_of (Aa HLL) (Aa HI),(Aa HI).fr.below,xfresh (Aa HLL) (Aa HI)⟩
