import Derived.Test.YthjnflilfjcgiaaGreatFmtQq
import Derived.Test.YthjnflilfjcgiaaGreatFmtQp
set_option linter.all false
namespace Go.Proofs.YthjnflilfjcgiaaGreatFmt
set_option maxRecDepth 100000
set_option maxHeartbeats 0
section
open Go Go.Proofs Go.Maps Go.RowKit Tryz
def ptrR:Value->Option (DataW Unit×List MemPlace)
 | .pointer none=>some (.nil, [])
 | .pointer (some ⟨b,0,none⟩)=>some (.lit (.int .i64 (b:Nat)), [])
 |_=>none
def pv:Option Nat->Value
 |none=> .pointer none
 |some b=> .pointer (some ⟨b,0,none⟩)
def pd:Option Nat->DataW Unit
 |none=> .nil
 |some b=> .lit (.int .i64 (b:Nat))
theorem ptrR_pv (o:Option Nat):ptrR (pv o)=some (pd o, []):=by cases o<;>rfl
theorem pd_inj {o o':Option Nat} (h:pd o=pd o'):o=o':=by
 cases o<;>cases o'<;>simp[pd] at h ⊢
 omega
theorem ptrR_inv {v:Value} {o:Option Nat} {ps:List MemPlace} (h:ptrR v=some (pd o,ps)):v=pv o:=by
 unfold ptrR at h
 split at h
 ·have e:=congrArg Prod.fst (Option.some.inj h)
  rw[←pd_inj (o:=none) (o':=o) e];rfl
 ·rename_i b
  have e:=congrArg Prod.fst (Option.some.inj h)
  rw[←pd_inj (o:=some b) (o':=o) e];rfl
 ·cases h
def OkK (k:KK):Prop:=k.s.size<=maxLen/\(Lit.int .i64 k.n).wf=true
def kl (k:KK):Lit:=klit k.s k.n
theorem keyOfK {k:KK} (h:OkK k):keyOf prog 42 k.agg=some (kl k):=keyOf33 k.s k.n h.1 h.2
theorem kl_inj {k k':KK} (h:OkK k) (h':OkK k') (e:kl k=kl k'):k=k':=by
 obtain⟨h1,h2⟩:=klit_inj h.1 h.2 h'.1 h'.2 e
 exact KK.ext' h1 h2
theorem kl_key {k:KK} (h:OkK k):WideAt.IsKeyLit (kl k):=klit_key h.1 h.2
def MapIs (w:World) (b n sz:Nat) (F:KK->Option Nat):Prop:=
 ∃D:DataW Unit,w.ownsMap prog 42 ptrR b n D/\Maps.size D=sz/\ ∀k,OkK k->D.atKey (kl k) .nil=pd (F k)/\Maps.has D (kl k)=(F k).isSome
theorem MapIs.made (w:World):MapIs (w.alloc (.map #[] 0)) w.heap.size 0 0 (fun _=>none):=
 ⟨_,World.ownsMap_made w _ _ _,rfl,fun k _=>⟨rfl,rfl⟩⟩
theorem MapIs.lt {w:World} {b n sz:Nat} {F:KK->Option Nat} (h:MapIs w b n sz F):b<w.heap.size:=by
 obtain⟨D,h, -⟩:=h
 exact h.lt
theorem MapIs.block {w w':World} {b n sz:Nat} {F:KK->Option Nat} (h:MapIs w b n sz F) (he:w'.heap[b]? =w.heap[b]?):MapIs w' b n sz F:=by
 obtain⟨D,⟨es,clock,hb,Ft,hs,hD⟩,h2,h3⟩:=h
 exact⟨D,⟨es,clock,he.trans hb,Ft,hs,hD⟩,h2,h3⟩
theorem MapIs.mono {w:World} {b n n' sz:Nat} {F:KK->Option Nat} (h:MapIs w b n sz F) (hn:n<=n'):MapIs w b n' sz F:=by
 obtain⟨D,h,h2⟩:=h
 exact⟨D,h.mono hn,h2⟩
theorem zero74 (w:World):(zeroValue 171).run prog w= .ok (.pointer none) w:=by kernel_rfl
theorem MapIs.look {w:World} {b n sz:Nat} {F:KK->Option Nat} (h:MapIs w b n sz F) {k:KK} (hk:OkK k):
  (Instr.lookup 167 (.map (some b)) k.agg true).run prog w= .ok (.tuple #[pv (F k), .bool (F k).isSome]) w:=by
 obtain⟨D,h,h2,h3⟩:=h
 obtain⟨v,ps,hrun,hv⟩:=h.look_ok law33 underlying167 (zero74 w) (ptrR_pv none) (keyOfK hk)
 obtain⟨h4,h5⟩:=h3 k hk
 have hv':ptrR v=some (pd (F k),ps):=by rw[←h4];exact hv
 rw[hrun,h5,ptrR_inv hv']
theorem MapIs.len {w:World} {b n sz:Nat} {F:KK->Option Nat} (h:MapIs w b n sz F) (ty:TypeId):(Builtin.len_ #[167] ty #[.map (some b)]).run prog w= .ok (.int .i64 sz) w:=by
 obtain⟨D,h,h2,h3⟩:=h
 rw[h.len underlying167 ty,h2]
def putF (F:KK->Option Nat) (k:KK) (r:Option Nat):KK->Option Nat:=fun q=>if q.s=k.s/\q.n=k.n then r else F q
theorem putF_same (F:KK->Option Nat) (k:KK) (r:Option Nat):putF F k r k=r:=by simp[putF]
theorem putF_other {F:KK->Option Nat} {k q:KK} (h:q≠k) (r:Option Nat):putF F k r q=F q:=by
 unfold putF
 rw[if_neg (fun e=>h (KK.ext' e.1 e.2))]
theorem MapIs.store {w:World} {b n sz:Nat} {F:KK->Option Nat} (h:MapIs w b n sz F) {k:KK} (hk:OkK k) (hn:n<maxLen) (r:Nat):
  ∃w',(Instr.mapUpdate 167 (.map (some b)) k.agg (pv (some r))).run prog w= .ok () w'/\MapIs w' b (n+1) (if (F k).isSome then sz else sz+1) (putF F k (some r))/\w.mapTurned w' b:=by
 obtain⟨D,h,h2,h3⟩:=h
 obtain⟨w',hrun,ho,ht⟩:=h.store law33 underlying167 hn (keyOfK hk) (ptrR_pv (some r))
 have ti:=h.tidy law33
 refine⟨w',hrun,⟨_,ho, ?_,fun q hq=> ?_⟩,ht⟩
 ·rw[size_put ti,(h3 k hk).2,h2]
 ·by_cases e:q=k
  ·subst e
   rw[atKey_put_same ti.isMap (kl_key hk),has_put_same ti.isMap (kl_key hk),putF_same]
   exact⟨rfl,rfl⟩
  ·have ne:kl q≠kl k:=fun e'=>e (kl_inj hq hk e')
   rw[atKey_put_other ne,has_put_other ne,putF_other e]
   exact h3 q hq
theorem MapIs.drop {w:World} {b n sz:Nat} {F:KK->Option Nat} (h:MapIs w b n sz F) {k:KK} (hk:OkK k) (ty:TypeId):
  ∃w',(Builtin.delete_ #[167,42] ty #[.map (some b),k.agg]).run prog w= .ok (.tuple #[]) w'/\MapIs w' b n (if (F k).isSome then sz - 1 else sz) (putF F k none)/\w.mapTurned w' b:=by
 obtain⟨D,h,h2,h3⟩:=h
 obtain⟨w',hrun,ho,ht⟩:=h.drop law33 underlying167 (keyOfK hk) ty
 have ti:=h.tidy law33
 have hs:=size_del (k:=kl k) ti
 refine⟨w',hrun,⟨_,ho, ?_,fun q hq=> ?_⟩,ht⟩
 ·rw[(h3 k hk).2] at hs
  split at hs<;>rename_i hc<;>simp[hc]<;>omega
 ·by_cases e:q=k
  ·subst e
   rw[atKey_del_same,has_del_same,putF_same]
   exact⟨rfl,rfl⟩
  ·have ne:kl q≠kl k:=fun e'=>e (kl_inj hq hk e')
   rw[atKey_del_other ne,has_del_other ne,putF_other e]
   exact h3 q hq
end
section
open Go Go.Proofs Go.Maps Go.RowKit
def Holds (W:World) (B:Nat) (cs:List Value):Prop:=(∀j,W.frozen? ⟨B,j,none⟩=false)/\W.rangeAt B 0 cs
theorem Holds.block {W W1:World} {B:Nat} {cs:List Value} (h:Holds W B cs) (he:W1.heap[B]? =W.heap[B]?):Holds W1 B cs:=by
 have hc: ∀j,W1.cell? ⟨B,j,none⟩=W.cell? ⟨B,j,none⟩:=fun j=>World.cell?_of_block he
 have hf: ∀j,W1.frozen? ⟨B,j,none⟩=W.frozen? ⟨B,j,none⟩:=fun j=>World.frozen?_of_block he
 unfold Holds World.rangeAt at *
 simp only[hc,hf]
 exact h
theorem Holds.new (w:World) (cs:List Value) (t:TypeId):Holds (w.alloc (Obj.cells cs.toArray t)) w.heap.size cs:=by
 refine⟨fun j=> ?_,fun j v hv=> ?_⟩
 ·simp[go_sem]
 ·simp[go_sem]
  exact hv
theorem Holds.cell {W:World} {B:Nat} {cs:List Value} (h:Holds W B cs) (p:Nat) {v:Value} (hp:cs[p]? =some v):W.cell? ⟨B,p,none⟩=some v:=by
 have:=h.2 p v hp
 simpa using this
theorem Holds.mid {W:World} {B:Nat} {cs:List Value} (h:Holds W B cs) (p n:Nat):W.rangeAt B p ((cs.drop p).take n):=by
 intro j v hv
 rw[List.getElem?_take] at hv
 split at hv
 ·rw[List.getElem?_drop] at hv
  exact h.cell (p+j) hv
 ·cases hv
theorem Holds.there {W:World} {B:Nat} {cs:List Value} (h:Holds W B cs) (p n:Nat) (hp:p+n<=cs.length):W.there B p n:=by
 intro j hj
 refine⟨?_,h.1 _⟩
 rw[h.cell (p+j) (List.getElem?_eq_getElem (by omega))]
 rfl
theorem Holds.lt {W:World} {B:Nat} {cs:List Value} (h:Holds W B cs) (hc:0<cs.length):B<W.heap.size:=by
 have h0:=h.cell 0 (List.getElem?_eq_getElem hc)
 rcases Nat.lt_or_ge B W.heap.size with h1|h1
 ·exact h1
 ·exfalso
  have e:W.heap[B]? =none:=Array.getElem?_eq_none h1
  simp[World.cell?,e] at h0
def cput (cs:List Value) (p:Nat) (vs:List Value):List Value:=cs.take p++vs++cs.drop (p+vs.length)
theorem Holds.put {W:World} {B:Nat} {cs:List Value} (h:Holds W B cs) (p:Nat) (vs:List Value) (hp:p+vs.length<=cs.length):Holds (W.setCells B p vs) B (cput cs p vs):=by
 refine⟨fun j=>by rw[World.frozen?_setCells];exact h.1 j,fun j v hv=> ?_⟩
 unfold cput at hv
 have hth:=h.there p vs.length hp
 have e0:(⟨B,0+j,none⟩:Addr)=⟨B,j,none⟩:=by simp
 rw[e0]
 by_cases h1:j<p
 ·rw[List.getElem?_append_left (by simp;omega),List.getElem?_append_left (by simp;omega),List.getElem?_take,if_pos h1] at hv
  rw[World.cell?_setCells_out B vs p W ⟨B,j,none⟩ (fun _ _=>Or.inl h1)]
  exact h.cell j hv
 ·by_cases h2:j<p+vs.length
  ·rw[List.getElem?_append_left (by simp;omega),List.getElem?_append_right (by simp;omega)] at hv
   have h3:=World.rangeAt_setCells_same W B p vs hth (j - p) v (by simpa [Nat.min_eq_left (by omega:p<=cs.length)] using hv)
   rwa [show p+(j - p)=j by omega] at h3
  ·rw[List.getElem?_append_right (by simp;omega),List.getElem?_drop] at hv
   rw[World.cell?_setCells_out B vs p W ⟨B,j,none⟩ (fun _ _=>Or.inr (by show p+vs.length<=j;omega))]
   refine h.cell j ?_
   rw[←hv]
   congr 1
   simp
   omega
section
variable {o : Oper} {a : Act} {W : World} {x : Operand} {B p : Nat} {cs : List Value}
theorem ex_load1 {v:Value} (t:TypeId) (hna: ∀w,(isAgg t).run Tryz.prog w= .ok false w) (ho:o.op= .load t x) (hx:a.eval x= .pointer (some ⟨B,p,none⟩)) (hc:Holds W B cs) (hv:cs[p]? =some v):(execOp a.eval o).run Tryz.prog W= .ok (.value v) W:=by
 have h0:=hc.cell p hv
 unfold execOp
 simp only[ho,hx]
 simp[go_sem,h0,hna]
theorem ex_loadN {vs:List Value} (t:TypeId) (n:Nat) (hu: ∃d,Tryz.prog.underlying t=some d/\d.isRow=true) (hi:(Tryz.prog.info? t).map (·.size)=some n) (ho:o.op= .load t x) (hx:a.eval x= .pointer (some ⟨B,p,none⟩)) (hc:Holds W B cs) (hv:(cs.drop p).take n=vs) (hn:vs.length=n):(execOp a.eval o).run Tryz.prog W= .ok (.value (.agg vs.toArray)) W:=by
 obtain⟨d,hu,hd⟩:=hu
 have h0:=hc.mid p n
 rw[hv] at h0
 unfold execOp
 simp only[ho,hx,Instr.loadAt,Instr.sureAddr,Sem.run_bind,Sem.run_pure,Result.andThen_ok,run_loadVar_mid W B p t vs d h0 hu hd (by rw[hi,hn])]
end
