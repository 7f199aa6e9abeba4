import Derived.Test.YthcmamjpfigdfaaGreatDoorQm
set_option linter.all false
namespace Go.Proofs.YthcmamjpfigdfaaGreatDoor
set_option maxRecDepth 100000
set_option maxHeartbeats 0
section
open Go Go.Proofs Go.Maps Go.RowKit
def Holds (W:World) (B:Nat) (cs:List Value):Prop:=(∀j,W.frozen? ⟨B,j,none⟩=false)/\W.rangeAt B 0 cs
theorem Holds.block {W W1:World} {B:Nat} {cs:List Value} (h:Holds W B cs) (he:W1.heap[B]? =W.heap[B]?):Holds W1 B cs:=by
 have hc: ∀j,W1.cell? ⟨B,j,none⟩=W.cell? ⟨B,j,none⟩:=fun j=>World.cell?_of_block he
 have hf: ∀j,W1.frozen? ⟨B,j,none⟩=W.frozen? ⟨B,j,none⟩:=fun j=>World.frozen?_of_block he
 unfold Holds World.rangeAt at *
 simp only[hc,hf]
 exact h
theorem Holds.new (w:World) (cs:List Value) (t:TypeId):Holds (w.alloc (Obj.cells cs.toArray t)) w.heap.size cs:=by
 refine⟨fun j=> ?_,fun j v hv=> ?_⟩
 ·simp[go_sem]
 ·simp[go_sem]
  exact hv
theorem Holds.cell {W:World} {B:Nat} {cs:List Value} (h:Holds W B cs) (p:Nat) {v:Value} (hp:cs[p]? =some v):W.cell? ⟨B,p,none⟩=some v:=by
 have:=h.2 p v hp
 simpa using this
theorem Holds.mid {W:World} {B:Nat} {cs:List Value} (h:Holds W B cs) (p n:Nat):W.rangeAt B p ((cs.drop p).take n):=by
 intro j v hv
 rw[List.getElem?_take] at hv
 split at hv
 ·rw[List.getElem?_drop] at hv
  exact h.cell (p+j) hv
 ·cases hv
theorem Holds.there {W:World} {B:Nat} {cs:List Value} (h:Holds W B cs) (p n:Nat) (hp:p+n<=cs.length):W.there B p n:=by
 intro j hj
 refine⟨?_,h.1 _⟩
 rw[h.cell (p+j) (List.getElem?_eq_getElem (by omega))]
 rfl
theorem Holds.lt {W:World} {B:Nat} {cs:List Value} (h:Holds W B cs) (hc:0<cs.length):B<W.heap.size:=by
 have h0:=h.cell 0 (List.getElem?_eq_getElem hc)
 rcases Nat.lt_or_ge B W.heap.size with h1|h1
 ·exact h1
 ·exfalso
  have e:W.heap[B]? =none:=Array.getElem?_eq_none h1
  simp[World.cell?,e] at h0
def Bt (cs:List Value) (p:Nat) (vs:List Value):List Value:=cs.take p++vs++cs.drop (p+vs.length)
theorem Holds.put {W:World} {B:Nat} {cs:List Value} (h:Holds W B cs) (p:Nat) (vs:List Value) (hp:p+vs.length<=cs.length):Holds (W.setCells B p vs) B (Bt cs p vs):=by
 refine⟨fun j=>by rw[World.frozen?_setCells];exact h.1 j,fun j v hv=> ?_⟩
 unfold Bt at hv
 have hth:=h.there p vs.length hp
 have e0:(⟨B,0+j,none⟩:Addr)=⟨B,j,none⟩:=by simp
 rw[e0]
 by_cases h1:j<p
 ·rw[List.getElem?_append_left (by simp;omega),List.getElem?_append_left (by simp;omega),List.getElem?_take,if_pos h1] at hv
  rw[World.cell?_setCells_out B vs p W ⟨B,j,none⟩ (fun _ _=>Or.inl h1)]
  exact h.cell j hv
 ·by_cases h2:j<p+vs.length
  ·rw[List.getElem?_append_left (by simp;omega),List.getElem?_append_right (by simp;omega)] at hv
   have h3:=World.rangeAt_setCells_same W B p vs hth (j - p) v (by simpa [Nat.min_eq_left (by omega:p<=cs.length)] using hv)
   rwa [show p+(j - p)=j by omega] at h3
  ·rw[List.getElem?_append_right (by simp;omega),List.getElem?_drop] at hv
   rw[World.cell?_setCells_out B vs p W ⟨B,j,none⟩ (fun _ _=>Or.inr (by show p+vs.length<=j;omega))]
   refine h.cell j ?_
   rw[←hv]
   congr 1
   simp
   omega
section
variable {o:Oper} {a:Act} {W:World} {x:Operand} {B p:Nat} {cs:List Value}
theorem Ad {v:Value} (t:TypeId) (hna: ∀w,(isAgg t).run Tryz.prog w= .ok false w) (ho:o.op= .load t x) (hx:a.eval x= .pointer (some ⟨B,p,none⟩)) (hc:Holds W B cs) (hv:cs[p]? =some v):(execOp a.eval o).run Tryz.prog W= .ok (.value v) W:=by
 have h0:=hc.cell p hv
 unfold execOp
 simp only[ho,hx]
 simp[go_sem,h0,hna]
theorem Af {vs:List Value} (t:TypeId) (n:Nat) (hu: ∃d,Tryz.prog.underlying t=some d/\d.isRow=true) (hi:(Tryz.prog.info? t).map (·.size)=some n) (ho:o.op= .load t x) (hx:a.eval x= .pointer (some ⟨B,p,none⟩)) (hc:Holds W B cs) (hv:(cs.drop p).take n=vs) (hn:vs.length=n):(execOp a.eval o).run Tryz.prog W= .ok (.value (.agg vs.toArray)) W:=by
 obtain⟨d,hu,hd⟩:=hu
 have h0:=hc.mid p n
 rw[hv] at h0
 unfold execOp
 simp only[ho,hx,Instr.loadAt,Instr.sureAddr,Sem.run_bind,Sem.run_pure,Result.andThen_ok,run_loadVar_mid W B p t vs d h0 hu hd (by rw[hi,hn])]
end
