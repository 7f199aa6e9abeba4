import Derived.Test.YthcmamjpfigdfaaGreatDoorQr
set_option linter.all false
namespace Go.Proofs.YthcmamjpfigdfaaGreatDoor
set_option maxRecDepth 100000
set_option maxHeartbeats 0
section
open Go Go.Proofs Go.RowKit FM
theorem Ls {w W:World} {b:Nat} (hb:w.heap.size<=b): ∀(vs:List Value) (o:Nat) (W:World),Below w.heap.size w W->Below w.heap.size w (W.setCells b o vs)
 | [],_,_,h=>h
 |v::r,o,W,h=>Ls (W:=W) hb r (o+1) _ (h.setCell hb v)
theorem Me {b:Nat}: ∀(vs:List Value) (o:Nat) (W:World),(W.setCells b o vs).heap.size=W.heap.size
 | [],_,_=>rfl
 |v::r,o,W=>by
  rw[World.setCells,Me r (o+1)]
  simp
theorem PB.far {W:World} {B b o:Nat} {vs:List Value} {p:PB} (h:p.lies W B) (hne:B≠b):p.lies (W.setCells b o vs) B:=by
 cases p
 ·unfold PB.lies Lies at *
  simp only[World.frozen?_setCells,World.cell?_setCells_out b vs o W ⟨B,_,none⟩ (fun h1 _=>absurd h1 hne)]
  exact h
 ·unfold PB.lies VLies at *
  simp only[World.frozen?_setCells,World.cell?_setCells_out b vs o W ⟨B,_,none⟩ (fun h1 _=>absurd h1 hne)]
  exact h
theorem HoldsP.far {W:World} {b o:Nat} {vs:List Value}: ∀{l:List PB} {B:Nat},HoldsP W B l->b<B->HoldsP (W.setCells b o vs) B l
 | [],_,_,_=>trivial
 |_::_,_,h,hb=>⟨PB.far h.1 (by omega),HoldsP.far h.2 (by omega)⟩
theorem HoldsP.at {W:World}: ∀{l:List PB} {B i:Nat} {q:PB},HoldsP W B l->l[i]? =some q->q.lies W (B+i)
 |p::r,B,0,q,h,hi=>by
  obtain rfl:p=q:=by simpa using hi
  exact h.1
 |p::r,B,i+1,q,h,hi=>by
  have:=HoldsP.at h.2 (i:=i) (q:=q) (by simpa using hi)
  rw[Nat.add_right_comm] at this
  exact this
theorem HoldsP.set {W:World} {b o:Nat} {vs:List Value} {p q:PB} (hp:q.lies W b->p.lies (W.setCells b o vs) b): ∀{l:List PB} {B i:Nat},HoldsP W B l->b=B+i->l[i]? =some q->HoldsP (W.setCells b o vs) B (l.set i p)
 |q'::r,B,0,h,hb,hi=>by
  obtain rfl:b=B:=by omega
  obtain rfl:q'=q:=by simpa using hi
  exact⟨hp h.1,HoldsP.far h.2 (by omega)⟩
 |q'::r,B,i+1,h,hb,hi=>⟨PB.far h.1 (by omega),HoldsP.set hp h.2 (by omega) (by simpa using hi)⟩
theorem Lie.put {w W:World} {l:List PB} {i o:Nat} {vs:List Value} {p q:PB} (h:Lie w W l) (hi:l[i]? =some q) (hp:q.lies W (w.heap.size+i)->p.lies (W.setCells (w.heap.size+i) o vs) (w.heap.size+i)):
  Lie w (W.setCells (w.heap.size+i) o vs) (l.set i p):=
 ⟨Ls (W:=W) (Nat.le_add_right _ _) _ _ _ h.below,by rw[Me,List.length_set];exact h.size,h.holds.set hp rfl hi⟩
theorem Bz {W:World} {b o j:Nat} {vs:List Value} {v:Value} (hs: ∀j,j<vs.length->(W.cell? ⟨b,o+j,none⟩).isSome=true) (hv:vs[j]? =some v):(W.setCells b o vs).cell? ⟨b,o+j,none⟩=some v:=by
 obtain⟨hj,e⟩:=List.getElem?_eq_some_iff.1 hv
 rw[World.cell?_setCells_in b vs o W hs j hj,e]
theorem Ap {W:World} {b o j:Nat} {vs:List Value} (hj:j<o∨o+vs.length<=j):(W.setCells b o vs).cell? ⟨b,j,none⟩=W.cell? ⟨b,j,none⟩:=
 World.cell?_setCells_out b vs o W ⟨b,j,none⟩ (fun _ _=>hj)
theorem Lies.setD {W:World} {B:Nat} {d:DD} {d':DD} (h:Lies W B d):Lies (W.setCells B 0 d'.cs) B d':=by
 obtain⟨f,h0,h1,h2,h3,h4,h5,h6,h7,h8,h9,h10,h11,h12,h13,h14,h15,h16,h17⟩:=h
 have hs: ∀j,j<18->(W.cell? ⟨B,0+j,none⟩).isSome=true:=by
  intro j hj
  match j,hj with
  |0,_=>exact h0▸rfl
  |1,_=>exact h1▸rfl
  |2,_=>exact h2▸rfl
  |3,_=>exact h3▸rfl
  |4,_=>exact h4▸rfl
  |5,_=>exact h5▸rfl
  |6,_=>exact h6▸rfl
  |7,_=>exact h7▸rfl
  |8,_=>exact h8▸rfl
  |9,_=>exact h9▸rfl
  |10,_=>exact h10▸rfl
  |11,_=>exact h11▸rfl
  |12,_=>exact h12▸rfl
  |13,_=>exact h13▸rfl
  |14,_=>exact h14▸rfl
  |15,_=>exact h15▸rfl
  |16,_=>exact h16▸rfl
  |17,_=>exact h17▸rfl
  |j+18,hj=>exact absurd hj (by omega)
 refine⟨fun j=>(World.frozen?_setCells _ _ _ _ _).trans (f j), ?_, ?_, ?_, ?_, ?_, ?_, ?_, ?_, ?_, ?_, ?_, ?_, ?_, ?_, ?_, ?_, ?_, ?_⟩
 ·exact Bz (o:=0) (j:=0) hs rfl
 ·exact Bz (o:=0) (j:=1) hs rfl
 ·exact Bz (o:=0) (j:=2) hs rfl
 ·exact Bz (o:=0) (j:=3) hs rfl
 ·exact Bz (o:=0) (j:=4) hs rfl
 ·exact Bz (o:=0) (j:=5) hs rfl
 ·exact Bz (o:=0) (j:=6) hs rfl
 ·exact Bz (o:=0) (j:=7) hs rfl
 ·exact Bz (o:=0) (j:=8) hs rfl
 ·exact Bz (o:=0) (j:=9) hs rfl
 ·exact Bz (o:=0) (j:=10) hs rfl
 ·exact Bz (o:=0) (j:=11) hs rfl
 ·exact Bz (o:=0) (j:=12) hs rfl
 ·exact Bz (o:=0) (j:=13) hs rfl
 ·exact Bz (o:=0) (j:=14) hs rfl
 ·exact Bz (o:=0) (j:=15) hs rfl
 ·exact Bz (o:=0) (j:=16) hs rfl
 ·exact Bz (o:=0) (j:=17) hs rfl
theorem Lies.setv {W:World} {B:Nat} {d:DD} {u:VV} (h:Lies W B d):Lies (W.setCells B 0 u.cs) B {d with v:=u}:=by
 obtain⟨f,h0,h1,h2,h3,h4,h5,h6,h7,h8,h9,h10,h11,h12,h13,h14,h15,h16,h17⟩:=h
 have hs: ∀j,j<5->(W.cell? ⟨B,0+j,none⟩).isSome=true:=by
  intro j hj
  match j,hj with
  |0,_=>exact h0▸rfl
  |1,_=>exact h1▸rfl
  |2,_=>exact h2▸rfl
  |3,_=>exact h3▸rfl
  |4,_=>exact h4▸rfl
  |j+5,hj=>exact absurd hj (by omega)
 refine⟨fun j=>(World.frozen?_setCells _ _ _ _ _).trans (f j), ?_, ?_, ?_, ?_, ?_, ?_, ?_, ?_, ?_, ?_, ?_, ?_, ?_, ?_, ?_, ?_, ?_, ?_⟩
 ·exact Bz (o:=0) (j:=0) hs rfl
 ·exact Bz (o:=0) (j:=1) hs rfl
 ·exact Bz (o:=0) (j:=2) hs rfl
 ·exact Bz (o:=0) (j:=3) hs rfl
 ·exact Bz (o:=0) (j:=4) hs rfl
 ·exact(Ap (by simp[VV.cs])).trans h5
 ·exact(Ap (by simp[VV.cs])).trans h6
 ·exact(Ap (by simp[VV.cs])).trans h7
 ·exact(Ap (by simp[VV.cs])).trans h8
 ·exact(Ap (by simp[VV.cs])).trans h9
 ·exact(Ap (by simp[VV.cs])).trans h10
 ·exact(Ap (by simp[VV.cs])).trans h11
 ·exact(Ap (by simp[VV.cs])).trans h12
 ·exact(Ap (by simp[VV.cs])).trans h13
 ·exact(Ap (by simp[VV.cs])).trans h14
 ·exact(Ap (by simp[VV.cs])).trans h15
 ·exact(Ap (by simp[VV.cs])).trans h16
 ·exact(Ap (by simp[VV.cs])).trans h17
theorem Lies.setg {W:World} {B:Nat} {d:DD} {u:VV} (h:Lies W B d):Lies (W.setCells B 5 u.cs) B {d with g:=u}:=by
 obtain⟨f,h0,h1,h2,h3,h4,h5,h6,h7,h8,h9,h10,h11,h12,h13,h14,h15,h16,h17⟩:=h
 have hs: ∀j,j<5->(W.cell? ⟨B,5+j,none⟩).isSome=true:=by
  intro j hj
  match j,hj with
  |0,_=>exact h5▸rfl
  |1,_=>exact h6▸rfl
  |2,_=>exact h7▸rfl
  |3,_=>exact h8▸rfl
  |4,_=>exact h9▸rfl
  |j+5,hj=>exact absurd hj (by omega)
 refine⟨fun j=>(World.frozen?_setCells _ _ _ _ _).trans (f j), ?_, ?_, ?_, ?_, ?_, ?_, ?_, ?_, ?_, ?_, ?_, ?_, ?_, ?_, ?_, ?_, ?_, ?_⟩
 ·exact(Ap (by simp[VV.cs])).trans h0
 ·exact(Ap (by simp[VV.cs])).trans h1
 ·exact(Ap (by simp[VV.cs])).trans h2
 ·exact(Ap (by simp[VV.cs])).trans h3
 ·exact(Ap (by simp[VV.cs])).trans h4
 ·exact Bz (o:=5) (j:=0) hs rfl
 ·exact Bz (o:=5) (j:=1) hs rfl
 ·exact Bz (o:=5) (j:=2) hs rfl
 ·exact Bz (o:=5) (j:=3) hs rfl
 ·exact Bz (o:=5) (j:=4) hs rfl
 ·exact(Ap (by simp[VV.cs])).trans h10
 ·exact(Ap (by simp[VV.cs])).trans h11
 ·exact(Ap (by simp[VV.cs])).trans h12
 ·exact(Ap (by simp[VV.cs])).trans h13
 ·exact(Ap (by simp[VV.cs])).trans h14
 ·exact(Ap (by simp[VV.cs])).trans h15
 ·exact(Ap (by simp[VV.cs])).trans h16
 ·exact(Ap (by simp[VV.cs])).trans h17
theorem Lies.sets {W:World} {B:Nat} {d:DD} {u:VV} (h:Lies W B d):Lies (W.setCells B 10 u.cs) B {d with s:=u}:=by
 obtain⟨f,h0,h1,h2,h3,h4,h5,h6,h7,h8,h9,h10,h11,h12,h13,h14,h15,h16,h17⟩:=h
 have hs: ∀j,j<5->(W.cell? ⟨B,10+j,none⟩).isSome=true:=by
  intro j hj
  match j,hj with
  |0,_=>exact h10▸rfl
  |1,_=>exact h11▸rfl
  |2,_=>exact h12▸rfl
  |3,_=>exact h13▸rfl
  |4,_=>exact h14▸rfl
  |j+5,hj=>exact absurd hj (by omega)
 refine⟨fun j=>(World.frozen?_setCells _ _ _ _ _).trans (f j), ?_, ?_, ?_, ?_, ?_, ?_, ?_, ?_, ?_, ?_, ?_, ?_, ?_, ?_, ?_, ?_, ?_, ?_⟩
 ·exact(Ap (by simp[VV.cs])).trans h0
 ·exact(Ap (by simp[VV.cs])).trans h1
 ·exact(Ap (by simp[VV.cs])).trans h2
 ·exact(Ap (by simp[VV.cs])).trans h3
 ·exact(Ap (by simp[VV.cs])).trans h4
 ·exact(Ap (by simp[VV.cs])).trans h5
 ·exact(Ap (by simp[VV.cs])).trans h6
 ·exact(Ap (by simp[VV.cs])).trans h7
 ·exact(Ap (by simp[VV.cs])).trans h8
 ·exact(Ap (by simp[VV.cs])).trans h9
 ·exact Bz (o:=10) (j:=0) hs rfl
 ·exact Bz (o:=10) (j:=1) hs rfl
 ·exact Bz (o:=10) (j:=2) hs rfl
 ·exact Bz (o:=10) (j:=3) hs rfl
 ·exact Bz (o:=10) (j:=4) hs rfl
 ·exact(Ap (by simp[VV.cs])).trans h15
 ·exact(Ap (by simp[VV.cs])).trans h16
 ·exact(Ap (by simp[VV.cs])).trans h17
theorem Lies.setw {W:World} {B:Nat} {d:DD} {n:Int} (h:Lies W B d):Lies (W.setCells B 15 [.int .i64 n]) B {d with w:=n}:=by
 obtain⟨f,h0,h1,h2,h3,h4,h5,h6,h7,h8,h9,h10,h11,h12,h13,h14,h15,h16,h17⟩:=h
 have hs: ∀j,j<1->(W.cell? ⟨B,15+j,none⟩).isSome=true:=by
  intro j hj
  match j,hj with
  |0,_=>exact h15▸rfl
  |j+1,hj=>exact absurd hj (by omega)
 refine⟨fun j=>(World.frozen?_setCells _ _ _ _ _).trans (f j), ?_, ?_, ?_, ?_, ?_, ?_, ?_, ?_, ?_, ?_, ?_, ?_, ?_, ?_, ?_, ?_, ?_, ?_⟩
 ·exact(Ap (by simp[VV.cs])).trans h0
 ·exact(Ap (by simp[VV.cs])).trans h1
 ·exact(Ap (by simp[VV.cs])).trans h2
 ·exact(Ap (by simp[VV.cs])).trans h3
 ·exact(Ap (by simp[VV.cs])).trans h4
 ·exact(Ap (by simp[VV.cs])).trans h5
 ·exact(Ap (by simp[VV.cs])).trans h6
 ·exact(Ap (by simp[VV.cs])).trans h7
 ·exact(Ap (by simp[VV.cs])).trans h8
 ·exact(Ap (by simp[VV.cs])).trans h9
 ·exact(Ap (by simp[VV.cs])).trans h10
 ·exact(Ap (by simp[VV.cs])).trans h11
 ·exact(Ap (by simp[VV.cs])).trans h12
 ·exact(Ap (by simp[VV.cs])).trans h13
 ·exact(Ap (by simp[VV.cs])).trans h14
 ·exact Bz (o:=15) (j:=0) hs rfl
 ·exact(Ap (by simp[VV.cs])).trans h16
 ·exact(Ap (by simp[VV.cs])).trans h17
theorem Lies.sete {W:World} {B:Nat} {d:DD} {n:Int} (h:Lies W B d):Lies (W.setCells B 16 [.int .i64 n]) B {d with e:=n}:=by
 obtain⟨f,h0,h1,h2,h3,h4,h5,h6,h7,h8,h9,h10,h11,h12,h13,h14,h15,h16,h17⟩:=h
 have hs: ∀j,j<1->(W.cell? ⟨B,16+j,none⟩).isSome=true:=by
  intro j hj
  match j,hj with
  |0,_=>exact h16▸rfl
  |j+1,hj=>exact absurd hj (by omega)
 refine⟨fun j=>(World.frozen?_setCells _ _ _ _ _).trans (f j), ?_, ?_, ?_, ?_, ?_, ?_, ?_, ?_, ?_, ?_, ?_, ?_, ?_, ?_, ?_, ?_, ?_, ?_⟩
 ·exact(Ap (by simp[VV.cs])).trans h0
 ·exact(Ap (by simp[VV.cs])).trans h1
 ·exact(Ap (by simp[VV.cs])).trans h2
 ·exact(Ap (by simp[VV.cs])).trans h3
 ·exact(Ap (by simp[VV.cs])).trans h4
 ·exact(Ap (by simp[VV.cs])).trans h5
 ·exact(Ap (by simp[VV.cs])).trans h6
 ·exact(Ap (by simp[VV.cs])).trans h7
 ·exact(Ap (by simp[VV.cs])).trans h8
 ·exact(Ap (by simp[VV.cs])).trans h9
 ·exact(Ap (by simp[VV.cs])).trans h10
 ·exact(Ap (by simp[VV.cs])).trans h11
 ·exact(Ap (by simp[VV.cs])).trans h12
 ·exact(Ap (by simp[VV.cs])).trans h13
 ·exact(Ap (by simp[VV.cs])).trans h14
 ·exact(Ap (by simp[VV.cs])).trans h15
 ·exact Bz (o:=16) (j:=0) hs rfl
 ·exact(Ap (by simp[VV.cs])).trans h17
theorem Lies.setc {W:World} {B:Nat} {d:DD} {n:Int} (h:Lies W B d):Lies (W.setCells B 17 [.int .i64 n]) B {d with c:=n}:=by
 obtain⟨f,h0,h1,h2,h3,h4,h5,h6,h7,h8,h9,h10,h11,h12,h13,h14,h15,h16,h17⟩:=h
 have hs: ∀j,j<1->(W.cell? ⟨B,17+j,none⟩).isSome=true:=by
  intro j hj
  match j,hj with
  |0,_=>exact h17▸rfl
  |j+1,hj=>exact absurd hj (by omega)
 refine⟨fun j=>(World.frozen?_setCells _ _ _ _ _).trans (f j), ?_, ?_, ?_, ?_, ?_, ?_, ?_, ?_, ?_, ?_, ?_, ?_, ?_, ?_, ?_, ?_, ?_, ?_⟩
 ·exact(Ap (by simp[VV.cs])).trans h0
 ·exact(Ap (by simp[VV.cs])).trans h1
 ·exact(Ap (by simp[VV.cs])).trans h2
 ·exact(Ap (by simp[VV.cs])).trans h3
 ·exact(Ap (by simp[VV.cs])).trans h4
 ·exact(Ap (by simp[VV.cs])).trans h5
 ·exact(Ap (by simp[VV.cs])).trans h6
 ·exact(Ap (by simp[VV.cs])).trans h7
 ·exact(Ap (by simp[VV.cs])).trans h8
 ·exact(Ap (by simp[VV.cs])).trans h9
 ·exact(Ap (by simp[VV.cs])).trans h10
 ·exact(Ap (by simp[VV.cs])).trans h11
 ·exact(Ap (by simp[VV.cs])).trans h12
 ·exact(Ap (by simp[VV.cs])).trans h13
 ·exact(Ap (by simp[VV.cs])).trans h14
 ·exact(Ap (by simp[VV.cs])).trans h15
 ·exact(Ap (by simp[VV.cs])).trans h16
 ·exact Bz (o:=17) (j:=0) hs rfl
theorem Lies.setstr {W:World} {B:Nat} {d:DD} {n:ByteArray} (h:Lies W B d):Lies (W.setCells B 3 [.string n]) B {d with v:={d.v with s:=n}}:=by
 obtain⟨f,h0,h1,h2,h3,h4,h5,h6,h7,h8,h9,h10,h11,h12,h13,h14,h15,h16,h17⟩:=h
 have hs: ∀j,j<1->(W.cell? ⟨B,3+j,none⟩).isSome=true:=by
  intro j hj
  match j,hj with
  |0,_=>exact h3▸rfl
  |j+1,hj=>exact absurd hj (by omega)
 refine⟨fun j=>(World.frozen?_setCells _ _ _ _ _).trans (f j), ?_, ?_, ?_, ?_, ?_, ?_, ?_, ?_, ?_, ?_, ?_, ?_, ?_, ?_, ?_, ?_, ?_, ?_⟩
 ·exact(Ap (by simp[VV.cs])).trans h0
 ·exact(Ap (by simp[VV.cs])).trans h1
 ·exact(Ap (by simp[VV.cs])).trans h2
 ·exact Bz (o:=3) (j:=0) hs rfl
 ·exact(Ap (by simp[VV.cs])).trans h4
 ·exact(Ap (by simp[VV.cs])).trans h5
 ·exact(Ap (by simp[VV.cs])).trans h6
 ·exact(Ap (by simp[VV.cs])).trans h7
 ·exact(Ap (by simp[VV.cs])).trans h8
 ·exact(Ap (by simp[VV.cs])).trans h9
 ·exact(Ap (by simp[VV.cs])).trans h10
 ·exact(Ap (by simp[VV.cs])).trans h11
 ·exact(Ap (by simp[VV.cs])).trans h12
 ·exact(Ap (by simp[VV.cs])).trans h13
 ·exact(Ap (by simp[VV.cs])).trans h14
 ·exact(Ap (by simp[VV.cs])).trans h15
 ·exact(Ap (by simp[VV.cs])).trans h16
 ·exact(Ap (by simp[VV.cs])).trans h17
end
section
open Go Go.Proofs Go.RowKit FM Tryz
theorem Lies.there {W:World} {B:Nat} {d:DD} (h:Lies W B d):W.there B 0 18:=by
 obtain⟨f,h0,h1,h2,h3,h4,h5,h6,h7,h8,h9,h10,h11,h12,h13,h14,h15,h16,h17⟩:=h
 intro j hj
 match j,hj with
 |0,_=>exact⟨h0▸rfl,f _⟩
 |1,_=>exact⟨h1▸rfl,f _⟩
 |2,_=>exact⟨h2▸rfl,f _⟩
 |3,_=>exact⟨h3▸rfl,f _⟩
 |4,_=>exact⟨h4▸rfl,f _⟩
 |5,_=>exact⟨h5▸rfl,f _⟩
 |6,_=>exact⟨h6▸rfl,f _⟩
 |7,_=>exact⟨h7▸rfl,f _⟩
 |8,_=>exact⟨h8▸rfl,f _⟩
 |9,_=>exact⟨h9▸rfl,f _⟩
 |10,_=>exact⟨h10▸rfl,f _⟩
 |11,_=>exact⟨h11▸rfl,f _⟩
 |12,_=>exact⟨h12▸rfl,f _⟩
 |13,_=>exact⟨h13▸rfl,f _⟩
 |14,_=>exact⟨h14▸rfl,f _⟩
 |15,_=>exact⟨h15▸rfl,f _⟩
 |16,_=>exact⟨h16▸rfl,f _⟩
 |17,_=>exact⟨h17▸rfl,f _⟩
 |j+18,hj=>exact absurd hj (by omega)
theorem Kg {ops:Array Oper} {rest:List Oper} {o:Oper} {a:Act} {w w0:World} {Q:Exit->Act->World->Prop} {x y:Operand} {l:List PB} (i:Nat) {d:DD} {u:DD} (hw:Region.wanted o (yielded ops a.tmps)=true) (ho:o.op= .store 43 x y) (hL:Lie w0 w l) (hi:l[i]? =some (.D d))
  (hx:a.eval x= .pointer (some ⟨w0.heap.size+i,0,none⟩)) (hy:a.eval y=u.agg) (h: ∀X,Lie w0 X (l.set i (.D u))->wpList prog ops Q rest (a.put o.dst undef) X):wpList prog ops Q (o::rest) a w:=by
 refine BigFrame.wpList_want hw fun K hK=> ?_
 have hc:=hL.holds.at hi
 exact wp_store_mid 43 x y ho _ 0 u.cs.toArray hx hy (Lies.there hc) Xp (by simp[DD.cs,VV.cs,Value.oneCell']) (hK _ _ (h _ (hL.put hi fun hq=>Lies.setD hq)))
theorem Uy {W:World} {b j:Nat} {v c:Value} {m:Mode} (hc:W.cell? ⟨b,j,none⟩=some c) (hf:W.frozen? ⟨b,j,none⟩=false):stored prog W ⟨b,j,none⟩ v m= .ok () (W.setCells b j [v]):=by
 unfold stored
 rw[hc]
 simp[hf,World.setCells]
theorem store25w {ops:Array Oper} {rest:List Oper} {o:Oper} {a:Act} {w w0:World} {Q:Exit->Act->World->Prop} {x y:Operand} {l:List PB} (i:Nat) {d:DD} {n:Int} (hw:Region.wanted o (yielded ops a.tmps)=true) (ho:o.op= .store 41 x y) (hL:Lie w0 w l) (hi:l[i]? =some (.D d))
  (hx:a.eval x= .pointer (some ⟨w0.heap.size+i,15,none⟩)) (hy:a.eval y= .int .i64 n) (h: ∀X,Lie w0 X (l.set i (.D {d with w:=n}))->wpList prog ops Q rest (a.put o.dst undef) X):wpList prog ops Q (o::rest) a w:=by
 refine BigFrame.wpList_want hw fun K hK=> ?_
 have hc:=hL.holds.at hi
 have hP:=hK _ _ (h _ (hL.put hi fun hq=>Lies.setw (n:=n) hq))
 obtain⟨f,h0,h1,h2,h3,h4,h5,h6,h7,h8,h9,h10,h11,h12,h13,h14,h15,h16,h17⟩:=hc
 have hs: ∀m,stored prog w ⟨w0.heap.size+i,15,none⟩ (.int .i64 n) m= .ok () (w.setCells (w0.heap.size+i) 15 [.int .i64 n]):=fun m=>Uy h15 (f _)
 unfold Oper.wp execOp
 simp only[ho,hx,hy]
 simp only[go_sem] at hs
 simp[go_sem,Tryz.sizeOf41]
 simp[hs]
 exact hP
theorem Zaa {ops:Array Oper} {rest:List Oper} {o:Oper} {a:Act} {w w0:World} {Q:Exit->Act->World->Prop} {x y:Operand} {l:List PB} (i:Nat) {d:DD} {n:Int} (hw:Region.wanted o (yielded ops a.tmps)=true) (ho:o.op= .store 41 x y) (hL:Lie w0 w l) (hi:l[i]? =some (.D d))
  (hx:a.eval x= .pointer (some ⟨w0.heap.size+i,16,none⟩)) (hy:a.eval y= .int .i64 n) (h: ∀X,Lie w0 X (l.set i (.D {d with e:=n}))->wpList prog ops Q rest (a.put o.dst undef) X):wpList prog ops Q (o::rest) a w:=by
 refine BigFrame.wpList_want hw fun K hK=> ?_
 have hc:=hL.holds.at hi
 have hP:=hK _ _ (h _ (hL.put hi fun hq=>Lies.sete (n:=n) hq))
 obtain⟨f,h0,h1,h2,h3,h4,h5,h6,h7,h8,h9,h10,h11,h12,h13,h14,h15,h16,h17⟩:=hc
 have hs: ∀m,stored prog w ⟨w0.heap.size+i,16,none⟩ (.int .i64 n) m= .ok () (w.setCells (w0.heap.size+i) 16 [.int .i64 n]):=fun m=>Uy h16 (f _)
 unfold Oper.wp execOp
 simp only[ho,hx,hy]
 simp only[go_sem] at hs
 simp[go_sem,Tryz.sizeOf41]
 simp[hs]
 exact hP
theorem Zab {ops:Array Oper} {rest:List Oper} {o:Oper} {a:Act} {w w0:World} {Q:Exit->Act->World->Prop} {x y:Operand} {l:List PB} (i:Nat) {d:DD} {n:Int} (hw:Region.wanted o (yielded ops a.tmps)=true) (ho:o.op= .store 41 x y) (hL:Lie w0 w l) (hi:l[i]? =some (.D d))
  (hx:a.eval x= .pointer (some ⟨w0.heap.size+i,17,none⟩)) (hy:a.eval y= .int .i64 n) (h: ∀X,Lie w0 X (l.set i (.D {d with c:=n}))->wpList prog ops Q rest (a.put o.dst undef) X):wpList prog ops Q (o::rest) a w:=by
 refine BigFrame.wpList_want hw fun K hK=> ?_
 have hc:=hL.holds.at hi
 have hP:=hK _ _ (h _ (hL.put hi fun hq=>Lies.setc (n:=n) hq))
 obtain⟨f,h0,h1,h2,h3,h4,h5,h6,h7,h8,h9,h10,h11,h12,h13,h14,h15,h16,h17⟩:=hc
 have hs: ∀m,stored prog w ⟨w0.heap.size+i,17,none⟩ (.int .i64 n) m= .ok () (w.setCells (w0.heap.size+i) 17 [.int .i64 n]):=fun m=>Uy h17 (f _)
 unfold Oper.wp execOp
 simp only[ho,hx,hy]
 simp only[go_sem] at hs
 simp[go_sem,Tryz.sizeOf41]
 simp[hs]
 exact hP
theorem store9 {ops:Array Oper} {rest:List Oper} {o:Oper} {a:Act} {w w0:World} {Q:Exit->Act->World->Prop} {x y:Operand} {l:List PB} (i:Nat) {d:DD} {n:ByteArray} (hw:Region.wanted o (yielded ops a.tmps)=true) (ho:o.op= .store 9 x y) (hL:Lie w0 w l) (hi:l[i]? =some (.D d))
  (hx:a.eval x= .pointer (some ⟨w0.heap.size+i,3,none⟩)) (hy:a.eval y= .string n) (h: ∀X,Lie w0 X (l.set i (.D {d with v:={d.v with s:=n}}))->wpList prog ops Q rest (a.put o.dst undef) X):wpList prog ops Q (o::rest) a w:=by
 refine BigFrame.wpList_want hw fun K hK=> ?_
 have hc:=hL.holds.at hi
 have hP:=hK _ _ (h _ (hL.put hi fun hq=>Lies.setstr (n:=n) hq))
 obtain⟨f,h0,h1,h2,h3,h4,h5,h6,h7,h8,h9,h10,h11,h12,h13,h14,h15,h16,h17⟩:=hc
 have hs: ∀m,stored prog w ⟨w0.heap.size+i,3,none⟩ (.string n) m= .ok () (w.setCells (w0.heap.size+i) 3 [.string n]):=fun m=>Uy h3 (f _)
 unfold Oper.wp execOp
 simp only[ho,hx,hy]
 simp only[go_sem] at hs
 simp[go_sem,Tryz.sizeOf9]
 simp[hs]
 exact hP
theorem Zc5 {fn:Func} {R:Ending->World->Prop} {a:Act} {w:World} {b r:Nat} {d:DD} (hr:fn.results= #[.cell r 43]) (hdf:a.defers= [])
  (hx:a.tmps.getD r undef= .pointer (some ⟨b,0,none⟩)) (hc:Lies w b d) (h:R (.returned (d.agg)) w):bodyPost prog fn R .ret a w:=by
 obtain⟨t,hu,hd⟩:=Zo
 have hl:=run_loadVar_mid (P:=prog) w b 0 43 _ t hc.range hu hd Xp
 refine⟨hdf,_, ?_,h⟩
 simp only[Array.getD_eq_getD_getElem?] at hx
 unfold results
 simp[hr,hx,hl,asAddr]
 try rfl
theorem Oi {fn:Func} {R:Ending->World->Prop} {a:Act} {w:World} {b r:Nat} {d:DD} {t t2:Nat} {v v2:Value} (hr:fn.results= #[.cell r 43, .tmp t, .tmp t2]) (hdf:a.defers= [])
  (hx:a.tmps.getD r undef= .pointer (some ⟨b,0,none⟩)) (hv:a.tmps.getD t undef=v) (hv2:a.tmps.getD t2 undef=v2) (hc:Lies w b d) (h:R (.returned (.tuple #[d.agg,v,v2])) w):bodyPost prog fn R .ret a w:=by
 obtain⟨t,hu,hd⟩:=Zo
 have hl:=run_loadVar_mid (P:=prog) w b 0 43 _ t hc.range hu hd Xp
 refine⟨hdf,_, ?_,h⟩
 simp only[Array.getD_eq_getD_getElem?] at hx hv hv2
 unfold results
 simp[hr,hx,hl,asAddr,hv,hv2]
 try rfl
def noV (d:DD):Bool:=Az d==1 && !(d.e !=0) && !(d.c !=0)
def stV (d:DD):Bool:=noV d||wholeV d
def Mt (d:DD):Int:=if Eo d==0 then 5 else 0
theorem ZaB (d:DD) (hd:FD d) (w:World) (hT:Lib.Utf8Tabs 1 2 w):Calls prog 92 #[d.agg] w fun e w'=>e= .returned (.int .i64 (Eo d))/\Below w.heap.size w w':=by
 have HA:=Ab (fun w hT=>ZfX d hd w hT)
 have HB:=Ab (By d hd)
 have HT:=Ab hT
 clear hT
 clear hd
 have LL:=Ab (Lie.new1 w (.D d))
 unfold Eo
 generalize Ee d=so at *
 generalize Az d=sh at *
 have hq0:=Gk d
 rw[hq0]
 clear hq0
 go_enter func92,ntmps92
 go_wp2_with (((with_reducible apply Bu);(case ho|hx|hw=>rfl);(case hc=>first|exact(Aa LL).one);simp only[nn]))
 refine(Aa HA _ (Ao (Aa HT) (Aa LL).below)).mono ?_
 rintro _ w1 ⟨rfl,hb⟩
 replace LL:=Ab ((Aa LL).on hb)
 clear hb
 cases so
 ·go_wp2_with fail
  go_ret
  exact⟨rfl,(Aa LL).below⟩
 ·go_wp2_with (((with_reducible apply Bu);(case ho|hx|hw=>rfl);(case hc=>first|exact(Aa LL).one);simp only[nn]))
  refine(Aa HB _).mono ?_
  rintro _ w2 ⟨rfl,hb⟩
  replace LL:=Ab ((Aa LL).on hb)
  clear hb
  go_wp2_with fail
  go_ret
  exact⟨rfl,(Aa LL).below⟩
theorem ZdF (d:DD) (hd:FD d) (w:World) (hT:Lib.Utf8Tabs 1 2 w):Calls prog 39 #[d.agg] w fun e w'=>e= .returned (.int .i64 (Mt d))/\Below w.heap.size w w':=by
 have HK:=Ab (fun w hT=>ZaB d hd w hT)
 have HT:=Ab hT
 clear hT
 clear hd
 have LL:=Ab (Lie.new1 w (.D d))
 unfold Mt
 generalize Eo d=k at *
 have hq0:=Gk d
 rw[hq0]
 clear hq0
 by_cases hk:k=0
 ·subst hk
  go_enter func39,ntmps39
  go_wp2_with (((with_reducible apply Bu);(case ho|hx|hw=>rfl);(case hc=>first|exact(Aa LL).one);simp only[nn]))
  refine(Aa HK _ (Ao (Aa HT) (Aa LL).below)).mono ?_
  rintro _ w3 ⟨rfl,hb⟩
  replace LL:=Ab ((Aa LL).on hb)
  clear hb
  go_wp2_with fail
  go_ret
  exact⟨rfl,(Aa LL).below⟩
 ·have hk2:(k==0)=false:=by simp[hk]
  rw[hk2]
  go_enter func39,ntmps39
  go_wp2_with (((with_reducible apply Bu);(case ho|hx|hw=>rfl);(case hc=>first|exact(Aa LL).one);simp only[nn]))
  refine(Aa HK _ (Ao (Aa HT) (Aa LL).below)).mono ?_
  rintro _ w4 ⟨rfl,hb⟩
  replace LL:=Ab ((Aa LL).on hb)
  clear hb
  go_wp2_with fail
  go_ret
  exact⟨rfl,(Aa LL).below⟩
theorem ZfJ (d:DD) (hd:FD d) (w:World) (hT:Lib.Utf8Tabs 1 2 w):Calls prog 54 #[d.agg] w fun e w'=>e= .returned (.bool (wholeV d))/\Below w.heap.size w w':=by
 have HK:=Ab (fun w hT=>ZaB d hd w hT)
 have HV:=Ab (Ge d.v hd.1)
 have HG:=Ab (Ge d.g hd.2.1)
 have HS:=Ab (Ge d.s hd.2.2)
 have HT:=Ab hT
 clear hT
 clear hd
 have LL:=Ab (Lie.new1 w (.D d))
 unfold wholeV
 generalize Eo d=k at *
 generalize thV d.v=tv at *
 generalize thV d.g=tg at *
 generalize thV d.s=ts at *
 generalize hqa:(d.w !=0)=qa at *
 generalize hqe:(d.e !=0)=qe at *
 generalize hqc:(d.c !=0)=qc at *
 have hq0:=Gk d
 rw[hq0]
 clear hq0
 by_cases h3:k=3
 ·subst h3
  cases qe
  ·go_enter func54,ntmps54
   go_wp2_with (first|((with_reducible apply Bu);(case ho|hx|hw=>rfl);(case hc=>first|exact(Aa LL).one);simp only[nn])|((with_reducible apply Ek);(case ho|hx|hw=>rfl);(case hc=>first|exact(Aa LL).one);simp only[nn])|(go_at_call 102;refine(Dp _ _).mono ?_;rintro _ _ ⟨rfl,rfl⟩))
   refine(Aa HK _ (Ao (Aa HT) (Aa LL).below)).mono ?_
   rintro _ w8 ⟨rfl,hb⟩
   replace LL:=Ab ((Aa LL).on hb)
   clear hb
   go_wp2_with fail
   go_ret
   exact⟨rfl,(Aa LL).below⟩
  ·cases qc
   ·go_enter func54,ntmps54
    go_wp2_with (first|((with_reducible apply Bu);(case ho|hx|hw=>rfl);(case hc=>first|exact(Aa LL).one);simp only[nn])|((with_reducible apply Ek);(case ho|hx|hw=>rfl);(case hc=>first|exact(Aa LL).one);simp only[nn])|((with_reducible apply Ds);(case ho|hx|hw=>rfl);(case hc=>first|exact(Aa LL).one);simp only[nn])|(go_at_call 102;refine(Dp _ _).mono ?_;rintro _ _ ⟨rfl,rfl⟩))
    refine(Aa HK _ (Ao (Aa HT) (Aa LL).below)).mono ?_
    rintro _ w9 ⟨rfl,hb⟩
    replace LL:=Ab ((Aa LL).on hb)
    clear hb
    go_wp2_with fail
    go_ret
    exact⟨rfl,(Aa LL).below⟩
   ·go_enter func54,ntmps54
    go_wp2_with (first|((with_reducible apply Bu);(case ho|hx|hw=>rfl);(case hc=>first|exact(Aa LL).one);simp only[nn])|((with_reducible apply Ek);(case ho|hx|hw=>rfl);(case hc=>first|exact(Aa LL).one);simp only[nn])|((with_reducible apply Ds);(case ho|hx|hw=>rfl);(case hc=>first|exact(Aa LL).one);simp only[nn])|(go_at_call 102;refine(Dp _ _).mono ?_;rintro _ _ ⟨rfl,rfl⟩))
    refine(Aa HK _ (Ao (Aa HT) (Aa LL).below)).mono ?_
    rintro _ w10 ⟨rfl,hb⟩
    replace LL:=Ab ((Aa LL).on hb)
    clear hb
    go_wp2_with (((with_reducible apply Zl);(case ho|hx|hw=>rfl);(case hc=>first|exact(Aa LL).one);simp only[nn]))
    refine(Aa HG _).mono ?_
    rintro _ w11 ⟨rfl,hb⟩
    replace LL:=Ab ((Aa LL).on hb)
    clear hb
    cases tg
    ·go_wp2_with fail
     go_ret
     exact⟨rfl,(Aa LL).below⟩
    ·go_wp2_with (((with_reducible apply Zk);(case ho|hx|hw=>rfl);(case hc=>first|exact(Aa LL).one);simp only[nn]))
     refine(Aa HS _).mono ?_
     rintro _ w12 ⟨rfl,hb⟩
     replace LL:=Ab ((Aa LL).on hb)
     clear hb
     go_wp2_with fail
     go_ret
     exact⟨rfl,(Aa LL).below⟩
 ·have e3:(k==3)=false:=by simp[h3]
  rw[e3]
  by_cases h2:k=2
  ·subst h2
   cases qe
   ·go_enter func54,ntmps54
    go_wp2_with (first|((with_reducible apply Bu);(case ho|hx|hw=>rfl);(case hc=>first|exact(Aa LL).one);simp only[nn])|((with_reducible apply Ek);(case ho|hx|hw=>rfl);(case hc=>first|exact(Aa LL).one);simp only[nn])|(go_at_call 102;refine(Dp _ _).mono ?_;rintro _ _ ⟨rfl,rfl⟩))
    refine(Aa HK _ (Ao (Aa HT) (Aa LL).below)).mono ?_
    rintro _ w13 ⟨rfl,hb⟩
    replace LL:=Ab ((Aa LL).on hb)
    clear hb
    go_wp2_with fail
    go_ret
    exact⟨rfl,(Aa LL).below⟩
   ·cases qc
    ·go_enter func54,ntmps54
     go_wp2_with (first|((with_reducible apply Bu);(case ho|hx|hw=>rfl);(case hc=>first|exact(Aa LL).one);simp only[nn])|((with_reducible apply Ek);(case ho|hx|hw=>rfl);(case hc=>first|exact(Aa LL).one);simp only[nn])|((with_reducible apply Ds);(case ho|hx|hw=>rfl);(case hc=>first|exact(Aa LL).one);simp only[nn])|(go_at_call 102;refine(Dp _ _).mono ?_;rintro _ _ ⟨rfl,rfl⟩))
     refine(Aa HK _ (Ao (Aa HT) (Aa LL).below)).mono ?_
     rintro _ w14 ⟨rfl,hb⟩
     replace LL:=Ab ((Aa LL).on hb)
     clear hb
     go_wp2_with fail
     go_ret
     exact⟨rfl,(Aa LL).below⟩
    ·go_enter func54,ntmps54
     go_wp2_with (first|((with_reducible apply Bu);(case ho|hx|hw=>rfl);(case hc=>first|exact(Aa LL).one);simp only[nn])|((with_reducible apply Ek);(case ho|hx|hw=>rfl);(case hc=>first|exact(Aa LL).one);simp only[nn])|((with_reducible apply Ds);(case ho|hx|hw=>rfl);(case hc=>first|exact(Aa LL).one);simp only[nn])|(go_at_call 102;refine(Dp _ _).mono ?_;rintro _ _ ⟨rfl,rfl⟩))
     refine(Aa HK _ (Ao (Aa HT) (Aa LL).below)).mono ?_
     rintro _ w15 ⟨rfl,hb⟩
     replace LL:=Ab ((Aa LL).on hb)
     clear hb
     go_wp2_with (((with_reducible apply Zj);(case ho|hx|hw=>rfl);(case hc=>first|exact(Aa LL).one);simp only[nn]))
     refine(Aa HV _).mono ?_
     rintro _ w16 ⟨rfl,hb⟩
     replace LL:=Ab ((Aa LL).on hb)
     clear hb
     cases tv
     ·go_wp2_with fail
      go_ret
      exact⟨rfl,(Aa LL).below⟩
     ·go_wp2_with (first|((with_reducible apply Kj);(case ho|hx|hw=>rfl);(case hc=>first|exact(Aa LL).one);simp only[nn])|(go_at_call 102;refine(Dp _ _).mono ?_;rintro _ _ ⟨rfl,rfl⟩))
      go_ret
      exact⟨rfl,(Aa LL).below⟩
  ·have e2:(k==2)=false:=by simp[h2]
   rw[e2]
   cases qe
   ·go_enter func54,ntmps54
    go_wp2_with (first|((with_reducible apply Bu);(case ho|hx|hw=>rfl);(case hc=>first|exact(Aa LL).one);simp only[nn])|((with_reducible apply Ek);(case ho|hx|hw=>rfl);(case hc=>first|exact(Aa LL).one);simp only[nn])|(go_at_call 102;refine(Dp _ _).mono ?_;rintro _ _ ⟨rfl,rfl⟩))
    refine(Aa HK _ (Ao (Aa HT) (Aa LL).below)).mono ?_
    rintro _ w17 ⟨rfl,hb⟩
    replace LL:=Ab ((Aa LL).on hb)
    clear hb
    go_wp2_with fail
    go_ret
    exact⟨rfl,(Aa LL).below⟩
   ·cases qc
    ·go_enter func54,ntmps54
     go_wp2_with (first|((with_reducible apply Bu);(case ho|hx|hw=>rfl);(case hc=>first|exact(Aa LL).one);simp only[nn])|((with_reducible apply Ek);(case ho|hx|hw=>rfl);(case hc=>first|exact(Aa LL).one);simp only[nn])|((with_reducible apply Ds);(case ho|hx|hw=>rfl);(case hc=>first|exact(Aa LL).one);simp only[nn])|(go_at_call 102;refine(Dp _ _).mono ?_;rintro _ _ ⟨rfl,rfl⟩))
     refine(Aa HK _ (Ao (Aa HT) (Aa LL).below)).mono ?_
     rintro _ w18 ⟨rfl,hb⟩
     replace LL:=Ab ((Aa LL).on hb)
     clear hb
     go_wp2_with fail
     go_ret
     exact⟨rfl,(Aa LL).below⟩
    ·go_enter func54,ntmps54
     go_wp2_with (first|((with_reducible apply Bu);(case ho|hx|hw=>rfl);(case hc=>first|exact(Aa LL).one);simp only[nn])|((with_reducible apply Ek);(case ho|hx|hw=>rfl);(case hc=>first|exact(Aa LL).one);simp only[nn])|((with_reducible apply Ds);(case ho|hx|hw=>rfl);(case hc=>first|exact(Aa LL).one);simp only[nn])|(go_at_call 102;refine(Dp _ _).mono ?_;rintro _ _ ⟨rfl,rfl⟩))
     refine(Aa HK _ (Ao (Aa HT) (Aa LL).below)).mono ?_
     rintro _ w19 ⟨rfl,hb⟩
     replace LL:=Ab ((Aa LL).on hb)
     clear hb
     go_wp2_with fail
     go_ret
     exact⟨rfl,(Aa LL).below⟩
theorem Pu (d:DD) (hd:FD d) (w:World):Calls prog 100 #[d.agg] w fun e w'=>e= .returned (.bool (noV d))/\Below w.heap.size w w':=by
 have HB:=Ab (By d hd)
 clear hd
 have LL:=Ab (Lie.new1 w (.D d))
 unfold noV
 generalize Az d=k at *
 generalize hqe:(d.e !=0)=qe at *
 generalize hqc:(d.c !=0)=qc at *
 have hq0:=Gk d
 rw[hq0]
 clear hq0
 by_cases hk:k=1
 ·subst hk
  cases qe
  ·go_enter func100,ntmps100
   go_wp2_with (((with_reducible apply Bu);(case ho|hx|hw=>rfl);(case hc=>first|exact(Aa LL).one);simp only[nn]))
   refine(Aa HB _).mono ?_
   rintro _ w20 ⟨rfl,hb⟩
   replace LL:=Ab ((Aa LL).on hb)
   clear hb
   go_wp2_with (first|((with_reducible apply Ek);(case ho|hx|hw=>rfl);(case hc=>first|exact(Aa LL).one);simp only[nn])|((with_reducible apply Ds);(case ho|hx|hw=>rfl);(case hc=>first|exact(Aa LL).one);simp only[nn])|(go_at_call 102;refine(Dp _ _).mono ?_;rintro _ _ ⟨rfl,rfl⟩))
   go_ret
   exact⟨rfl,(Aa LL).below⟩
  ·go_enter func100,ntmps100
   go_wp2_with (((with_reducible apply Bu);(case ho|hx|hw=>rfl);(case hc=>first|exact(Aa LL).one);simp only[nn]))
   refine(Aa HB _).mono ?_
   rintro _ w20 ⟨rfl,hb⟩
   replace LL:=Ab ((Aa LL).on hb)
   clear hb
   go_wp2_with (first|((with_reducible apply Ek);(case ho|hx|hw=>rfl);(case hc=>first|exact(Aa LL).one);simp only[nn])|(go_at_call 102;refine(Dp _ _).mono ?_;rintro _ _ ⟨rfl,rfl⟩))
   go_ret
   exact⟨rfl,(Aa LL).below⟩
 ·have hk2:(k==1)=false:=by simp[hk]
  rw[hk2]
  go_enter func100,ntmps100
  go_wp2_with (((with_reducible apply Bu);(case ho|hx|hw=>rfl);(case hc=>first|exact(Aa LL).one);simp only[nn]))
  refine(Aa HB _).mono ?_
  rintro _ w20 ⟨rfl,hb⟩
  replace LL:=Ab ((Aa LL).on hb)
  clear hb
  go_wp2_with fail
  go_ret
  exact⟨rfl,(Aa LL).below⟩
theorem Rv (d:DD) (hd:FD d) (w:World) (hT:Lib.Utf8Tabs 1 2 w):Calls prog 99 #[d.agg] w fun e w'=>e= .returned (.bool (stV d))/\Below w.heap.size w w':=by
 have HA:=Ab (Pu d hd)
 have HB:=Ab (fun w hT=>ZfJ d hd w hT)
 have HT:=Ab hT
 clear hT
 clear hd
 have LL:=Ab (Lie.new1 w (.D d))
 unfold stV
 generalize noV d=n at *
 generalize wholeV d=wh at *
 have hq0:=Gk d
 rw[hq0]
 clear hq0
 go_enter func99,ntmps99
 go_wp2_with (((with_reducible apply Bu);(case ho|hx|hw=>rfl);(case hc=>first|exact(Aa LL).one);simp only[nn]))
 refine(Aa HA _).mono ?_
 rintro _ w21 ⟨rfl,hb⟩
 replace LL:=Ab ((Aa LL).on hb)
 clear hb
 cases n
 ·go_wp2_with (((with_reducible apply Bu);(case ho|hx|hw=>rfl);(case hc=>first|exact(Aa LL).one);simp only[nn]))
  refine(Aa HB _ (Ao (Aa HT) (Aa LL).below)).mono ?_
  rintro _ w22 ⟨rfl,hb⟩
  replace LL:=Ab ((Aa LL).on hb)
  clear hb
  go_wp2_with fail
  go_ret
  exact⟨rfl,(Aa LL).below⟩
 ·go_wp2_with fail
  go_ret
  exact⟨rfl,(Aa LL).below⟩
end
section
open Go Go.Proofs Go.RowKit FM
def Zd5 (d:DD):Bool:= !thV d.v && !thV d.g && !thV d.s && d.w==0 && d.e==0 && d.c==0
end
section
open Go Go.Proofs Go.RowKit FM Tryz
def orT (t a:Int):Int:=if t !=0 then t else a
def Jy (d:DD):DD:=if Az d==3 then ⟨d.v,orV d.g Dk,orV d.s Dk,d.w,orT d.e 1,orT d.c 1⟩ else ⟨orV d.v Dk,d.g,d.s,orT d.w 1,orT d.e 1,orT d.c 1⟩
theorem Za9 (d:DD) (hs:d.v.s.size<=1048576) (w:World):Calls prog 140 #[d.agg] w fun e w'=>e= .returned d.agg/\Below w.heap.size w w':=by
 have HC:=Ab (fun w=>ZbM d.v.s w hs)
 have LL:=Ab (Lie.new2 w (.D d) (.D zeroD))
 have hq0:=Gk d
 rw[hq0]
 clear hq0
 go_enter func140,ntmps140
 go_wp2_with (go_skip)
 refine(Aa HC _).mono ?_
 rintro _ w1 ⟨rfl,hb⟩
 replace LL:=Ab ((Aa LL).on hb)
 clear hb
 go_wp2_with (first|go_skip|((with_reducible apply Bu);(case ho|hw|hx=>rfl);(case hc=>first|exact(Aa LL).one|exact(Aa LL).two);simp only[nn])|((with_reducible apply Kg 1);(case ho=>rfl);(case hL=>exact Aa LL);(case hi|hx|hw|hy=>rfl);(intro X LX;simp only[nn];replace LL:=Ab LX;clear LX))|((with_reducible apply store9 0);(case ho=>rfl);(case hL=>exact Aa LL);(case hi|hx|hw|hy=>rfl);(intro X LX;simp only[nn];replace LL:=Ab LX;clear LX)))
 refine Zc5 rfl rfl rfl (Aa LL).two ?_
 exact⟨rfl,(Aa LL).below⟩
theorem Zh (t a:Int) (w:World):Calls prog 161 #[.int .i64 t, .int .i64 a] w fun e w'=>e= .returned (.int .i64 (orT t a))/\w'=w:=ZfP t a w
theorem Lie.putv {w W:World} {d:DD} {l:List PB} (h:Lie w W (.D d::l)) (u:VV):Lie w (W.setCells w.heap.size 0 u.cs) (.D {d with v:=u}::l):=
 Lie.put (i:=0) (o:=0) (vs:=u.cs) (p:= .D {d with v:=u}) (q:= .D d) h rfl (fun hq=>Lies.setv hq)
theorem Lie.putg {w W:World} {d:DD} {l:List PB} (h:Lie w W (.D d::l)) (u:VV):Lie w (W.setCells w.heap.size 5 u.cs) (.D {d with g:=u}::l):=
 Lie.put (i:=0) (o:=5) (vs:=u.cs) (p:= .D {d with g:=u}) (q:= .D d) h rfl (fun hq=>Lies.setg hq)
theorem Lie.puts {w W:World} {d:DD} {l:List PB} (h:Lie w W (.D d::l)) (u:VV):Lie w (W.setCells w.heap.size 10 u.cs) (.D {d with s:=u}::l):=
 Lie.put (i:=0) (o:=10) (vs:=u.cs) (p:= .D {d with s:=u}) (q:= .D d) h rfl (fun hq=>Lies.sets hq)
attribute [local go_sem] Dv
theorem ZaN (d:DD) (hd:FD d) (w:World):Calls prog 141 #[d.agg] w fun e w'=>e= .returned (Jy d).agg/\Below w.heap.size w w':=by
 have HB:=Ab (By d hd)
 have HU:=Ab (Ju)
 have HV:=Ab (Ka d.v Dk hd.1)
 have HG:=Ab (Ka d.g Dk hd.2.1)
 have HS:=Ab (Ka d.s Dk hd.2.2)
 clear hd
 have LL:=Ab (Lie.new2 w (.D d) (.D zeroD))
 unfold Jy
 generalize Az d=sh at *
 unfold VV.agg at HU HV HG HS
 dsimp only at HU
 have hq0:=Gk d
 rw[hq0]
 clear hq0
 by_cases h3:sh=3
 ·subst h3
  go_enter func141,ntmps141
  go_wp2_with (first|go_skip|((with_reducible apply Bu);(case ho|hw|hx=>rfl);(case hc=>first|exact(Aa LL).one|exact(Aa LL).two);simp only[nn]))
  refine(Aa HB _).mono ?_
  rintro _ w1 ⟨rfl,hb⟩
  replace LL:=Ab ((Aa LL).on hb)
  clear hb
  go_wp2_with fail
  obtain⟨f0,c0,c1,c2,c3,c4,c5,c6,c7,c8,c9,c10,c11,c12,c13,c14,c15,c16,c17⟩:=(Aa LL).one
  try dsimp only at f0 c0 c1 c2 c3 c4 c5 c6 c7 c8 c9 c10 c11 c12 c13 c14 c15 c16 c17
  go_region_with (first|(go_at_call 160;refine(Aa HU _).mono ?_;rintro _ wu ⟨rfl,hbwu⟩;have LU:=Ab ((Aa LL).drew.on hbwu);clear f0 c0 c1 c2 c3 c4 c5 c6 c7 c8 c9 c10 c11 c12 c13 c14 c15 c16 c17;obtain⟨f0,c0,c1,c2,c3,c4,c5,c6,c7,c8,c9,c10,c11,c12,c13,c14,c15,c16,c17⟩:=(Aa LU).one;try dsimp only at f0 c0 c1 c2 c3 c4 c5 c6 c7 c8 c9 c10 c11 c12 c13 c14 c15 c16 c17)|(go_at_call 159;refine(Aa HG _).mono ?_;rintro _ wv ⟨rfl,hbwv⟩;have LV:=Ab ((Aa LU).on hbwv);clear f0 c0 c1 c2 c3 c4 c5 c6 c7 c8 c9 c10 c11 c12 c13 c14 c15 c16 c17;obtain⟨f0,c0,c1,c2,c3,c4,c5,c6,c7,c8,c9,c10,c11,c12,c13,c14,c15,c16,c17⟩:=(Aa LV).one;try dsimp only at f0 c0 c1 c2 c3 c4 c5 c6 c7 c8 c9 c10 c11 c12 c13 c14 c15 c16 c17))
  all_goals
   clear hbwu hbwv LU f0 c0 c1 c2 c3 c4 c5 c6 c7 c8 c9 c10 c11 c12 c13 c14 c15 c16 c17
   have LX:Lie w (World.setCell (World.setCell (World.setCell (World.setCell (World.setCell wv ⟨w.heap.size,5,none⟩ (.int .i64 (orV d.g Dk).k)) ⟨w.heap.size,6,none⟩ (.bool (orV d.g Dk).b)) ⟨w.heap.size,7,none⟩ (.float .f64 (orV d.g Dk).x)) ⟨w.heap.size,8,none⟩ (.string (orV d.g Dk).s)) ⟨w.heap.size,9,none⟩ (.int .i64 (orV d.g Dk).i)) [.D {d with g:=orV d.g Dk}, .D zeroD]:=(Aa LV).putg (orV d.g Dk)
   replace LL:=Ab LX
   clear LV LX
   generalize (World.setCell (World.setCell (World.setCell (World.setCell (World.setCell wv ⟨w.heap.size,5,none⟩ (.int .i64 (orV d.g Dk).k)) ⟨w.heap.size,6,none⟩ (.bool (orV d.g Dk).b)) ⟨w.heap.size,7,none⟩ (.float .f64 (orV d.g Dk).x)) ⟨w.heap.size,8,none⟩ (.string (orV d.g Dk).s)) ⟨w.heap.size,9,none⟩ (.int .i64 (orV d.g Dk).i))=X at LL ⊢
  all_goals
   go_wp2_with fail
   obtain⟨f0,c0,c1,c2,c3,c4,c5,c6,c7,c8,c9,c10,c11,c12,c13,c14,c15,c16,c17⟩:=(Aa LL).one
   try dsimp only at f0 c0 c1 c2 c3 c4 c5 c6 c7 c8 c9 c10 c11 c12 c13 c14 c15 c16 c17
   go_region_with (first|(go_at_call 160;refine(Aa HU _).mono ?_;rintro _ wu ⟨rfl,hbwu⟩;have LU:=Ab ((Aa LL).drew.on hbwu);clear f0 c0 c1 c2 c3 c4 c5 c6 c7 c8 c9 c10 c11 c12 c13 c14 c15 c16 c17;obtain⟨f0,c0,c1,c2,c3,c4,c5,c6,c7,c8,c9,c10,c11,c12,c13,c14,c15,c16,c17⟩:=(Aa LU).one;try dsimp only at f0 c0 c1 c2 c3 c4 c5 c6 c7 c8 c9 c10 c11 c12 c13 c14 c15 c16 c17)|(go_at_call 159;refine(Aa HS _).mono ?_;rintro _ wv ⟨rfl,hbwv⟩;have LV:=Ab ((Aa LU).on hbwv);clear f0 c0 c1 c2 c3 c4 c5 c6 c7 c8 c9 c10 c11 c12 c13 c14 c15 c16 c17;obtain⟨f0,c0,c1,c2,c3,c4,c5,c6,c7,c8,c9,c10,c11,c12,c13,c14,c15,c16,c17⟩:=(Aa LV).one;try dsimp only at f0 c0 c1 c2 c3 c4 c5 c6 c7 c8 c9 c10 c11 c12 c13 c14 c15 c16 c17))
   all_goals
    clear hbwu hbwv LU f0 c0 c1 c2 c3 c4 c5 c6 c7 c8 c9 c10 c11 c12 c13 c14 c15 c16 c17
    have LX:Lie w (World.setCell (World.setCell (World.setCell (World.setCell (World.setCell wv ⟨w.heap.size,10,none⟩ (.int .i64 (orV d.s Dk).k)) ⟨w.heap.size,11,none⟩ (.bool (orV d.s Dk).b)) ⟨w.heap.size,12,none⟩ (.float .f64 (orV d.s Dk).x)) ⟨w.heap.size,13,none⟩ (.string (orV d.s Dk).s)) ⟨w.heap.size,14,none⟩ (.int .i64 (orV d.s Dk).i)) [.D {{d with g:=orV d.g Dk} with s:=orV d.s Dk}, .D zeroD]:=(Aa LV).puts (orV d.s Dk)
    replace LL:=Ab LX
    clear LV LX
    generalize (World.setCell (World.setCell (World.setCell (World.setCell (World.setCell wv ⟨w.heap.size,10,none⟩ (.int .i64 (orV d.s Dk).k)) ⟨w.heap.size,11,none⟩ (.bool (orV d.s Dk).b)) ⟨w.heap.size,12,none⟩ (.float .f64 (orV d.s Dk).x)) ⟨w.heap.size,13,none⟩ (.string (orV d.s Dk).s)) ⟨w.heap.size,14,none⟩ (.int .i64 (orV d.s Dk).i))=X at LL ⊢
   all_goals
    go_wp2_with (first|go_skip|((with_reducible apply Bu);(case ho|hw|hx=>rfl);(case hc=>first|exact(Aa LL).one);simp only[nn])|((with_reducible apply Ek);(case ho|hw|hx=>rfl);(case hc=>first|exact(Aa LL).one);simp only[nn])|((with_reducible apply Ds);(case ho|hw|hx=>rfl);(case hc=>first|exact(Aa LL).one);simp only[nn])|((with_reducible apply Zaa 0);(case ho|hw=>rfl);(case hL=>exact Aa LL);(case hi|hx|hy=>rfl);(intro X LX;simp only[nn];replace LL:=Ab LX;clear LX))|((with_reducible apply Zab 0);(case ho|hw=>rfl);(case hL=>exact Aa LL);(case hi|hx|hy=>rfl);(intro X LX;simp only[nn];replace LL:=Ab LX;clear LX))|((with_reducible apply Kg 1);(case ho|hw=>rfl);(case hL=>exact Aa LL);(case hi|hx|hy=>rfl);(intro X LX;simp only[nn];replace LL:=Ab LX;clear LX))|(go_at_call 161;refine(Zh _ _ _).mono ?_;rintro _ _ ⟨rfl,rfl⟩))
    refine Zc5 rfl rfl rfl (Aa LL).two ?_
    exact⟨rfl,(Aa LL).below⟩
 ·have e3:(sh==3)=false:=by simp[h3]
  rw[e3]
  go_enter func141,ntmps141
  go_wp2_with (first|go_skip|((with_reducible apply Bu);(case ho|hw|hx=>rfl);(case hc=>first|exact(Aa LL).one|exact(Aa LL).two);simp only[nn]))
  refine(Aa HB _).mono ?_
  rintro _ w2 ⟨rfl,hb⟩
  replace LL:=Ab ((Aa LL).on hb)
  clear hb
  go_wp2_with fail
  obtain⟨f0,c0,c1,c2,c3,c4,c5,c6,c7,c8,c9,c10,c11,c12,c13,c14,c15,c16,c17⟩:=(Aa LL).one
  try dsimp only at f0 c0 c1 c2 c3 c4 c5 c6 c7 c8 c9 c10 c11 c12 c13 c14 c15 c16 c17
  go_region_with (first|(go_at_call 160;refine(Aa HU _).mono ?_;rintro _ wu ⟨rfl,hbwu⟩;have LU:=Ab ((Aa LL).drew.on hbwu);clear f0 c0 c1 c2 c3 c4 c5 c6 c7 c8 c9 c10 c11 c12 c13 c14 c15 c16 c17;obtain⟨f0,c0,c1,c2,c3,c4,c5,c6,c7,c8,c9,c10,c11,c12,c13,c14,c15,c16,c17⟩:=(Aa LU).one;try dsimp only at f0 c0 c1 c2 c3 c4 c5 c6 c7 c8 c9 c10 c11 c12 c13 c14 c15 c16 c17)|(go_at_call 159;refine(Aa HV _).mono ?_;rintro _ wv ⟨rfl,hbwv⟩;have LV:=Ab ((Aa LU).on hbwv);clear f0 c0 c1 c2 c3 c4 c5 c6 c7 c8 c9 c10 c11 c12 c13 c14 c15 c16 c17;obtain⟨f0,c0,c1,c2,c3,c4,c5,c6,c7,c8,c9,c10,c11,c12,c13,c14,c15,c16,c17⟩:=(Aa LV).one;try dsimp only at f0 c0 c1 c2 c3 c4 c5 c6 c7 c8 c9 c10 c11 c12 c13 c14 c15 c16 c17))
  all_goals
   clear hbwu hbwv LU f0 c0 c1 c2 c3 c4 c5 c6 c7 c8 c9 c10 c11 c12 c13 c14 c15 c16 c17
   have LX:Lie w (World.setCell (World.setCell (World.setCell (World.setCell (World.setCell wv ⟨w.heap.size,0,none⟩ (.int .i64 (orV d.v Dk).k)) ⟨w.heap.size,1,none⟩ (.bool (orV d.v Dk).b)) ⟨w.heap.size,2,none⟩ (.float .f64 (orV d.v Dk).x)) ⟨w.heap.size,3,none⟩ (.string (orV d.v Dk).s)) ⟨w.heap.size,4,none⟩ (.int .i64 (orV d.v Dk).i)) [.D {d with v:=orV d.v Dk}, .D zeroD]:=(Aa LV).putv (orV d.v Dk)
   replace LL:=Ab LX
   clear LV LX
   generalize (World.setCell (World.setCell (World.setCell (World.setCell (World.setCell wv ⟨w.heap.size,0,none⟩ (.int .i64 (orV d.v Dk).k)) ⟨w.heap.size,1,none⟩ (.bool (orV d.v Dk).b)) ⟨w.heap.size,2,none⟩ (.float .f64 (orV d.v Dk).x)) ⟨w.heap.size,3,none⟩ (.string (orV d.v Dk).s)) ⟨w.heap.size,4,none⟩ (.int .i64 (orV d.v Dk).i))=X at LL ⊢
  all_goals
   go_wp2_with (first|go_skip|((with_reducible apply Bu);(case ho|hw|hx=>rfl);(case hc=>first|exact(Aa LL).one);simp only[nn])|((with_reducible apply Kj);(case ho|hw|hx=>rfl);(case hc=>first|exact(Aa LL).one);simp only[nn])|((with_reducible apply Ek);(case ho|hw|hx=>rfl);(case hc=>first|exact(Aa LL).one);simp only[nn])|((with_reducible apply Ds);(case ho|hw|hx=>rfl);(case hc=>first|exact(Aa LL).one);simp only[nn])|((with_reducible apply store25w 0);(case ho|hw=>rfl);(case hL=>exact Aa LL);(case hi|hx|hy=>rfl);(intro X LX;simp only[nn];replace LL:=Ab LX;clear LX))|((with_reducible apply Zaa 0);(case ho|hw=>rfl);(case hL=>exact Aa LL);(case hi|hx|hy=>rfl);(intro X LX;simp only[nn];replace LL:=Ab LX;clear LX))|((with_reducible apply Zab 0);(case ho|hw=>rfl);(case hL=>exact Aa LL);(case hi|hx|hy=>rfl);(intro X LX;simp only[nn];replace LL:=Ab LX;clear LX))|((with_reducible apply Kg 1);(case ho|hw=>rfl);(case hL=>exact Aa LL);(case hi|hx|hy=>rfl);(intro X LX;simp only[nn];replace LL:=Ab LX;clear LX))|(go_at_call 161;refine(Zh _ _ _).mono ?_;rintro _ _ ⟨rfl,rfl⟩))
   refine Zc5 rfl rfl rfl (Aa LL).two ?_
   exact⟨rfl,(Aa LL).below⟩
end
section
open Go Go.Proofs Go.RowKit FM
theorem good_str {v:VV} (h:v.good=true):v.s.size<=1048576:=by
 have e0:ByteArray.empty.size<=1048576:=by decide
 obtain⟨k,b,x,s,i⟩:=v
 rcases Ey h with ⟨_,_,_,rfl,_⟩|⟨_,_,_,rfl,_⟩|⟨_,_,rfl,_⟩|⟨_,_,rfl,_⟩|⟨_,_,_,_,hf⟩|⟨_,_,_,rfl,_⟩|⟨_,_,_,rfl,_⟩
 ·exact e0
 ·exact e0
 ·exact e0
 ·exact e0
 ·unfold ZaL at hf
  simp at hf
  exact hf.1
 ·exact e0
 ·exact e0
theorem Zdh {v:VV} (h:thV v=false):v.s.size<=1048576:=by
 unfold thV at h
 simp only[Bool.not_eq_false',Bool.and_eq_true] at h
 rw[Nx h.1.2]
 decide
theorem Vy {d:DD} (h:Ee d=true):d.v.s.size<=1048576:=by
 unfold Ee at h
 simp only[Bool.and_eq_true,Bool.or_eq_true,Bool.not_eq_true'] at h
 rcases h.1.1.1.1.1 with h|h
 ·exact Zdh h
 ·exact good_str h
theorem Ub {d:DD} (h: ¬Eo d=0):Ee d=true:=by
 unfold Eo at h
 cases hs:Ee d
 ·rw[hs] at h
  exact absurd rfl h
 ·rfl
theorem or_str {v:VV} (h:v.s.size<=1048576):(orV v Dk).s.size<=1048576:=by
 unfold orV
 cases thV v
 ·show Dk.s.size<=1048576
  decide
 ·exact h
theorem ZdA {d:DD} (h:d.v.s.size<=1048576):(Jy d).v.s.size<=1048576:=by
 unfold Jy
 cases Az d==3
 ·exact or_str h
 ·exact h
end
section
open Go Go.Proofs Go.RowKit FM Tryz
structure Kp (w X:World) (l:List (Nat×PB)):Prop where
 below:Below w.heap.size w X
 all: ∀q∈l,w.heap.size<=q.1/\q.1<X.heap.size/\q.2.lies X q.1
 nd:(l.map (·.1)).Nodup
theorem Kp.of2 {w X:World} {p p2:PB} (h:Lie w X [p,p2]):Kp w X [(w.heap.size,p),(w.heap.size+1,p2)]:=
 ⟨h.below,fun q hq=>by
  have hs:=h.size
  simp at hs hq
  rcases hq with rfl|rfl
  ·exact⟨Nat.le_refl _,by show w.heap.size<X.heap.size;omega,h.holds.1⟩
  ·exact⟨Nat.le_succ _,by show w.heap.size+1<X.heap.size;omega,h.holds.2.1⟩,by simp⟩
theorem Kp.on {w X X1:World} {l:List (Nat×PB)} (h:Kp w X l) (hb:Below X.heap.size X X1):Kp w X1 l:=
 ⟨h.below.trans (hb.mono h.below.size),fun q hq=>⟨(h.all q hq).1,Nat.lt_of_lt_of_le (h.all q hq).2.1 hb.size,PB.on (h.all q hq).2.2 (h.all q hq).2.1 hb⟩,h.nd⟩
theorem Kp.drew {w X:World} {l:List (Nat×PB)} (h:Kp w X l):Kp w X.drew l:=⟨h.below.drew,fun q hq=>⟨(h.all q hq).1,(h.all q hq).2.1,PB.drew (h.all q hq).2.2⟩,h.nd⟩
theorem Kp.get {w X:World} {l:List (Nat×PB)} (h:Kp w X l) (i:Nat) {b:Nat} {p:PB} (hi:l[i]? =some (b,p)):p.lies X b:=(h.all _ (List.mem_of_getElem? hi)).2.2
theorem Kp.put {w X:World} {l:List (Nat×PB)} (h:Kp w X l) (i:Nat) {b:Nat} {d u:DD} (hi:l[i]? =some (b, .D d)):Kp w (X.setCells b 0 u.cs) (l.set i (b, .D u)):=by
 have hb:=h.all _ (List.mem_of_getElem? hi)
 have hlt:=(List.getElem?_eq_some_iff.1 hi).1
 refine⟨Ls (W:=X) hb.1 _ _ _ h.below,fun q hq=> ?_, ?_⟩
 ·rw[Me]
  obtain⟨j,hj,rfl⟩:=List.mem_iff_getElem.1 hq
  by_cases hij:i=j
  ·subst hij
   rw[List.getElem_set_self]
   exact⟨hb.1,hb.2.1,Lies.setD hb.2.2⟩
  ·rw[List.getElem_set_ne hij]
   have hj':j<l.length:=by simpa using hj
   have ha:=h.all _ (List.getElem_mem hj')
   refine⟨ha.1,ha.2.1,PB.far ha.2.2 ?_⟩
   intro e
   have hn:=List.pairwise_iff_getElem.1 h.nd
   have hie:l[i].1=b:=by
    have:=(List.getElem?_eq_some_iff.1 hi).2
    rw[this]
   rcases Nat.lt_or_gt_of_ne hij with hlt2|hlt2
   ·exact hn i j (by simpa using hlt) (by simpa using hj') hlt2 (by simp[hie,e])
   ·exact hn j i (by simpa using hj') (by simpa using hlt) hlt2 (by simp[hie,e])
 ·rw[List.map_set]
  have:(l.map (·.1)).set i b=l.map (·.1):=by
   refine List.ext_getElem? fun j=> ?_
   by_cases hij:i=j
   ·subst hij
    have:=(List.getElem?_eq_some_iff.1 hi).2
    simp[hlt,this]
   ·rw[List.getElem?_set_ne hij]
  rw[this]
  exact h.nd

section
variable {md:Region.Mode} {ops:Array Oper} {Q:Exit->Act->World->Prop} {w0 w:World} {l:List (Nat×PB)} {fuel:Nat} {listed:Array Bool} {a:Act} {o:Oper}
theorem hload27 (i j:Nat) (dst:Option Tmp) {x:Operand} {b:Nat} {d:DD} (hi:ops[i]? =some o) (hs:Region.noSelect ops=true) (hf:Region.free md ops listed i=true) (hr:(Region.ready md ops listed).contains i=true)
  (hQ: ∀c a w,Q (.panic c) (a.put dst d.agg) w->Q (.panic c) a w) (hd:o.dst=dst) (hw:Region.wanted o (yielded ops a.tmps)=true) (ho:o.op= .load 43 x) (hx:a.eval x= .pointer (some ⟨b,0,none⟩)) (hl:l[j]? =some (b, .D d))
  (hS:Kp w0 w l) (h:wpAnyH prog md ops Q (fun X=>Kp w0 X l) fuel (listed.setIfInBounds i true) (a.put dst d.agg) w):wpAnyH prog md ops Q (fun X=>Kp w0 X l) (fuel+1) listed a w:=by
 subst hd
 obtain⟨t,hu,hd⟩:=Zo
 exact wpAnyH_take hi hs hf hr hQ (yieldsIf_load_mid hw 43 x ho b 0 hx d.cs t (fun X hX=>Lies.range (hX.get j hl)) hu hd Xp) hS h
theorem Nu (i:Nat) (dst:Option Tmp) (v:Value) (hi:ops[i]? =some o) (hs:Region.noSelect ops=true) (hf:Region.free md ops listed i=true) (hr:(Region.ready md ops listed).contains i=true)
  (hQ: ∀c a w,Q (.panic c) (a.put dst v) w->Q (.panic c) a w) (hd:o.dst=dst) (hw:Region.wanted o (yielded ops a.tmps)=true) (hy: ∀w,(execOp a.eval o).run prog w= .ok (.value v) w)
  (hS:Kp w0 w l) (h:wpAnyH prog md ops Q (fun X=>Kp w0 X l) fuel (listed.setIfInBounds i true) (a.put dst v) w):wpAnyH prog md ops Q (fun X=>Kp w0 X l) (fuel+1) listed a w:=by
 subst hd
 exact wpAnyH_take hi hs hf hr hQ (Or.inl ⟨hw,fun X _=>hy X⟩) hS h
theorem Kd (i:Nat) (dst:Option Tmp) (hi:ops[i]? =some o)   
    
  (hS:Kp w0 w l) (h:wpAnyH prog md ops Q (fun X=>Kp w0 X l) fuel (listed.setIfInBounds i true) (a.put dst undef) w) (hs:Region.noSelect ops=true:=by kernel_rfl) (hf:Region.free md ops listed i=true:=by kernel_rfl) (hr:(Region.ready md ops listed).contains i=true:=by kernel_rfl) (hQ: ∀c a w,Q (.panic c) (a.put dst undef) w->Q (.panic c) a w:=by exact fun _ _ _ h=>h) (hd:o.dst=dst:=by kernel_rfl) (hw:Region.wanted o (yielded ops a.tmps)=false:=by kernel_rfl):wpAnyH prog md ops Q (fun X=>Kp w0 X l) (fuel+1) listed a w:=by
 subst hd
 exact wpAnyH_take hi hs hf hr hQ (Or.inr ⟨hw,rfl⟩) hS h
theorem hcall (i:Nat) (dst:Option Tmp) {f:FuncId} {args:Array Value} {V:Value} (hi:ops[i]? =some o) (hr:Region.ready md ops listed= [i]) (hd:o.dst=dst) (hw:Region.wanted o (yielded ops a.tmps)=true)
  (he:(execOp a.eval o).run prog w= .ok (.enter f args) w) (hC:Calls prog f args w fun e w'=>e= .returned V/\Below w.heap.size w w') (hS:Kp w0 w l)
  (h: ∀X,Kp w0 X l->wpAnyH prog md ops Q (fun X=>Kp w0 X l) fuel (listed.setIfInBounds i true) (a.put dst V) X):wpAnyH prog md ops Q (fun X=>Kp w0 X l) (fuel+1) listed a w:=by
 subst hd
 refine wpAnyH_ready hr (by simp) (AllReadyH.cons hi (fun K hK=> ?_) AllReadyH.nil)
 rw[if_pos hw]
 unfold Oper.wp
 rw[he,Oper.upon_enter]
 refine hC.mono ?_
 rintro _ X ⟨rfl,hb⟩
 exact hK.out _ _ (hS.on hb) (fun hX=>h X hX)
theorem x00 (i:Nat) (dst:Option Tmp) (v:Value) (hi:ops[i]? =some o) (hS:Kp w0 w l) (h:wpAnyH prog md ops Q (fun X=>Kp w0 X l) fuel (listed.setIfInBounds i true) (a.put dst v) w) (hy: ∀w,(execOp a.eval o).run prog w= .ok (.value v) w:=by intro _;kernel_rfl) (hs:Region.noSelect ops=true:=by kernel_rfl) (hf:Region.free md ops listed i=true:=by kernel_rfl) (hr:(Region.ready md ops listed).contains i=true:=by kernel_rfl) (hQ: ∀c a w,Q (.panic c) (a.put dst v) w->Q (.panic c) a w:=by exact fun _ _ _ h=>h) (hd:o.dst=dst:=by kernel_rfl) (hw:Region.wanted o (yielded ops a.tmps)=true:=by kernel_rfl):wpAnyH prog md ops Q (fun X=>Kp w0 X l) (fuel+1) listed a w:=Nu i dst v hi hs hf hr hQ hd hw hy hS h
theorem x0 {aB:Act} (i:Nat) (dst:Option Tmp) (v:Value) (hi:ops[i]? =some o) (hS:Kp w0 w l) (h:wpAnyH prog md ops Q (fun X=>Kp w0 X l) fuel (listed.setIfInBounds i true) aB w) (hb:a.put dst v=aB:=by simp only[nn]<;>rfl) (hy: ∀w,(execOp a.eval o).run prog w= .ok (.value v) w:=by intro _;kernel_rfl) (hs:Region.noSelect ops=true:=by kernel_rfl) (hf:Region.free md ops listed i=true:=by kernel_rfl) (hr:(Region.ready md ops listed).contains i=true:=by kernel_rfl) (hQ: ∀c a w,Q (.panic c) (a.put dst v) w->Q (.panic c) a w:=by exact fun _ _ _ h=>h) (hd:o.dst=dst:=by kernel_rfl) (hw:Region.wanted o (yielded ops a.tmps)=true:=by kernel_rfl):wpAnyH prog md ops Q (fun X=>Kp w0 X l) (fuel+1) listed a w:=x00 i dst v hi hS (hb▸h) hy hs hf hr hQ hd hw
theorem x10 (i j:Nat) (dst:Option Tmp) {x:Operand} {b:Nat} {d:DD} (hi:ops[i]? =some o) (hl:l[j]? =some (b, .D d)) (hS:Kp w0 w l) (h:wpAnyH prog md ops Q (fun X=>Kp w0 X l) fuel (listed.setIfInBounds i true) (a.put dst d.agg) w) (hs:Region.noSelect ops=true:=by kernel_rfl) (hf:Region.free md ops listed i=true:=by kernel_rfl) (hr:(Region.ready md ops listed).contains i=true:=by kernel_rfl) (hQ: ∀c a w,Q (.panic c) (a.put dst d.agg) w->Q (.panic c) a w:=by exact fun _ _ _ h=>h) (hd:o.dst=dst:=by kernel_rfl) (hw:Region.wanted o (yielded ops a.tmps)=true:=by kernel_rfl) (ho:o.op= .load 43 x:=by kernel_rfl) (hx:a.eval x= .pointer (some ⟨b,0,none⟩):=by kernel_rfl):wpAnyH prog md ops Q (fun X=>Kp w0 X l) (fuel+1) listed a w:=hload27 i j dst hi hs hf hr hQ hd hw ho hx hl hS h
theorem x1 {aB:Act} (i j:Nat) (dst:Option Tmp) {x:Operand} {b:Nat} {d:DD} (hi:ops[i]? =some o) (hl:l[j]? =some (b, .D d)) (hS:Kp w0 w l) (h:wpAnyH prog md ops Q (fun X=>Kp w0 X l) fuel (listed.setIfInBounds i true) aB w) (hb:a.put dst d.agg=aB:=by simp only[nn]<;>rfl) (hs:Region.noSelect ops=true:=by kernel_rfl) (hf:Region.free md ops listed i=true:=by kernel_rfl) (hr:(Region.ready md ops listed).contains i=true:=by kernel_rfl) (hQ: ∀c a w,Q (.panic c) (a.put dst d.agg) w->Q (.panic c) a w:=by exact fun _ _ _ h=>h) (hd:o.dst=dst:=by kernel_rfl) (hw:Region.wanted o (yielded ops a.tmps)=true:=by kernel_rfl) (ho:o.op= .load 43 x:=by kernel_rfl) (hx:a.eval x= .pointer (some ⟨b,0,none⟩):=by kernel_rfl):wpAnyH prog md ops Q (fun X=>Kp w0 X l) (fuel+1) listed a w:=x10 i j dst hi hl hS (hb▸h) hs hf hr hQ hd hw ho hx
theorem x2 (i:Nat) (dst:Option Tmp) {f:FuncId} {args:Array Value} {V:Value} (hi:ops[i]? =some o) (hC:Calls prog f args w fun e w'=>e= .returned V/\Below w.heap.size w w') (hS:Kp w0 w l) (h: ∀X,Kp w0 X l->wpAnyH prog md ops Q (fun X=>Kp w0 X l) fuel (listed.setIfInBounds i true) (a.put dst V) X) (hr:Region.ready md ops listed= [i]:=by kernel_rfl) (hd:o.dst=dst:=by kernel_rfl) (hw:Region.wanted o (yielded ops a.tmps)=true:=by kernel_rfl) (he:(execOp a.eval o).run prog w= .ok (.enter f args) w:=by kernel_rfl):wpAnyH prog md ops Q (fun X=>Kp w0 X l) (fuel+1) listed a w:=hcall i dst hi hr hd hw he hC hS h
end
end
section
open Go Go.Proofs Go.RowKit FM
theorem ZdU {v:VV} (h:v.good=true):thV v=true/\(v.k !=0)=true:=by
 have hk:(v.k !=0)=true:=by
  obtain⟨k,b,x,s,i⟩:=v
  rcases Ey h with ⟨rfl,_⟩|⟨rfl,_⟩|⟨rfl,_⟩|⟨rfl,_⟩|⟨rfl,_⟩|⟨rfl,_⟩|⟨rfl,_⟩<;>rfl
 refine⟨?_,hk⟩
 unfold thV
 have:(v.k==0)=false:=by simpa using hk
 rw[this]
 rfl
theorem Xo {v:VV} (h:thV v=false):(v.k !=0)=false:=by
 unfold thV at h
 simp only[Bool.not_eq_false',Bool.and_eq_true] at h
 have:=h.1.1.1.1
 simpa using this
theorem th_of_k {v:VV} (h:(v.k !=0)=true):thV v=true:=by
 cases ht:thV v
 ·rw[Xo ht] at h
  exact absurd h (by decide)
 ·rfl
theorem fieldV (v:VV) (h:(!thV v||v.good)=true):(v.k !=0)=thV v:=by
 cases ht:thV v
 ·exact Xo ht
 ·rw[ht] at h
  exact(ZdU (by simpa using h)).2
theorem Zcy (v:VV):Lc v=(!thV v||slotV v)/\(Lc v=true->(v.k !=0)=thV v):=by
 unfold Lc slotV
 by_cases h17:(v.k==1||v.k==7)=true
 ·rw[if_pos h17,h17,Bool.and_true]
  have hk:(v.k !=0)=true:=by
   simp at h17 ⊢
   omega
  rw[th_of_k hk]
  exact⟨rfl,fun _=>hk⟩
 ·rw[if_neg h17]
  have h17':(v.k==1||v.k==7)=false:=by simpa using h17
  rw[h17',Bool.and_false,Bool.or_false]
  refine⟨rfl,fun h=> ?_⟩
  have ht:thV v=false:=by simpa using h
  rw[ht]
  exact Xo ht
theorem ZdX {d:DD} (h:Ee d=true):(d.v.k !=0)=thV d.v/\(d.g.k !=0)=thV d.g/\(d.s.k !=0)=thV d.s:=by
 unfold Ee at h
 simp only[Bool.and_eq_true] at h
 exact⟨fieldV d.v h.1.1.1.1.1,(Zcy d.g).2 h.1.1.1.1.2,(Zcy d.s).2 h.1.1.1.2⟩
theorem ZdS {d:DD} (h:wholeV d=true): ¬Eo d=0:=by
 intro hk
 unfold wholeV at h
 rw[hk] at h
 simp at h
theorem eqB_self (v:VV):eqB v v=true:=by
 unfold eqB
 simp
