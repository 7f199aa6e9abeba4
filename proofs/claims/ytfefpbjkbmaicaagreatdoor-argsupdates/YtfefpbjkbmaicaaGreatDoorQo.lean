import Derived.Test.YtfefpbjkbmaicaaGreatDoorQn
set_option linter.all false
namespace Go.Proofs.YtfefpbjkbmaicaaGreatDoor
set_option maxRecDepth 100000
set_option maxHeartbeats 0
section
open Go Go.Proofs Go.RowKit FM
theorem Ke {w W:World} {b:Nat} (hb:w.heap.size<=b): ∀(vs:List Value) (o:Nat) (W:World),Below w.heap.size w W->Below w.heap.size w (W.setCells b o vs)
 | [],_,_,h=>h
 |v::r,o,W,h=>Ke (W:=W) hb r (o+1) _ (h.setCell hb v)
theorem Kg {b:Nat}: ∀(vs:List Value) (o:Nat) (W:World),(W.setCells b o vs).heap.size=W.heap.size
 | [],_,_=>rfl
 |v::r,o,W=>by
  rw[World.setCells,Kg r (o+1)]
  simp
theorem PB.far {W:World} {B b o:Nat} {vs:List Value} {p:PB} (h:p.lies W B) (hne:B≠b):p.lies (W.setCells b o vs) B:=by
 cases p
 ·unfold PB.lies Lies at *
  simp only[World.frozen?_setCells,World.cell?_setCells_out b vs o W ⟨B,_,none⟩ (fun h1 _=>absurd h1 hne)]
  exact h
 ·unfold PB.lies VLies at *
  simp only[World.frozen?_setCells,World.cell?_setCells_out b vs o W ⟨B,_,none⟩ (fun h1 _=>absurd h1 hne)]
  exact h
theorem HoldsP.far {W:World} {b o:Nat} {vs:List Value}: ∀{l:List PB} {B:Nat},HoldsP W B l->b<B->HoldsP (W.setCells b o vs) B l
 | [],_,_,_=>trivial
 |_::_,_,h,hb=>⟨PB.far h.1 (by omega),HoldsP.far h.2 (by omega)⟩
theorem HoldsP.at {W:World}: ∀{l:List PB} {B i:Nat} {q:PB},HoldsP W B l->l[i]? =some q->q.lies W (B+i)
 |p::r,B,0,q,h,hi=>by
  obtain rfl:p=q:=by simpa using hi
  exact h.1
 |p::r,B,i+1,q,h,hi=>by
  have:=HoldsP.at h.2 (i:=i) (q:=q) (by simpa using hi)
  rw[Nat.add_right_comm] at this
  exact this
theorem HoldsP.set {W:World} {b o:Nat} {vs:List Value} {p q:PB} (hp:q.lies W b->p.lies (W.setCells b o vs) b): ∀{l:List PB} {B i:Nat},HoldsP W B l->b=B+i->l[i]? =some q->HoldsP (W.setCells b o vs) B (l.set i p)
 |q'::r,B,0,h,hb,hi=>by
  obtain rfl:b=B:=by omega
  obtain rfl:q'=q:=by simpa using hi
  exact⟨hp h.1,HoldsP.far h.2 (by omega)⟩
 |q'::r,B,i+1,h,hb,hi=>⟨PB.far h.1 (by omega),HoldsP.set hp h.2 (by omega) (by simpa using hi)⟩
theorem Lie.put {w W:World} {l:List PB} {i o:Nat} {vs:List Value} {p q:PB} (h:Lie w W l) (hi:l[i]? =some q) (hp:q.lies W (w.heap.size+i)->p.lies (W.setCells (w.heap.size+i) o vs) (w.heap.size+i)):
  Lie w (W.setCells (w.heap.size+i) o vs) (l.set i p):=
 ⟨Ke (W:=W) (Nat.le_add_right _ _) _ _ _ h.below,by rw[Kg,List.length_set];exact h.size,h.holds.set hp rfl hi⟩
theorem Dm {W:World} {b o j:Nat} {vs:List Value} {v:Value} (hs: ∀j,j<vs.length->(W.cell? ⟨b,o+j,none⟩).isSome=true) (hv:vs[j]? =some v):(W.setCells b o vs).cell? ⟨b,o+j,none⟩=some v:=by
 obtain⟨hj,e⟩:=List.getElem?_eq_some_iff.1 hv
 rw[World.cell?_setCells_in b vs o W hs j hj,e]
theorem Am {W:World} {b o j:Nat} {vs:List Value} (hj:j<o∨o+vs.length<=j):(W.setCells b o vs).cell? ⟨b,j,none⟩=W.cell? ⟨b,j,none⟩:=
 World.cell?_setCells_out b vs o W ⟨b,j,none⟩ (fun _ _=>hj)
theorem Lies.setD {W:World} {B:Nat} {d:DD} {d':DD} (h:Lies W B d):Lies (W.setCells B 0 d'.cs) B d':=by
 obtain⟨f,h0,h1,h2,h3,h4,h5,h6,h7,h8,h9,h10,h11,h12,h13,h14,h15,h16,h17⟩:=h
 have hs: ∀j,j<18->(W.cell? ⟨B,0+j,none⟩).isSome=true:=by
  intro j hj
  match j,hj with
  |0,_=>exact h0▸rfl
  |1,_=>exact h1▸rfl
  |2,_=>exact h2▸rfl
  |3,_=>exact h3▸rfl
  |4,_=>exact h4▸rfl
  |5,_=>exact h5▸rfl
  |6,_=>exact h6▸rfl
  |7,_=>exact h7▸rfl
  |8,_=>exact h8▸rfl
  |9,_=>exact h9▸rfl
  |10,_=>exact h10▸rfl
  |11,_=>exact h11▸rfl
  |12,_=>exact h12▸rfl
  |13,_=>exact h13▸rfl
  |14,_=>exact h14▸rfl
  |15,_=>exact h15▸rfl
  |16,_=>exact h16▸rfl
  |17,_=>exact h17▸rfl
  |j+18,hj=>exact absurd hj (by omega)
 refine⟨fun j=>(World.frozen?_setCells _ _ _ _ _).trans (f j), ?_, ?_, ?_, ?_, ?_, ?_, ?_, ?_, ?_, ?_, ?_, ?_, ?_, ?_, ?_, ?_, ?_, ?_⟩
 ·exact Dm (o:=0) (j:=0) hs rfl
 ·exact Dm (o:=0) (j:=1) hs rfl
 ·exact Dm (o:=0) (j:=2) hs rfl
 ·exact Dm (o:=0) (j:=3) hs rfl
 ·exact Dm (o:=0) (j:=4) hs rfl
 ·exact Dm (o:=0) (j:=5) hs rfl
 ·exact Dm (o:=0) (j:=6) hs rfl
 ·exact Dm (o:=0) (j:=7) hs rfl
 ·exact Dm (o:=0) (j:=8) hs rfl
 ·exact Dm (o:=0) (j:=9) hs rfl
 ·exact Dm (o:=0) (j:=10) hs rfl
 ·exact Dm (o:=0) (j:=11) hs rfl
 ·exact Dm (o:=0) (j:=12) hs rfl
 ·exact Dm (o:=0) (j:=13) hs rfl
 ·exact Dm (o:=0) (j:=14) hs rfl
 ·exact Dm (o:=0) (j:=15) hs rfl
 ·exact Dm (o:=0) (j:=16) hs rfl
 ·exact Dm (o:=0) (j:=17) hs rfl
theorem Lies.setv {W:World} {B:Nat} {d:DD} {u:VV} (h:Lies W B d):Lies (W.setCells B 0 u.cs) B {d with v:=u}:=by
 obtain⟨f,h0,h1,h2,h3,h4,h5,h6,h7,h8,h9,h10,h11,h12,h13,h14,h15,h16,h17⟩:=h
 have hs: ∀j,j<5->(W.cell? ⟨B,0+j,none⟩).isSome=true:=by
  intro j hj
  match j,hj with
  |0,_=>exact h0▸rfl
  |1,_=>exact h1▸rfl
  |2,_=>exact h2▸rfl
  |3,_=>exact h3▸rfl
  |4,_=>exact h4▸rfl
  |j+5,hj=>exact absurd hj (by omega)
 refine⟨fun j=>(World.frozen?_setCells _ _ _ _ _).trans (f j), ?_, ?_, ?_, ?_, ?_, ?_, ?_, ?_, ?_, ?_, ?_, ?_, ?_, ?_, ?_, ?_, ?_, ?_⟩
 ·exact Dm (o:=0) (j:=0) hs rfl
 ·exact Dm (o:=0) (j:=1) hs rfl
 ·exact Dm (o:=0) (j:=2) hs rfl
 ·exact Dm (o:=0) (j:=3) hs rfl
 ·exact Dm (o:=0) (j:=4) hs rfl
 ·exact(Am (by simp[VV.cs])).trans h5
 ·exact(Am (by simp[VV.cs])).trans h6
 ·exact(Am (by simp[VV.cs])).trans h7
 ·exact(Am (by simp[VV.cs])).trans h8
 ·exact(Am (by simp[VV.cs])).trans h9
 ·exact(Am (by simp[VV.cs])).trans h10
 ·exact(Am (by simp[VV.cs])).trans h11
 ·exact(Am (by simp[VV.cs])).trans h12
 ·exact(Am (by simp[VV.cs])).trans h13
 ·exact(Am (by simp[VV.cs])).trans h14
 ·exact(Am (by simp[VV.cs])).trans h15
 ·exact(Am (by simp[VV.cs])).trans h16
 ·exact(Am (by simp[VV.cs])).trans h17
theorem Lies.setg {W:World} {B:Nat} {d:DD} {u:VV} (h:Lies W B d):Lies (W.setCells B 5 u.cs) B {d with g:=u}:=by
 obtain⟨f,h0,h1,h2,h3,h4,h5,h6,h7,h8,h9,h10,h11,h12,h13,h14,h15,h16,h17⟩:=h
 have hs: ∀j,j<5->(W.cell? ⟨B,5+j,none⟩).isSome=true:=by
  intro j hj
  match j,hj with
  |0,_=>exact h5▸rfl
  |1,_=>exact h6▸rfl
  |2,_=>exact h7▸rfl
  |3,_=>exact h8▸rfl
  |4,_=>exact h9▸rfl
  |j+5,hj=>exact absurd hj (by omega)
 refine⟨fun j=>(World.frozen?_setCells _ _ _ _ _).trans (f j), ?_, ?_, ?_, ?_, ?_, ?_, ?_, ?_, ?_, ?_, ?_, ?_, ?_, ?_, ?_, ?_, ?_, ?_⟩
 ·exact(Am (by simp[VV.cs])).trans h0
 ·exact(Am (by simp[VV.cs])).trans h1
 ·exact(Am (by simp[VV.cs])).trans h2
 ·exact(Am (by simp[VV.cs])).trans h3
 ·exact(Am (by simp[VV.cs])).trans h4
 ·exact Dm (o:=5) (j:=0) hs rfl
 ·exact Dm (o:=5) (j:=1) hs rfl
 ·exact Dm (o:=5) (j:=2) hs rfl
 ·exact Dm (o:=5) (j:=3) hs rfl
 ·exact Dm (o:=5) (j:=4) hs rfl
 ·exact(Am (by simp[VV.cs])).trans h10
 ·exact(Am (by simp[VV.cs])).trans h11
 ·exact(Am (by simp[VV.cs])).trans h12
 ·exact(Am (by simp[VV.cs])).trans h13
 ·exact(Am (by simp[VV.cs])).trans h14
 ·exact(Am (by simp[VV.cs])).trans h15
 ·exact(Am (by simp[VV.cs])).trans h16
 ·exact(Am (by simp[VV.cs])).trans h17
theorem Lies.sets {W:World} {B:Nat} {d:DD} {u:VV} (h:Lies W B d):Lies (W.setCells B 10 u.cs) B {d with s:=u}:=by
 obtain⟨f,h0,h1,h2,h3,h4,h5,h6,h7,h8,h9,h10,h11,h12,h13,h14,h15,h16,h17⟩:=h
 have hs: ∀j,j<5->(W.cell? ⟨B,10+j,none⟩).isSome=true:=by
  intro j hj
  match j,hj with
  |0,_=>exact h10▸rfl
  |1,_=>exact h11▸rfl
  |2,_=>exact h12▸rfl
  |3,_=>exact h13▸rfl
  |4,_=>exact h14▸rfl
  |j+5,hj=>exact absurd hj (by omega)
 refine⟨fun j=>(World.frozen?_setCells _ _ _ _ _).trans (f j), ?_, ?_, ?_, ?_, ?_, ?_, ?_, ?_, ?_, ?_, ?_, ?_, ?_, ?_, ?_, ?_, ?_, ?_⟩
 ·exact(Am (by simp[VV.cs])).trans h0
 ·exact(Am (by simp[VV.cs])).trans h1
 ·exact(Am (by simp[VV.cs])).trans h2
 ·exact(Am (by simp[VV.cs])).trans h3
 ·exact(Am (by simp[VV.cs])).trans h4
 ·exact(Am (by simp[VV.cs])).trans h5
 ·exact(Am (by simp[VV.cs])).trans h6
 ·exact(Am (by simp[VV.cs])).trans h7
 ·exact(Am (by simp[VV.cs])).trans h8
 ·exact(Am (by simp[VV.cs])).trans h9
 ·exact Dm (o:=10) (j:=0) hs rfl
 ·exact Dm (o:=10) (j:=1) hs rfl
 ·exact Dm (o:=10) (j:=2) hs rfl
 ·exact Dm (o:=10) (j:=3) hs rfl
 ·exact Dm (o:=10) (j:=4) hs rfl
 ·exact(Am (by simp[VV.cs])).trans h15
 ·exact(Am (by simp[VV.cs])).trans h16
 ·exact(Am (by simp[VV.cs])).trans h17
theorem Lies.setw {W:World} {B:Nat} {d:DD} {n:Int} (h:Lies W B d):Lies (W.setCells B 15 [.int .i64 n]) B {d with w:=n}:=by
 obtain⟨f,h0,h1,h2,h3,h4,h5,h6,h7,h8,h9,h10,h11,h12,h13,h14,h15,h16,h17⟩:=h
 have hs: ∀j,j<1->(W.cell? ⟨B,15+j,none⟩).isSome=true:=by
  intro j hj
  match j,hj with
  |0,_=>exact h15▸rfl
  |j+1,hj=>exact absurd hj (by omega)
 refine⟨fun j=>(World.frozen?_setCells _ _ _ _ _).trans (f j), ?_, ?_, ?_, ?_, ?_, ?_, ?_, ?_, ?_, ?_, ?_, ?_, ?_, ?_, ?_, ?_, ?_, ?_⟩
 ·exact(Am (by simp[VV.cs])).trans h0
 ·exact(Am (by simp[VV.cs])).trans h1
 ·exact(Am (by simp[VV.cs])).trans h2
 ·exact(Am (by simp[VV.cs])).trans h3
 ·exact(Am (by simp[VV.cs])).trans h4
 ·exact(Am (by simp[VV.cs])).trans h5
 ·exact(Am (by simp[VV.cs])).trans h6
 ·exact(Am (by simp[VV.cs])).trans h7
 ·exact(Am (by simp[VV.cs])).trans h8
 ·exact(Am (by simp[VV.cs])).trans h9
 ·exact(Am (by simp[VV.cs])).trans h10
 ·exact(Am (by simp[VV.cs])).trans h11
 ·exact(Am (by simp[VV.cs])).trans h12
 ·exact(Am (by simp[VV.cs])).trans h13
 ·exact(Am (by simp[VV.cs])).trans h14
 ·exact Dm (o:=15) (j:=0) hs rfl
 ·exact(Am (by simp[VV.cs])).trans h16
 ·exact(Am (by simp[VV.cs])).trans h17
theorem Lies.sete {W:World} {B:Nat} {d:DD} {n:Int} (h:Lies W B d):Lies (W.setCells B 16 [.int .i64 n]) B {d with e:=n}:=by
 obtain⟨f,h0,h1,h2,h3,h4,h5,h6,h7,h8,h9,h10,h11,h12,h13,h14,h15,h16,h17⟩:=h
 have hs: ∀j,j<1->(W.cell? ⟨B,16+j,none⟩).isSome=true:=by
  intro j hj
  match j,hj with
  |0,_=>exact h16▸rfl
  |j+1,hj=>exact absurd hj (by omega)
 refine⟨fun j=>(World.frozen?_setCells _ _ _ _ _).trans (f j), ?_, ?_, ?_, ?_, ?_, ?_, ?_, ?_, ?_, ?_, ?_, ?_, ?_, ?_, ?_, ?_, ?_, ?_⟩
 ·exact(Am (by simp[VV.cs])).trans h0
 ·exact(Am (by simp[VV.cs])).trans h1
 ·exact(Am (by simp[VV.cs])).trans h2
 ·exact(Am (by simp[VV.cs])).trans h3
 ·exact(Am (by simp[VV.cs])).trans h4
 ·exact(Am (by simp[VV.cs])).trans h5
 ·exact(Am (by simp[VV.cs])).trans h6
 ·exact(Am (by simp[VV.cs])).trans h7
 ·exact(Am (by simp[VV.cs])).trans h8
 ·exact(Am (by simp[VV.cs])).trans h9
 ·exact(Am (by simp[VV.cs])).trans h10
 ·exact(Am (by simp[VV.cs])).trans h11
 ·exact(Am (by simp[VV.cs])).trans h12
 ·exact(Am (by simp[VV.cs])).trans h13
 ·exact(Am (by simp[VV.cs])).trans h14
 ·exact(Am (by simp[VV.cs])).trans h15
 ·exact Dm (o:=16) (j:=0) hs rfl
 ·exact(Am (by simp[VV.cs])).trans h17
theorem Lies.setc {W:World} {B:Nat} {d:DD} {n:Int} (h:Lies W B d):Lies (W.setCells B 17 [.int .i64 n]) B {d with c:=n}:=by
 obtain⟨f,h0,h1,h2,h3,h4,h5,h6,h7,h8,h9,h10,h11,h12,h13,h14,h15,h16,h17⟩:=h
 have hs: ∀j,j<1->(W.cell? ⟨B,17+j,none⟩).isSome=true:=by
  intro j hj
  match j,hj with
  |0,_=>exact h17▸rfl
  |j+1,hj=>exact absurd hj (by omega)
 refine⟨fun j=>(World.frozen?_setCells _ _ _ _ _).trans (f j), ?_, ?_, ?_, ?_, ?_, ?_, ?_, ?_, ?_, ?_, ?_, ?_, ?_, ?_, ?_, ?_, ?_, ?_⟩
 ·exact(Am (by simp[VV.cs])).trans h0
 ·exact(Am (by simp[VV.cs])).trans h1
 ·exact(Am (by simp[VV.cs])).trans h2
 ·exact(Am (by simp[VV.cs])).trans h3
 ·exact(Am (by simp[VV.cs])).trans h4
 ·exact(Am (by simp[VV.cs])).trans h5
 ·exact(Am (by simp[VV.cs])).trans h6
 ·exact(Am (by simp[VV.cs])).trans h7
 ·exact(Am (by simp[VV.cs])).trans h8
 ·exact(Am (by simp[VV.cs])).trans h9
 ·exact(Am (by simp[VV.cs])).trans h10
 ·exact(Am (by simp[VV.cs])).trans h11
 ·exact(Am (by simp[VV.cs])).trans h12
 ·exact(Am (by simp[VV.cs])).trans h13
 ·exact(Am (by simp[VV.cs])).trans h14
 ·exact(Am (by simp[VV.cs])).trans h15
 ·exact(Am (by simp[VV.cs])).trans h16
 ·exact Dm (o:=17) (j:=0) hs rfl
theorem Lies.setstr {W:World} {B:Nat} {d:DD} {n:ByteArray} (h:Lies W B d):Lies (W.setCells B 3 [.string n]) B {d with v:={d.v with s:=n}}:=by
 obtain⟨f,h0,h1,h2,h3,h4,h5,h6,h7,h8,h9,h10,h11,h12,h13,h14,h15,h16,h17⟩:=h
 have hs: ∀j,j<1->(W.cell? ⟨B,3+j,none⟩).isSome=true:=by
  intro j hj
  match j,hj with
  |0,_=>exact h3▸rfl
  |j+1,hj=>exact absurd hj (by omega)
 refine⟨fun j=>(World.frozen?_setCells _ _ _ _ _).trans (f j), ?_, ?_, ?_, ?_, ?_, ?_, ?_, ?_, ?_, ?_, ?_, ?_, ?_, ?_, ?_, ?_, ?_, ?_⟩
 ·exact(Am (by simp[VV.cs])).trans h0
 ·exact(Am (by simp[VV.cs])).trans h1
 ·exact(Am (by simp[VV.cs])).trans h2
 ·exact Dm (o:=3) (j:=0) hs rfl
 ·exact(Am (by simp[VV.cs])).trans h4
 ·exact(Am (by simp[VV.cs])).trans h5
 ·exact(Am (by simp[VV.cs])).trans h6
 ·exact(Am (by simp[VV.cs])).trans h7
 ·exact(Am (by simp[VV.cs])).trans h8
 ·exact(Am (by simp[VV.cs])).trans h9
 ·exact(Am (by simp[VV.cs])).trans h10
 ·exact(Am (by simp[VV.cs])).trans h11
 ·exact(Am (by simp[VV.cs])).trans h12
 ·exact(Am (by simp[VV.cs])).trans h13
 ·exact(Am (by simp[VV.cs])).trans h14
 ·exact(Am (by simp[VV.cs])).trans h15
 ·exact(Am (by simp[VV.cs])).trans h16
 ·exact(Am (by simp[VV.cs])).trans h17
