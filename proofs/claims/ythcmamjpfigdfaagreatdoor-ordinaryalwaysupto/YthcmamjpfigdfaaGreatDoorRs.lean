import Derived.Test.YthcmamjpfigdfaaGreatDoorRr
set_option linter.all false
namespace Go.Proofs.YthcmamjpfigdfaaGreatDoor
set_option maxRecDepth 100000
set_option maxHeartbeats 0
section
open Go Go.Proofs Go.Maps Go.RowKit FM
attribute [local go_sem] Am Al Ar Ah Ao Ai Au Dg Df Bh Ak Az
def ReadsP (w:World) (A:Option Addr) (l:List (KK×DD)):Prop:= ∀(j:Nat) (e:KK×DD),l[j]? =some e-> ∃b off,A=some ⟨b,off,none⟩/\b<w.heap.size/\w.rangeAt b (off+j * 20) (e.1.cs++e.2.cs)
theorem ReadsP.on {w X:World} {A:Option Addr} {l:List (KK×DD)} (h:ReadsP w A l) (k:Below w.heap.size w X):ReadsP X A l:=fun j e hj=>by
 obtain⟨b,off,h1,h2,h3⟩:=h j e hj
 exact⟨b,off,h1,Nat.lt_of_lt_of_le h2 k.size,Dn h3 h2 k⟩
theorem Zf4 {X:World} {base n:Nat} {A:Option Addr} {c:Nat} {l:List (KK×DD)} (h:X.ownsRow base 80 20 (.slice A n c) n (Lo l)) (hn:l.length=n):ReadsP X A l:=fun j e hj=>by
 have hlt:=(List.getElem?_eq_some_iff.1 hj).1
 have he:=(List.getElem?_eq_some_iff.1 hj).2
 obtain⟨g,c',h1,h2,h3,h4⟩:=Uu (f:=fun x:KK×DD=>x.1.cs++x.2.cs) (k:=20) (fun _=>rfl) h hn j hlt
 cases h1
 exact⟨g,0,rfl,h3,by rw[he] at h4;exact h4⟩
theorem ex_kne {o:Oper} {a:Act} {w:World} {x y:Operand} {k:KK} (ho:o.op= .binOp .neq 37 x y 37) (hx:a.eval x= .agg k.cs.toArray) (hc:a.eval y= .agg k.cs.toArray):(execOp a.eval o).run Tryz.prog w= .ok (.value (.bool false)) w:=by
 have h2:=neq23 k w
 rw[Dj] at h2
 unfold execOp
 simp only[ho,hx,hc]
 simp[eqGuard,h2]
def Yx (w:World) (A:Option Addr) (l:List PO):Prop:= ∀(j:Nat) (s:PO),l[j]? =some s-> ∃b off PA pc,A=some ⟨b,off,none⟩/\b<w.heap.size/\w.rangeAt b (off+j * 8) (shC s (.slice PA s.ps.length pc))/\ReadsP w PA s.ps
theorem Zgj {l:List PO} {vs:List Value} (h:vs.length=l.length):(l.zip vs).length=l.length:=by simp[h]
theorem ZcV {X:World} {base n:Nat} {A:Option Addr} {c:Nat} {l:List PO} {vs:List Value} (hn:l.length=n) (h:X.ownsRow base 85 8 (.slice A n c) n (Oz l vs)) (hp:(psO base l vs).P X):Yx X A l:=fun j s hj=>by
 have hlt:=(List.getElem?_eq_some_iff.1 hj).1
 have hs:=(List.getElem?_eq_some_iff.1 hj).2
 have hlv:j<vs.length:=by rw[hp.1];exact hlt
 have hz:(l.zip vs).length=n:=by rw[Zgj hp.1];exact hn
 obtain⟨g,c',h1,h2,h3,h4⟩:=Uu (f:=fun x:PO×Value=>shC x.1 x.2) (k:=8) (fun _=>rfl) h hz j (by rw[hz];omega)
 cases h1
 have hO:=hp.2 j s vs[j] hj (List.getElem?_eq_getElem hlv)
 obtain⟨PA,pc,e⟩:=Gl hO
 refine⟨g,0,PA,pc,rfl,h3, ?_, ?_⟩
 ·have e2:(l.zip vs)[j]'(by rw[hz];omega)=(s,vs[j]):=by rw[List.getElem_zip,hs]
  rw[e2,e] at h4
  exact h4
 ·rw[e] at hO
  exact Zf4 hO rfl
