import Derived.Test.YthcmamjpfigdfaaGreatDoorRq
set_option linter.all false
namespace Go.Proofs.YthcmamjpfigdfaaGreatDoor
set_option maxRecDepth 100000
set_option maxHeartbeats 0
section
open Go Go.Proofs Go.Maps Go.RowKit FM
def Dr:SH:=⟨0,Aq,false, []⟩
theorem Hq.left {w X:World} {E:List Nat} {L M:List (Nat×List Value)} (h:Hq w X E (L++M)):Hq w X E L:=⟨h.fr,fun q hq=>h.all q (List.mem_append_left _ hq),by
 have:=h.nd
 rw[List.map_append] at this
 exact(List.nodup_append.1 this).1⟩
def Es:PR:=⟨⟨⟨#[]⟩,0⟩,zeroD⟩
theorem eql41 (a b:KK) (w:World):(binOp .eql 37 a.agg b.agg).run Tryz.prog w= .ok (.bool (decide (a=b))) w:=by
 unfold KK.agg
 have ht:Tryz.prog.underlying 37=some (.struct (Tryz.prog.fieldsOf 37)):=by kernel_rfl
 rw[run_eql_struct,show (10000:Nat)=9998+1+1 from rfl,run_equalIn_struct _ _ _ _ _ ht (by kernel_rfl)]
 have hf:Tryz.prog.fieldsOf 37=(match Tryz.prog.underlying 37 with|some (.struct f)=>f|_=> #[]):=by kernel_rfl
 rw[hf,Tryz.underlying37]
 simp[Op.eqFields,go_sem,part]
 by_cases h1:a.s.toList=b.s.toList
 ·by_cases h2:a.n=b.n
  ·rw[if_pos h1,if_pos h2,decide_eq_true (KK.ext' (toList_inj h1) h2)]
  ·rw[if_pos h1,if_neg h2,decide_eq_false (fun e:a=b=>h2 (congrArg KK.n e))]
 ·rw[if_neg h1,decide_eq_false (fun e:a=b=>h1 (congrArg (fun z:KK=>z.s.toList) e))]
theorem ex_eql41 {o:Oper} {a:Act} {w:World} {x y:Operand} (k q:KK) (ho:o.op= .binOp .eql 37 x y 37) (hx:a.eval x=k.agg) (hy:a.eval y=q.agg):(execOp a.eval o).run Tryz.prog w= .ok (.value (.bool (decide (k=q)))) w:=by
 have e:=eql41 k q w
 have e2:(eqGuard .eql 37 x y k.agg q.agg).run Tryz.prog w= .ok () w:=by kernel_rfl
 unfold execOp
 simp only[ho,hx,hy]
 simp[e,e2]
def toP (e:KK×DD):PR:=⟨e.1,e.2⟩
def toS (s:PO):SH:=⟨s.c,s.p,s.x,s.ps.map toP⟩
theorem good_OkK {k:KK} (h:goodK k=true):OkK k:=by
 have hn:=Zft h
 refine⟨?_, ?_⟩
 ·have hs:=Zdt h
  have:(1048576:Nat)<=maxLen:=by decide
  omega
 ·have h1:(-(2:Int)^63)<=k.n/\k.n<2^63:=⟨by omega,by omega⟩
  have a1:IntKind.i64.min= -9223372036854775808:=by decide
  have a2:IntKind.i64.max=9223372036854775807:=by decide
  simp[Lit.wf]
  omega
theorem toS_cs (s:PO) (A:Option Addr) (c:Nat):(toS s).cs A c=shC s (.slice A s.ps.length c):=by
 unfold toS SH.cs shC
 rw[List.length_map]
theorem reads_P9 {w:World} {A:Option Addr} {l:List (KK×DD)} (h:ReadsP w A l) (hok: ∀e∈l,OkK e.1/\FD e.2):ReadsP9 w A (l.map toP):=fun j p hp=>by
 rw[List.getElem?_map] at hp
 obtain⟨e,he,rfl⟩:=Option.map_eq_some_iff.1 hp
 have h1:=hok e (List.mem_of_getElem? he)
 exact⟨⟨h1.2,h1.1⟩,h j e he⟩
theorem Zc6 {w:World} {A:Option Addr} {l:List PO} (h:Zbb w A l) (hok: ∀s∈l,s.p.x<2^64/\s.ps.length<=1000000/\ ∀e∈s.ps,OkK e.1/\FD e.2):ReadsS9 w A (l.map toS):=fun j t ht=>by
 rw[List.getElem?_map] at ht
 obtain⟨s,hs,rfl⟩:=Option.map_eq_some_iff.1 ht
 obtain⟨h1,h2,h3⟩:=hok s (List.mem_of_getElem? hs)
 obtain⟨b,off,PA,pc,e1,e2,e3,e4⟩:=h j s hs
 refine⟨h1, ?_,b,off,PA,pc,e1,e2,reads_P9 e4 h3, ?_⟩
 ·show (s.ps.map toP).length<=_
  rw[List.length_map]
  omega
 ·rw[toS_cs]
  exact e3
end
section
open Go Go.Proofs Go.Maps Go.RowKit
section
variable {o:Oper} {a:Act} {W:World} {x:Operand} {B p:Nat} {cs:List Value}
end
theorem Fr.setCells8 (X:World) (b p:Nat) (vs:List Value):Fr X (X.setCells b p vs) [b]:=
 ⟨(Jl b vs p X).1,(Jl b vs p X).2.1,(Jl b vs p X).2.2,by rw[Eu];exact Nat.le_refl _,fun g _ hg=>Gr b vs p X g (by simpa using hg)⟩
section
variable {md:Region.Mode} {ops:Array Oper} {rest:List Oper} {Q:Exit->Act->World->Prop} {S:World->Prop} {w w0:World} {fuel:Nat} {listed:Array Bool} {a:Act} {o:Oper}
end
section
variable {md:Region.Mode} {ops:Array Oper} {rest:List Oper} {Q:Exit->Act->World->Prop} {S:World->Prop} {w w0:World} {fuel:Nat} {listed:Array Bool} {a:Act} {o:Oper}
end
