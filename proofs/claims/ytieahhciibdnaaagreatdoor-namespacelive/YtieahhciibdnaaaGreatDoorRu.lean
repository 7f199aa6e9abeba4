import Derived.Test.YtieahhciibdnaaaGreatDoorRt
set_option linter.all false
namespace Go.Proofs.YtieahhciibdnaaaGreatDoor
set_option maxRecDepth 100000
set_option maxHeartbeats 0
section
open Go Go.Proofs Go.Maps Go.RowKit FM
attribute [local go_sem] Ak Ae Aq Dl Dk Bl Af Aj Ad Bj Et Es
structure PR where
 k:KK
 d:DD
def PR.cs (p:PR):List Value:=p.k.cs++p.d.cs
def Pj (w:World) (A:Option Addr) (l:List PR):Prop:= ∀(j:Nat) (p:PR),l[j]? =some p-> ∃b off,A=some ⟨b,off,none⟩/\b<w.heap.size/\w.rangeAt b (off+j * 20) p.cs
theorem pr_key {X:World} {b q:Nat} {p:PR} (h:X.rangeAt b q p.cs):X.rangeAt b q p.k.cs:=fun j v hv=>h j v (by
 have hj:=(List.getElem?_eq_some_iff.1 hv).1
 unfold PR.cs
 rw[List.getElem?_append_left hj]
 exact hv)
theorem pr_desc {X:World} {b q:Nat} {p:PR} (h:X.rangeAt b q p.cs):X.rangeAt b (q+2) p.d.cs:=Zbe h
theorem pr_val {X:World} {b q:Nat} {d:DD} (h:X.rangeAt b q d.cs):X.rangeAt b q d.v.cs:=fun j v hv=>h j v (by
 have hj:=(List.getElem?_eq_some_iff.1 hv).1
 have e:d.cs=d.v.cs++d.cs.drop 5:=rfl
 rw[e,List.getElem?_append_left hj]
 exact hv)
def Rel (F:ByteArray->Option VV) (p:EX):Prop:= ∀(s:ByteArray) (b:BN),p.find s=some b->(F s=none/\b.v.k=0)∨(F s=some b.v/\b.v.k≠0)
structure LV (ns:List ByteArray) (B0:Nat) (F:ByteArray->Option VV) (L:Nat) (fl:Int) (h:HP) (p:EX):Prop where
 ex: ∃q,NX h q p L
 b:h.b=B0
 f:fl<=h.fuel
 e:h.ent=0
 d:h.depth=10
 nm:(p.l.map (·.n)).Perm ns
 srt: ∀(i j:Nat) (x y:BN),i<j->p.l[i]? =some x->p.l[j]? =some y->M.cmpL (unS x.n) (unS y.n)<=0
 rel:Rel F p
section
variable {ns : List ByteArray} {B0 L : Nat} {F : ByteArray → Option VV} {fl : Int} {h h1 : HP} {p : EX}
theorem LV.rt (V:LV ns B0 F L fl h p) (R:Rt h p L 6 h1):LV ns B0 F (L+1) (fl - 6) h1 p:=by
 obtain⟨q1,N,S⟩:=R
 exact⟨⟨q1,N⟩,S.b.trans V.b,by have:=S.f1;have:=V.f;omega,S.e.trans V.e,S.d.trans V.d,V.nm,V.srt,V.rel⟩
theorem LV.more (V:LV ns B0 F L fl h p) {L':Nat} {fl':Int} (h1:L<=L') (h2:fl'<=fl):LV ns B0 F L' fl' h p:=by
 obtain⟨q,N⟩:=V.ex
 exact⟨⟨q,N.more h1⟩,V.b,Int.le_trans h2 V.f,V.e,V.d,V.nm,V.srt,V.rel⟩
theorem good_k {v:VV} (h:v.good=true):v.k≠0:=by
 obtain⟨k,b,x,s,i⟩:=v
 rcases Eg h with ⟨h,_⟩|⟨h,_⟩|⟨h,_⟩|⟨h,_⟩|⟨h,_⟩|⟨h,_⟩|⟨h,_⟩<;>(show k≠0;rw[show k=_ from h];decide)
theorem LV.bind (V:LV ns B0 F L fl h p) {i:Nat} {s:ByteArray} {v:VV} (hi:p.pF s=some i) (hg:v.good=true):LV ns B0 (Mx F s (some v)) L fl (h.ex (p.put i s v)) (p.put i s v):=by
 obtain⟨q,N⟩:=V.ex
 refine⟨⟨q,N.put hi (Xs hg)⟩,V.b,V.f,V.e,V.d,by rw[Zr N.W hi];exact V.nm,fun a c x y hac hx hy=> ?_,fun t b hb=> ?_⟩
 ·have e:=Zr (v:=v) N.W hi
  have h1:(p.l.map (·.n))[a]? =some x.n:=by rw[←e,List.getElem?_map,hx];rfl
  have h2:(p.l.map (·.n))[c]? =some y.n:=by rw[←e,List.getElem?_map,hy];rfl
  rw[List.getElem?_map] at h1 h2
  cases h3:p.l[a]? with
  |none=>rw[h3] at h1;cases h1
  |some x0=>
   cases h4:p.l[c]? with
   |none=>rw[h4] at h2;cases h2
   |some y0=>
    rw[h3] at h1
    rw[h4] at h2
    have h1:x0.n=x.n:=Option.some.inj h1
    have h2:y0.n=y.n:=Option.some.inj h2
    rw[←h1,←h2]
    exact V.srt a c x0 y0 hac h3 h4
 ·rw[ZbK N.W hi] at hb
  by_cases e:t=s
  ·subst e
   rw[if_pos rfl] at hb
   cases hb
   exact .inr ⟨Zs _ _ _,good_k hg⟩
  ·rw[if_neg e] at hb
   rw[Vp e]
   exact V.rel t b hb
theorem LV.new {gs:List ByteArray} (M0:MadeX h gs h1 p) (hb:h.b=B0) (hf:h.fuel=fl) (he:h.ent=0) (hd:h.depth=10):LV gs B0 (fun _=>none) 1 fl h1 p:=by
 obtain⟨hN,q,N,e1,e2,e3,e4⟩:=M0
 refine⟨⟨q,N⟩,e1.trans hb,by rw[e2,hf];exact Int.le_refl _,e3.trans he,e4.trans hd,hN.nm,hN.srt,fun s b hb=> .inl ⟨rfl, ?_⟩⟩
 rw[hN.z b (find_mem hN.W hb)]
 rfl
theorem LV.mem (V:LV ns B0 F L fl h p) (s:ByteArray):(p.pF s).isSome=true↔s∈ns:=by
 obtain⟨q,N⟩:=V.ex
 rw[pf_iff N.W]
 exact V.nm.mem_iff
theorem LV.len (V:LV ns B0 F L fl h p):p.l.length=ns.length:=by
 have:=V.nm.length_eq
 rwa [List.length_map] at this
end
theorem eqB_refl (v:VV):eqB v v=true:=by simp[eqB]
theorem ex_neF {o:Oper} {a:Act} {w:World} {x y:Operand} (ho:o.op= .binOp .neq 41 x y 41) (hx:a.eval x= .agg (Ly 5).toArray) (hy:a.eval y= .agg (Ly 5).toArray):(execOp a.eval o).run Tryz.prog w= .ok (.value (.bool false)) w:=by
 unfold execOp
 simp only[ho,hx,hy]
 kernel_rfl
theorem ex_bF5 {o:Oper} {a:Act} {w:World} (ho:o.op= .build 41 #[(1, .const (.int .i64 5))]):(execOp a.eval o).run Tryz.prog w= .ok (.value (.agg (Ly 5).toArray)) w:=by
 have e:(Instr.build 41 #[(1, .int .i64 5)]).run Tryz.prog w= .ok (.agg (Ly 5).toArray) w:=by kernel_rfl
 unfold execOp
 simp only[ho,List.map_toArray,List.map_cons,List.map_nil]
 simp[e,Act.eval]
theorem Rs {o:Oper} {a:Act} {w:World} {x:Operand} (ho:o.op= .field 41 x 0) (hx:a.eval x= .agg (ZaO 5).toArray):(execOp a.eval o).run Tryz.prog w= .ok (.value (.int .i64 5)) w:=by
 unfold execOp
 simp only[ho,hx]
 kernel_rfl
theorem Jm {o:Oper} {a:Act} {w:World} {x y:Operand} {n:Nat} {r:Bool} (ho:o.op= .binOp .gtr 3 x y 3) (hx:a.eval x= .int .i64 (n:Nat)) (hc:a.eval y= .int .i64 60) (h:decide ((60:Int)<(n:Int))=r):(execOp a.eval o).run Tryz.prog w= .ok (.value (.bool r)) w:=by
 unfold execOp
 simp only[ho,hx,hc]
 simp[go_sem,eqGuard,h]
theorem Zdf {o:Oper} {a:Act} {w:World} {x y:Operand} {n:Nat} (ho:o.op= .binOp .rem 3 x y 3) (hx:a.eval x= .int .i64 (n:Nat)) (hc:a.eval y= .int .i64 2) (hn:n<=1000):(execOp a.eval o).run Tryz.prog w= .ok (.value (.int .i64 ((n % 2:Nat):Int))) w:=by
 have e:Int.tmod (n:Int) 2=((n % 2:Nat):Int):=by
  rw[Int.tmod_eq_emod_of_nonneg (by omega)]
  omega
 unfold execOp
 simp only[ho,hx,hc]
 simp[go_sem,eqGuard]
 simpa using e
theorem ex_lkV {o:Oper} {a:Act} {w:World} {m x:Operand} {mb n:Nat} {F:ByteArray->Option VV} {s:ByteArray} {V:Value} (ho:o.op= .lookup 43 m x true) (hm:a.eval m= .map (some mb)) (hx:a.eval x= .string s) (H:MapT vR vD zeroV w mb n F) (hs:okN s) (hR:Value.tuple #[((F s).getD zeroV).agg, .bool (F s).isSome]=V):(execOp a.eval o).run Tryz.prog w= .ok (.value V) w:=Yh encV encTV H hs hR ho hm hx
theorem lkYes {F:ByteArray->Option VV} {s:ByteArray} {v:VV} (h:F s=some v):Value.tuple #[((F s).getD zeroV).agg, .bool (F s).isSome]= .tuple #[.agg v.cs.toArray, .bool true]:=by rw[h];rfl
theorem lkNo {F:ByteArray->Option VV} {s:ByteArray} (h:F s=none):Value.tuple #[((F s).getD zeroV).agg, .bool (F s).isSome]= .tuple #[.agg zeroV.cs.toArray, .bool false]:=by rw[h];rfl
