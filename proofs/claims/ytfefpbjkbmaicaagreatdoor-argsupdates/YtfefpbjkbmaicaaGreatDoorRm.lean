import Derived.Test.YtfefpbjkbmaicaaGreatDoorRl
set_option linter.all false
namespace Go.Proofs.YtfefpbjkbmaicaaGreatDoor
set_option maxRecDepth 100000
set_option maxHeartbeats 0
section
open Go Go.Proofs Go.Maps Go.RowKit FM Tryz
attribute [local go_sem] Av Ap Dv Du De Au Ao Az Dd Gu Gt
theorem Km {o:Oper} {a:Act} {w:World} {x ix:Operand} {g n cap:Nat} {V:Value} (q j:Nat) (ho:o.op= .indexAddr 82 x ix) (hx:a.eval x=V) (hV:V= .slice (some ⟨g,0,none⟩) n cap) (hix:a.eval ix= .int .i64 (j:Nat)) (hj:j<n) (hq:q=0+j * 7):(execOp a.eval o).run prog w= .ok (.value (.pointer (some ⟨g,q,none⟩))) w:=ex_ixP q j ho (hx.trans hV) hix hj hq
theorem Dy {X:World} {g q j:Nat} {a:PA} (hq:q=0+j * 7) (h:X.rangeAt g (0+j * 7) a.cs):X.rangeAt g q a.cs:=hq▸h
section
variable {ops : Array Oper} {rest : List Oper} {Q : Exit → Act → World → Prop} {w w0 : World} {a : Act} {o : Oper} {E : List Nat} {L : List Ob}
theorem stP {g c n j p q:Nat} {l:List PA} {x' x0:PA} {vs:List Value} {v V:Value} {x y:Operand} (i:Nat) (ty:TypeId) (hw:Region.wanted o (yielded ops a.tmps)=true) (ho:o.op= .store ty x y) (hx:a.eval x= .pointer (some ⟨g,q,none⟩)) (hy:a.eval y=v)
  (hv:v.cells.toList=vs) (h1: ∀u∈vs,u.oneCell'=true) (hi:(prog.info? ty).map (·.size)=some vs.length) (hL:Sy w0 w E L) (hV:V= .slice (some ⟨g,0,none⟩) n c) (hg:L[i]? =some (Ew 0 89 7 V n (l.flatMap PA.cs))) (hn:l.length=n) (hr:l[j]? =some x0) (hp:p+vs.length<=7) (he:Dq x0.cs p vs=x'.cs) (hq:q=0+j * 7+p)
  (h: ∀X,Sy w0 X E (L.set i (Ew 0 89 7 V n ((l.set j x').flatMap PA.cs)))->wpList prog ops Q rest (a.put o.dst undef) X):wpList prog ops Q (o::rest) a w:=by
 subst hV
 exact stE PA.cs 7 Rs i ty hw ho hx hy hv h1 hi hL hg hn hr hp he hq h
end
def PM.val (p:PM) (n:Nat) (a:PA):PM:={p with l:=p.l.set n a}
noncomputable def PM.tied (p:PM) (n:Nat) (a:PA):PM:={p with l:=p.l.set n a,tn:=p.tn+1,tF:=putK p.tF (a.t:Int) (some n)}
theorem Ox {p:PM} {w Y:World} {M:List Ob} {n:Nat} {a:PA} (S:Sy w Y p.blocks ([Al p.b (pcs p),Ew 0 89 7 p.lv p.l.length ((p.l.set n a).flatMap PA.cs),Gd KS p.pb p.pn p.pF,Gd KI p.tb p.tn p.tF]++M)):p.To (p.val n a) w Y:=PM.To.end (M:=M) S (by simp[PM.things,pcs,PM.val])
theorem tied_end {p:PM} {w Y:World} {M:List Ob} {n:Nat} {a:PA} (S:Sy w Y p.blocks ([Al p.b (pcs p),Ew 0 89 7 p.lv p.l.length ((p.l.set n a).flatMap PA.cs),Gd KS p.pb p.pn p.pF,Gd KI p.tb (p.tn+1) (putK p.tF (a.t:Int) (some n))]++M)):p.To (p.tied n a) w Y:=PM.To.end (M:=M) S (by simp[PM.things,pcs,PM.tied])
theorem Rk {n:Nat} (h:n<=1000000):(Lit.int .i64 (n:Int)).wf=true:=by
 show (decide (IntKind.i64.min<=(n:Int)) && decide ((n:Int)<=IntKind.i64.max))=true
 have e1:IntKind.i64.min= -9223372036854775808:=by decide
 have e2:IntKind.i64.max=9223372036854775807:=by decide
 rw[e1,e2,Bool.and_eq_true]
 exact⟨decide_eq_true (by omega),decide_eq_true (by omega)⟩
theorem Zbz {o:Oper} {a:Act} {w:World} {x y:Operand} {n m:Int} {r:Bool} (ho:o.op= .binOp .lss 3 x y 3) (hx:a.eval x= .int .i64 n) (hc:a.eval y= .int .i64 m) (h:decide (n<m)=r):(execOp a.eval o).run prog w= .ok (.value (.bool r)) w:=by
 unfold execOp
 simp only[ho,hx,hc]
 simp[go_sem,eqGuard,h]
theorem begin_no (p:PM) (n:Nat) (a:PA) (B:Option Addr) (c:Nat) (vs:List VV) (w:World) (H:p.Is w) (hj:p.l[n]? =some a) (hno:vs.length<=a.t):Calls prog 56 #[.pointer (some ⟨p.b,0,none⟩), .int .i64 (n:Nat), .slice B vs.length c] w fun e w'=>e= .returned (.tuple #[])/\p.To (p.val n ⟨a.n,Ea,a.t⟩) w w':=by
 obtain⟨g,c0,hlv⟩:=H.at hj
 have hjl:=(List.getElem?_eq_some_iff.1 hj).1
 have HLV:=Ac hlv
 clear hlv
 obtain⟨q,hq⟩: ∃q,q=0+n * 7:=⟨_,rfl⟩
 have HQ:=Ac hq
 clear hq
 have SS:Hid (Sy w w p.blocks [Al p.b (pcs p),Ew 0 89 7 p.lv p.l.length (p.l.flatMap PA.cs),Gd KS p.pb p.pn p.pF,Gd KI p.tb p.tn p.tF]):=Ac H.sy
 clear H
 have hj2:(p.l.set n ⟨a.n,Ea,a.t⟩)[n]? =some ⟨a.n,Ea,a.t⟩:=by rw[List.getElem?_set_self hjl]
 go_enter func56,ntmps56
 go_wp2_with (first|go_skip|((with_reducible show wpList ..);first|(refine z1 82 isAgg82 0 (by rfl) rfl rfl SS rfl rfl ?_;simp only[nn])|(refine rd rfl (Km q n rfl rfl (Aa HLV) rfl hjl (Aa HQ)) ?_)))
 refine(Lc _).mono ?_
 rintro _ Y1 ⟨rfl,hb1⟩
 replace SS:=Ac ((Aa SS).on hb1)
 clear hb1
 rw[show VV.agg ⟨1,false,0,ByteArray.empty,0⟩= .agg Ea.cs.toArray from rfl]
 have dlt:decide ((a.t:Int)<(vs.length:Int))=false:=decide_eq_false (by omega)
 go_wp2_with (first|go_skip|((with_reducible show wpList ..);first|((refine stP (l:=p.l) (x0:=a) (x':=⟨a.n,Ea,a.t⟩) (j:=n) (p:=1) (q:=q+1) (vs:=Ea.cs) 1 26 (by rfl) rfl rfl rfl rfl (Eb _) szV (Aa SS) (Aa HLV) rfl rfl hj (by simp[VV.cs]) (by simp[Dq,PA.cs,VV.cs]) (by rw[Aa HQ]) ?_);intro X5 S5;replace SS:=Ac S5;clear S5;simp only[nn])|(refine rd rfl (Qj (p:=⟨a.n,Ea,a.t⟩) rfl rfl (Dy (Aa HQ) (Dp ((Aa SS).get 1 rfl) (Aa HLV) (List.length_set ..) hj2))) ?_)|(refine rd rfl (Dj 22 26 underlying22 rfl rfl) ?_)|(refine rd rfl (Zbz rfl rfl rfl dlt) ?_)))
 refine bodyPost_end (results_none rfl _ _ _) rfl ?_
 exact⟨rfl,Ox (M:= []) (Aa SS)⟩
theorem Zcx (p:PM) (n:Nat) (a:PA) (B:Option Addr) (c:Nat) (vs:List VV) (v:VV) (w:World) (H:p.Is w) (hj:p.l[n]? =some a) (hlt:a.t<vs.length) (hv:vs[a.t]? =some v) (HRV: ∀{X:World},Fr w X p.blocks->ReadsV X B vs) (hz:vs.length<=100000) (hn:p.tn<maxLen):Calls prog 56 #[.pointer (some ⟨p.b,0,none⟩), .int .i64 (n:Nat), .slice B vs.length c] w fun e w'=>e= .returned (.tuple #[])/\p.To (p.tied n ⟨a.n,v,a.t⟩) w w':=by
 obtain⟨b,off,hA,hb,hrg⟩:=HRV (Fr.refl w _) a.t v hv
 have HV:Hid (∀X:World,Fr w X p.blocks->X.rangeAt b (off+a.t * 5) v.cs):=Ac (fun X k=>by
  obtain⟨b2,off2,hA2,_,hr2⟩:=(HRV k) a.t v hv
  rw[hA] at hA2
  obtain⟨rfl,rfl⟩:b=b2/\off=off2:=by simpa using hA2
  exact hr2)
 subst hA
 clear hb hrg HRV
 have hwf:(Lit.int .i64 (a.t:Int)).wf=true:=Rk (by omega)
 obtain⟨g,c0,hlv⟩:=H.at hj
 have hjl:=(List.getElem?_eq_some_iff.1 hj).1
 have HLV:=Ac hlv
 clear hlv
 obtain⟨q,hq⟩: ∃q,q=0+n * 7:=⟨_,rfl⟩
 have HQ:=Ac hq
 clear hq
 have SS:Hid (Sy w w p.blocks [Al p.b (pcs p),Ew 0 89 7 p.lv p.l.length (p.l.flatMap PA.cs),Gd KS p.pb p.pn p.pF,Gd KI p.tb p.tn p.tF]):=Ac H.sy
 clear H
 have hj2:(p.l.set n ⟨a.n,Ea,a.t⟩)[n]? =some ⟨a.n,Ea,a.t⟩:=by rw[List.getElem?_set_self hjl]
 go_enter func56,ntmps56
 go_wp2_with (first|go_skip|((with_reducible show wpList ..);first|(refine z1 82 isAgg82 0 (by rfl) rfl rfl SS rfl rfl ?_;simp only[nn])|(refine rd rfl (Km q n rfl rfl (Aa HLV) rfl hjl (Aa HQ)) ?_)))
 refine(Lc _).mono ?_
 rintro _ Y1 ⟨rfl,hb1⟩
 replace SS:=Ac ((Aa SS).on hb1)
 clear hb1
 rw[show VV.agg ⟨1,false,0,ByteArray.empty,0⟩= .agg Ea.cs.toArray from rfl]
 have dlt:decide ((a.t:Int)<(vs.length:Int))=true:=decide_eq_true (by omega)
 have hj3:((p.l.set n ⟨a.n,Ea,a.t⟩).set n ⟨a.n,v,a.t⟩)[n]? =some ⟨a.n,v,a.t⟩:=by rw[List.getElem?_set_self (by simpa using hjl)]
 go_wp2_with (first|go_skip|((with_reducible show wpList ..);first|((refine stP (l:=p.l) (x0:=a) (x':=⟨a.n,Ea,a.t⟩) (j:=n) (p:=1) (q:=q+1) (vs:=Ea.cs) 1 26 (by rfl) rfl rfl rfl rfl (Eb _) szV (Aa SS) (Aa HLV) rfl rfl hj (by simp[VV.cs]) (by simp[Dq,PA.cs,VV.cs]) (by rw[Aa HQ]) ?_);intro X5 S5;replace SS:=Ac S5;clear S5;simp only[nn])|(refine rd rfl (Qj (p:=⟨a.n,Ea,a.t⟩) rfl rfl (Dy (Aa HQ) (Dp ((Aa SS).get 1 rfl) (Aa HLV) (List.length_set ..) hj2))) ?_)|(refine rd rfl (Dj 22 26 underlying22 rfl rfl) ?_)|(refine rd rfl (Zbz rfl rfl rfl dlt) ?_)|(refine rd rfl (Ds 22 5 a.t Oy Pq rfl rfl rfl hlt) ?_)|(refine rd rfl (Ev (vs:=v.cs) 26 5 rwV szV rfl rfl (Aa HV _ (Aa SS).fr) rfl) ?_)|((refine stP (l:=(p.l.set n ⟨a.n,Ea,a.t⟩)) (x0:=⟨a.n,Ea,a.t⟩) (x':=⟨a.n,v,a.t⟩) (j:=n) (p:=1) (q:=q+1) (vs:=v.cs) 1 26 (by rfl) rfl rfl rfl rfl (Eb _) szV (Aa SS) (Aa HLV) rfl (List.length_set ..) hj2 (by simp[VV.cs]) (by simp[Dq,PA.cs,VV.cs]) (by rw[Aa HQ]) ?_);intro X6 S6;replace SS:=Ac S6;clear S6;simp only[nn])))
 have hS:Sy w _ p.blocks [Al p.b (pcs p),Ew 0 89 7 p.lv p.l.length (((p.l.set n ⟨a.n,Ea,a.t⟩).set n ⟨a.n,v,a.t⟩).flatMap PA.cs),Gd KS p.pb p.pn p.pF,Gd KI p.tb p.tn p.tF]:=(Aa SS).drew
 clear SS
 refine wp_region_held_drew (P:=prog) (S:=fun X=>Holds X p.b (pcs p)/\X.rangeAt g q (PA.cs ⟨a.n,v,a.t⟩)) (by kernel_rfl) (⟨hS.hold 0 rfl,Dy (Aa HQ) (Dp (hS.get 1 rfl) (Aa HLV) (by simp only[List.length_set]) hj3)⟩) (fun hS0=> ?_)
 refine gp 0 (some 34) (.pointer (some ⟨p.b,0,none⟩)) rfl rfl (⟨hS.hold 0 rfl,Dy (Aa HQ) (Dp (hS.get 1 rfl) (Aa HLV) (by simp only[List.length_set]) hj3)⟩) ?_
 refine gp 1 (some 35) (.pointer (some ⟨p.b,0,none⟩)) rfl rfl (⟨hS.hold 0 rfl,Dy (Aa HQ) (Dp (hS.get 1 rfl) (Aa HLV) (by simp only[List.length_set]) hj3)⟩) ?_
 refine gp 2 (some 36) (.pointer (some ⟨p.b,2,none⟩)) rfl rfl (⟨hS.hold 0 rfl,Dy (Aa HQ) (Dp (hS.get 1 rfl) (Aa HLV) (by simp only[List.length_set]) hj3)⟩) ?_
 refine gq 3 (some 37) (.map (some p.tb)) rfl rfl (fun X hX=>Aj 84 isAgg84 rfl rfl hX.1 rfl) (⟨hS.hold 0 rfl,Dy (Aa HQ) (Dp (hS.get 1 rfl) (Aa HLV) (by simp only[List.length_set]) hj3)⟩) ?_
 refine gp 4 (some 38) (.pointer (some ⟨g,q,none⟩)) rfl rfl (⟨hS.hold 0 rfl,Dy (Aa HQ) (Dp (hS.get 1 rfl) (Aa HLV) (by simp only[List.length_set]) hj3)⟩) ?_
 refine gp 5 (some 39) (.pointer (some ⟨g,q,none⟩)) rfl rfl (⟨hS.hold 0 rfl,Dy (Aa HQ) (Dp (hS.get 1 rfl) (Aa HLV) (by simp only[List.length_set]) hj3)⟩) ?_
 refine gp 6 (some 40) (.pointer (some ⟨g,q+6,none⟩)) rfl rfl (⟨hS.hold 0 rfl,Dy (Aa HQ) (Dp (hS.get 1 rfl) (Aa HLV) (by simp only[List.length_set]) hj3)⟩) ?_
 refine gq 7 (some 41) (.int .i64 (a.t:Nat)) rfl rfl (fun X hX=>Qj (p:=⟨a.n,v,a.t⟩) rfl rfl hX.2) (⟨hS.hold 0 rfl,Dy (Aa HQ) (Dp (hS.get 1 rfl) (Aa HLV) (by simp only[List.length_set]) hj3)⟩) ?_
 refine gp 8 (some 42) (.int .i64 (n:Nat)) rfl rfl (⟨hS.hold 0 rfl,Dy (Aa HQ) (Dp (hS.get 1 rfl) (Aa HLV) (by simp only[List.length_set]) hj3)⟩) ?_
 obtain⟨X8,hrun8,hM8,ht8⟩:=MapK.store KI_ok (show MapK KI _ p.tb p.tn p.tF from hS.get 3 rfl) (s:=(a.t:Int)) hwf hn n
 have hq9:=hS.set 3 rfl (Ns KI _ _ _) hM8 (Qa ht8) (fun b hb=> .inl hb)
 refine gr (rs:= [9]) (Nb 9 none rfl rfl (by kernel_rfl) (ex_upI rfl rfl rfl rfl hrun8) ⟨hq9.hold 0 rfl,Dy (Aa HQ) (Dp (hq9.get 1 rfl) (Aa HLV) (by simp only[List.length_set]) hj3)⟩ ?_ gn)
 simp only[nn]
 refine wpAnyH_done (by kernel_rfl) ?_ _
 try simp only[nn]
 have SS:=Ac hq9
 clear hq9 hM8 ht8 hrun8
 go_wp2
 refine bodyPost_end (results_none rfl _ _ _) rfl ?_
 have e2:((p.l.set n ⟨a.n,Ea,a.t⟩).set n ⟨a.n,v,a.t⟩)=p.l.set n ⟨a.n,v,a.t⟩:=List.set_set ..
 refine⟨rfl,tied_end (M:= []) ?_⟩
 rw[←e2]
 exact Aa SS
