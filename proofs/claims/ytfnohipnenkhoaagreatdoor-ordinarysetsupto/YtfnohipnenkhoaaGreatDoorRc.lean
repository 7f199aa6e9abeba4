import Derived.Test.YtfnohipnenkhoaaGreatDoorRb
set_option linter.all false
namespace Go.Proofs.YtfnohipnenkhoaaGreatDoor
set_option maxRecDepth 100000
set_option maxHeartbeats 0
section
open Go Go.Proofs Go.Maps Go.RowKit FM
attribute [local go_sem] Am Al Ar Ah Ao Ai Aw Do Dn Bq Aj Bo
def HP.Ac (h:HP):Prop:= ∃rk:Nat->Nat,∀(j i:Nat) (q:OB),h.l[j]? =some q->q.p.k=7->q.p.i=(i:Int)+1->rk i<rk j
inductive Rch (h:HP) (o:Nat):Nat->Prop
 |here:Rch h o o
 |step {x y:Nat} {q:OB}:h.l[x]? =some q->q.p.k=7->q.p.i=(y:Int)+1->Rch h o y->Rch h o x
theorem Rch.back {h:HP} {o x y:Nat} {q:OB} (hx:h.l[x]? =some q) (hk:q.p.k=7) (hi:q.p.i=(y:Int)+1) (hne:x≠o) (hr:Rch h o x):Rch h o y:=by
 cases hr with
 |here=>exact absurd rfl hne
 | @step _ z _ h1 h2 h3 h4=>
  rw[hx] at h1
  cases h1
  rw[hi] at h3
  obtain rfl:y=z:=by omega
  exact h4
theorem HP.Ac.low {h h1:HP} (A:h.Ac) (L:Low h h1):h1.Ac:=by
 obtain⟨rk,hr⟩:=A
 exact⟨rk,fun j i q hj=>hr j i q (by rw[←L.l];exact hj)⟩
theorem HP.Ac.same {h h1:HP} (A:h.Ac) (e: ∀(j:Nat) (q:OB),h1.l[j]? =some q-> ∃q',h.l[j]? =some q'/\q'.p=q.p):h1.Ac:=by
 obtain⟨rk,hr⟩:=A
 refine⟨rk,fun j i q hj hk hi=> ?_⟩
 obtain⟨q',h1,h2⟩:=e j q hj
 exact hr j i q' h1 (by rw[h2];exact hk) (by rw[h2];exact hi)
def HP.prot (h:HP) (j:Nat) (q:OB) (v:VV):HP:={h with l:=h.l.set j {q with p:=v}}
open Classical in
theorem HP.Ac.prot {h:HP} (A:h.Ac) {j:Nat} {q:OB} (hj:h.l[j]? =some q) (v:VV) (hv: ∀i:Nat,v.k=7->v.i=(i:Int)+1-> ¬Rch h j i):(h.prot j q v).Ac:=by
 obtain⟨rk,hr⟩:=A
 have hlt:=(List.getElem?_eq_some_iff.1 hj).1
 refine⟨fun x=>if Rch h j x then rk x+rk (v.i - 1).toNat+1 else rk x,fun x y r hx hk hi=> ?_⟩
 have hx':(h.l.set j {q with p:=v})[x]? =some r:=hx
 by_cases e:j=x
 ·subst e
  rw[List.getElem?_set_self hlt] at hx'
  cases hx'
  have hn:=hv y hk hi
  dsimp only
  rw[if_neg hn,if_pos (Rch.here)]
  have:(v.i - 1).toNat=y:=by
   have:v.i=(y:Int)+1:=hi
   omega
  rw[this]
  omega
 ·rw[List.getElem?_set_ne e] at hx'
  have h1:=hr x y r hx' hk hi
  dsimp only
  by_cases hR:Rch h j y
  ·rw[if_pos hR,if_pos (Rch.step hx' hk hi hR)]
   omega
  ·rw[if_neg hR,if_neg (fun h2=>hR (h2.back hx' hk hi (fun e2=>e e2.symm)))]
   exact h1
theorem cput_v (a b:VV):Bw a.cs 0 b.cs=b.cs:=by simp[Bw,VV.cs]
theorem leads_h (h:HP) (v:VV) (o:Nat) (w:World) (H:h.Is w) (K:h.Wf) (A:h.Ac) (hv:v.k=7->1<=v.i/\v.i<=(h.l.length:Int)):Calls Tryz.prog 171 #[.pointer (some ⟨h.b,0,none⟩),v.agg, .int .i64 ((o:Int)+1)] w fun e w'=> ∃b:Bool,e= .returned (.bool b)/\Below w.heap.size w w'/\(b=false-> ∀i:Nat,v.k=7->v.i=(i:Int)+1-> ¬Rch h o i):=by
 obtain⟨rk,hrk⟩:=A
 have HRK:=Ab hrk
 have SS:=Ab (Sy.nil w [])
 have HV:=Ab hv
 clear hrk hv
 rw[Db]
 go_enter Tryz.func171,Tryz.ntmps171
 go_wp2_with (first|go_skip|((with_reducible show wpList ..);(refine zB 36 (v.cs) (by rfl) rfl rfl rfl SS ?_;clear SS;intro Xa Ba SS;simp only[nn])))
 go_loopg [7] (rk (v.i - 1).toNat+1) (fun gm s7 wr=> ∃cv:VV,Hid (Sy w wr [] [Aq Ba cv.cs])/\Hid (cv.k=7->1<=cv.i/\cv.i<=(h.l.length:Int))/\Hid (∀i:Nat,cv.k=7->cv.i=(i:Int)+1->rk i+1<=gm)/\Hid ((∀i:Nat,cv.k=7->cv.i=(i:Int)+1-> ¬Rch h o i)-> ∀i:Nat,v.k=7->v.i=(i:Int)+1-> ¬Rch h o i))
 case atStart=>exact⟨v,SS,HV,Ab (fun i hk hi=>by rw[show (v.i - 1).toNat=i by omega];exact Nat.le_refl _),Ab (fun h=>h)⟩
 case round=>
  obtain⟨cv,S2,HC,HM,HE⟩:=hrel
  clear SS
  have SS:=S2
  clear S2
  by_cases hk:cv.k=7
  ·obtain⟨i,q,hi,hq⟩:=Oc (h:=h) (o:=cv.i) (by unfold Rm;simp;exact Aa HC hk)
   by_cases ho:cv.i=(o:Int)+1
   ·clear hi
    go_wp2_with (first|go_skip|((with_reducible show wpList ..);first|(refine rd rfl (Ad 3 Tryz.isAgg3 rfl rfl ((Aa SS).hold 0 rfl) rfl) ?_)|(refine rd rfl (Jb rfl rfl rfl hk) ?_)|(refine rd rfl (Eh rfl rfl rfl ho) ?_)))
    go_ret
    exact⟨true,rfl,(Aa SS).fr.below,fun h=>by cases h⟩
   ·have hne:i≠o:=fun e=>ho (by rw[hi,e])
    have hcl:q.c≠9:=by have:=(K.ob i q hq).c;omega
    have hm:=Aa HM i hk hi
    have HI:=Ab hi
    clear hi
    go_wp2_with (first|go_skip|((with_reducible show wpList ..);first|(refine rd rfl (Ad 3 Tryz.isAgg3 rfl rfl ((Aa SS).hold 0 rfl) rfl) ?_)|(refine rd rfl (Jb rfl rfl rfl hk) ?_)|(refine rd rfl (Jy rfl rfl rfl ho) ?_)))
    have HA:=Kg h i q _ (H.on (Aa SS).fr.below) hq K.ok.len
    rw[←Aa HI] at HA
    refine HA.mono ?_
    rintro _ _ ⟨rfl,rfl⟩
    have HO:=Ab ((H.on (Aa SS).fr.below).ob hq).1
    go_wp2_with (first|go_skip|((with_reducible show wpList ..);first|(refine rd rfl (Ad 3 Tryz.isAgg3 rfl rfl (Aa HO) rfl) ?_)|(refine rd rfl (Kk rfl rfl rfl hcl) ?_)|(refine rd rfl (Af (vs:=q.p.cs) 36 5 rwV szV rfl rfl (Aa HO) rfl rfl) ?_)|(refine zS (q.p.cs) 0 36 (by rfl) rfl rfl rfl rfl (Em _) szV SS rfl ?_;clear SS;intro Xz SS;simp only[nn])))
    have hs:=Aa SS
    simp only[List.set_cons_zero,cput_v] at hs
    go_roundg (gk - 1)
    case measure=>omega
    case rel=>exact⟨q.p,Ab hs,Ab ((K.ob i q hq).pi),Ab (fun i2 hk2 hi2=>by have:=Aa HRK i i2 q hq hk2 hi2;omega),Ab (fun h2=>Aa HE (fun i3 hk3 hi3 hR=>by
     have e3:i3=i:=by have:=Aa HI;omega
     subst e3
     cases hR with
     |here=>exact hne rfl
     |step a b c d=>
      rw[hq] at a
      cases a
      exact h2 _ b c d))⟩
  ·go_wp2_with (first|go_skip|((with_reducible show wpList ..);first|(refine rd rfl (Ad 3 Tryz.isAgg3 rfl rfl ((Aa SS).hold 0 rfl) rfl) ?_)|(refine rd rfl (Kk rfl rfl rfl hk) ?_)))
   go_ret
   exact⟨false,rfl,(Aa SS).fr.below,fun _=>Aa HE (fun i h1=>absurd h1 hk)⟩
end
section
open Go Go.Proofs Go.Maps Go.RowKit FM Tryz
attribute [local go_sem] Am Al Ar Ah Ao Ai Aw Do Dn Bq Aj Bo
def veqV (a b:VV):Bool:=decide (a.k=b.k) && (decide (a.b=b.b) && ((FloatKind.f64.format.order a.x b.x==some .eq) && (decide (a.s.toList=b.s.toList) && decide (a.i=b.i))))
theorem eqlV (a b:VV) (w:World):(binOp .eql 36 a.agg b.agg).run prog w= .ok (.bool (veqV a b)) w:=by
 unfold VV.agg veqV
 have ht:prog.underlying 36=some (.struct (prog.fieldsOf 36)):=by kernel_rfl
 have hf:prog.fieldsOf 36=(match prog.underlying 36 with|some (.struct f)=>f|_=> #[]):=by kernel_rfl
 rw[run_eql_struct,show (10000:Nat)=9998+1+1 from rfl,run_equalIn_struct _ _ _ _ _ ht (by kernel_rfl)]
 rw[hf,underlying36]
 have hc:=Nb (P:=prog) 9998 34 a.x b.x w underlying34
 generalize (FloatKind.f64.format.order a.x b.x==some .eq)=c at *
 simp[Op.eqFields,go_sem,part,hc]
 by_cases h1:a.k=b.k<;>by_cases h2:a.b=b.b<;>cases c<;>by_cases h3:a.s.toList=b.s.toList<;>by_cases h4:a.i=b.i<;>simp[h1,h2,h3,h4]
theorem ex_eqV {o:Oper} {a:Act} {w:World} {x y:Operand} {p q:VV} (ho:o.op= .binOp .eql 36 x y 36) (hx:a.eval x= .agg p.cs.toArray) (hc:a.eval y= .agg q.cs.toArray):(execOp a.eval o).run prog w= .ok (.value (.bool (veqV p q))) w:=by
 have h2:=eqlV p q w
 rw[Db,Db] at h2
 unfold execOp
 simp only[ho,hx,hc]
 simp[eqGuard,h2]
def SpP (h:HP) (j:Nat) (q:OB) (v:VV) (h1:HP) (y:Bool):Prop:=h1=h∨(y=true/\h1=h.prot j q v/\q.x=true/\ ∀i:Nat,v.k=7->v.i=(i:Int)+1-> ¬Rch h j i)
theorem ZbT {o:Oper} {a:Act} {w:World} {x y:Operand} {p q:VV} {r:Bool} (ho:o.op= .binOp .eql 36 x y 36) (hx:a.eval x= .agg p.cs.toArray) (hc:a.eval y= .agg q.cs.toArray) (h:veqV p q=r):(execOp a.eval o).run prog w= .ok (.value (.bool r)) w:=h▸ex_eqV ho hx hc
theorem cput_p (q:OB) (v:VV):Bw q.cs 1 v.cs=({q with p:=v}:OB).cs:=by simp[Bw,OB.cs,VV.cs]
theorem ZbA (h:HP) (j:Nat) (q:OB) (v:VV) (w:World) (H:h.Is w) (K:h.Wf) (A:h.Ac) (hj:h.l[j]? =some q) (hv:v.k=7->1<=v.i/\v.i<=(h.l.length:Int)):Calls prog 162 #[.agg #[], .pointer (some ⟨h.b,0,none⟩), .int .i64 ((j:Int)+1),v.agg] w fun e w'=> ∃(h1:HP) (y:Bool),e= .returned (.tuple #[.bool y, .nilIface])/\SpP h j q v h1 y/\h.To h1 w w':=by
 obtain⟨z,hve⟩: ∃z,veqV v q.p=z:=⟨_,rfl⟩
 cases z
 ·obtain⟨x,hx⟩: ∃x,q.x=x:=⟨_,rfl⟩
  cases x
  ·have SS:=Ab H.start
   rw[Db]
   go_enter func162,ntmps162
   go_wp2_with (first|go_skip|((with_reducible show wpList ..);first|((refine bx0 91 (by rfl) rfl rfl (Aa SS) ?_);intro X0 B0 S0;replace SS:=Ab S0;clear S0;simp only[nn])|(refine zB 36 (v.cs) (by rfl) rfl rfl rfl SS ?_;clear SS;intro Xa Ba SS;simp only[nn])))
   refine(Kg h j q _ ((Aa SS).hp 0 rfl) hj K.ok.len).mono ?_
   rintro _ _ ⟨rfl,rfl⟩
   go_wp2
   have hS:Sy w _ h.blocks [hpO h,Aq Ba v.cs]:=(Aa SS).drew
   clear SS
   refine wp_region_held_drew (P:=prog) (S:=fun X=>Sy w X h.blocks _) (by kernel_rfl) (hS) (fun hS0=> ?_)
   refine gq 0 (some 14) (.agg v.cs.toArray) rfl rfl (fun X hX=>Af (vs:=v.cs) 36 5 rwV szV rfl rfl (hX.hold 1 rfl) rfl rfl) (hS) ?_
   refine gp 1 (some 15) (.pointer (some ⟨q.b,0,none⟩)) rfl rfl (hS) ?_
   refine gp 2 (some 16) (.pointer (some ⟨q.b,0,none⟩)) rfl rfl (hS) ?_
   refine gp 3 (some 17) (.pointer (some ⟨q.b,1,none⟩)) rfl rfl (hS) ?_
   refine gq 4 (some 18) (.agg q.p.cs.toArray) rfl rfl (fun X hX=>Af (vs:=q.p.cs) 36 5 rwV szV rfl rfl ((hX.hp 0 rfl).ob hj).1 rfl rfl) (hS) ?_
   refine gq 5 (some 19) (.bool false) rfl rfl (fun X hX=>ZbT rfl rfl rfl hve) (hS) ?_
   refine wpAnyH_done (by kernel_rfl) ?_ _
   try simp only[nn]
   have SS:=Ab hS
   have HO:=Ab (((Aa SS).hp 0 rfl).ob hj).1
   skip
   go_wp2_with (first|go_skip|((with_reducible show wpList ..);(refine rd rfl (Ad (v:= .bool false) 4 isAgg4 rfl rfl (Aa HO) (by simp[OB.cs,VV.cs,hx])) ?_)))
   go_ret2
   exact⟨h,false,rfl, .inl rfl,HP.To.end H (Aa SS) rfl⟩
  ·have SS:=Ab H.start
   rw[Db]
   go_enter func162,ntmps162
   go_wp2_with (first|go_skip|((with_reducible show wpList ..);first|((refine bx0 91 (by rfl) rfl rfl (Aa SS) ?_);intro X0 B0 S0;replace SS:=Ab S0;clear S0;simp only[nn])|(refine zB 36 (v.cs) (by rfl) rfl rfl rfl SS ?_;clear SS;intro Xa Ba SS;simp only[nn])))
   refine(Kg h j q _ ((Aa SS).hp 0 rfl) hj K.ok.len).mono ?_
   rintro _ _ ⟨rfl,rfl⟩
   go_wp2
   have hS:Sy w _ h.blocks [hpO h,Aq Ba v.cs]:=(Aa SS).drew
   clear SS
   refine wp_region_held_drew (P:=prog) (S:=fun X=>Sy w X h.blocks _) (by kernel_rfl) (hS) (fun hS0=> ?_)
   refine gq 0 (some 14) (.agg v.cs.toArray) rfl rfl (fun X hX=>Af (vs:=v.cs) 36 5 rwV szV rfl rfl (hX.hold 1 rfl) rfl rfl) (hS) ?_
   refine gp 1 (some 15) (.pointer (some ⟨q.b,0,none⟩)) rfl rfl (hS) ?_
   refine gp 2 (some 16) (.pointer (some ⟨q.b,0,none⟩)) rfl rfl (hS) ?_
   refine gp 3 (some 17) (.pointer (some ⟨q.b,1,none⟩)) rfl rfl (hS) ?_
   refine gq 4 (some 18) (.agg q.p.cs.toArray) rfl rfl (fun X hX=>Af (vs:=q.p.cs) 36 5 rwV szV rfl rfl ((hX.hp 0 rfl).ob hj).1 rfl rfl) (hS) ?_
   refine gq 5 (some 19) (.bool false) rfl rfl (fun X hX=>ZbT rfl rfl rfl hve) (hS) ?_
   refine wpAnyH_done (by kernel_rfl) ?_ _
   try simp only[nn]
   have SS:=Ab hS
   have HO:=Ab (((Aa SS).hp 0 rfl).ob hj).1
   go_wp2_with (first|go_skip|((with_reducible show wpList ..);first|(refine rd rfl (Ad (v:= .bool true) 4 isAgg4 rfl rfl (Aa HO) (by simp[OB.cs,VV.cs,hx])) ?_)|(refine zL (v.cs) 36 5 1 rwV szV (by rfl) rfl rfl SS rfl rfl rfl ?_;simp only[nn])))
   have HC:=leads_h h v j _ ((Aa SS).hp 0 rfl) K A hv
   rw[Db] at HC
   refine HC.mono ?_
   rintro _ Y ⟨b,rfl,hb,hR⟩
   replace SS:=Ab ((Aa SS).on hb)
   clear hb HC
   cases b
   ·have HR:=Ab (hR rfl)
    clear hR
    go_wp2_with (first|go_skip|((with_reducible show wpList ..);first|(refine zL (v.cs) 36 5 1 rwV szV (by rfl) rfl rfl SS rfl rfl rfl ?_;simp only[nn])|((refine stO (vs:=v.cs) (h.prot j q v) (j:=j) (q:=q) (q':={q with p:=v}) 0 36 (by rfl) rfl rfl rfl rfl (Em _) szV (Aa SS) rfl hj (by simp[VV.cs]) rfl rfl rfl rfl rfl (cput_p q v) ?_);intro X1 S1;replace SS:=Ab S1;clear S1;simp only[nn])))
    go_ret2
    exact⟨h.prot j q v,true,rfl, .inr ⟨rfl,rfl,hx,Aa HR⟩,HP.To.end H (Aa SS) rfl⟩
   ·go_wp2
    go_ret2
    exact⟨h,false,rfl, .inl rfl,HP.To.end H (Aa SS) rfl⟩
 ·have SS:=Ab H.start
  rw[Db]
  go_enter func162,ntmps162
  go_wp2_with (first|go_skip|((with_reducible show wpList ..);first|((refine bx0 91 (by rfl) rfl rfl (Aa SS) ?_);intro X0 B0 S0;replace SS:=Ab S0;clear S0;simp only[nn])|(refine zB 36 (v.cs) (by rfl) rfl rfl rfl SS ?_;clear SS;intro Xa Ba SS;simp only[nn])))
  refine(Kg h j q _ ((Aa SS).hp 0 rfl) hj K.ok.len).mono ?_
  rintro _ _ ⟨rfl,rfl⟩
  go_wp2
  have hS:Sy w _ h.blocks [hpO h,Aq Ba v.cs]:=(Aa SS).drew
  clear SS
  refine wp_region_held_drew (P:=prog) (S:=fun X=>Sy w X h.blocks _) (by kernel_rfl) (hS) (fun hS0=> ?_)
  refine gq 0 (some 14) (.agg v.cs.toArray) rfl rfl (fun X hX=>Af (vs:=v.cs) 36 5 rwV szV rfl rfl (hX.hold 1 rfl) rfl rfl) (hS) ?_
  refine gp 1 (some 15) (.pointer (some ⟨q.b,0,none⟩)) rfl rfl (hS) ?_
  refine gp 2 (some 16) (.pointer (some ⟨q.b,0,none⟩)) rfl rfl (hS) ?_
  refine gp 3 (some 17) (.pointer (some ⟨q.b,1,none⟩)) rfl rfl (hS) ?_
  refine gq 4 (some 18) (.agg q.p.cs.toArray) rfl rfl (fun X hX=>Af (vs:=q.p.cs) 36 5 rwV szV rfl rfl ((hX.hp 0 rfl).ob hj).1 rfl rfl) (hS) ?_
  refine gq 5 (some 19) (.bool true) rfl rfl (fun X hX=>ZbT rfl rfl rfl hve) (hS) ?_
  refine wpAnyH_done (by kernel_rfl) ?_ _
  try simp only[nn]
  have SS:=Ab hS
  go_wp2
  go_ret2
  exact⟨h,true,rfl, .inl rfl,HP.To.end H (Aa SS) rfl⟩
