import Derived.Test.YtfnohipnenkhoaaGreatDoorRx
import Derived.Test.YtfnohipnenkhoaaGreatDoorRows
import Derived.ProofKit
import Derived.OpenShut
import Derived.ChangeArms
import Derived.ChangeSame
import Derived.Deep.Slices
import Derived.Laws.IdiomArrays
set_option linter.all false
namespace Go.Proofs.YtfnohipnenkhoaaGreatDoor
set_option maxRecDepth 100000
set_option maxHeartbeats 0
section
open Go Go.Proofs Go.Maps Go.RowKit FM
attribute [local go_sem] Am Al Ar Ah Ao Ai Aw Do Dn Bq Aj Bo
theorem actAt {X:World} {base e n b off c i:Nat} {fs:List AT} {t:AT} (h:X.ownsRow base e 59 (.slice (some ⟨b,off,none⟩) n c) n (fs.flatMap actC)) (hn:fs.length=n) (hx:fs[i]? =some t):X.rangeAt b (off+i * 59) (actC t):=by
 obtain⟨b2,o2,h1, -,h3⟩:=Om ZaG h hn i t hx
 cases h1
 exact h3
theorem ex_neP {o:Oper} {a:Act} {w:World} {x:Operand} {B:Nat} (ho:o.op= .binOp .eql 27 x (.const (.pointer none)) 27) (hx:a.eval x= .pointer (some ⟨B,0,none⟩)):(execOp a.eval o).run Tryz.prog w= .ok (.value (.bool false)) w:=by
 unfold execOp
 simp only[ho,hx,show a.eval (.const (.pointer none))= .pointer none from rfl]
 simp[go_sem,eqGuard]
end
section
open Go Go.Proofs Go.Maps Go.RowKit FM Tryz
attribute [local go_sem] Am Al Ar Ah Ao Ai Aw Do Dn Bq Aj Bo
theorem th_of_good {v:VV} (h:v.good=true):thV v=true/\(v.k !=0)=true:=by
 have hk:(v.k !=0)=true:=by
  obtain⟨k,b,x,s,i⟩:=v
  rcases Gt h with⟨rfl,_⟩|⟨rfl,_⟩|⟨rfl,_⟩|⟨rfl,_⟩|⟨rfl,_⟩|⟨rfl,_⟩|⟨rfl,_⟩ <;> rfl
 refine⟨?_,hk⟩
 unfold thV
 have:(v.k==0)=false:=by simpa using hk
 rw[this]
 rfl
theorem ba_inj {s t:ByteArray} (h:s.toList=t.toList):s=t:=by
 rw[Lib.toList_data,Lib.toList_data] at h
 cases s;cases t
 simp only[ByteArray.mk.injEq]
 exact Array.toList_inj.1 h
theorem eql48 (a b:KK) (w:World):(binOp .eql 48 a.agg b.agg).run prog w= .ok (.bool (decide (a=b))) w:=by
 unfold KK.agg
 have ht:prog.underlying 48=some (.struct (prog.fieldsOf 48)):=by kernel_rfl
 rw[run_eql_struct,show (10000:Nat)=9998+1+1 from rfl,run_equalIn_struct _ _ _ _ _ ht (by kernel_rfl)]
 have hf:prog.fieldsOf 48=(match prog.underlying 48 with|some (.struct f)=>f|_=> #[]):=by kernel_rfl
 rw[hf,underlying48]
 simp[Op.eqFields,go_sem,part]
 by_cases h1:a.s.toList=b.s.toList
 ·by_cases h2:a.n=b.n
  ·rw[if_pos h1,if_pos h2,decide_eq_true (KK.ext' (ba_inj h1) h2)]
  ·rw[if_pos h1,if_neg h2,decide_eq_false (fun e:a=b=>h2 (congrArg KK.n e))]
 ·rw[if_neg h1,decide_eq_false (fun e:a=b=>h1 (congrArg (fun z:KK=>z.s.toList) e))]
theorem neq48 (a b:KK) (w:World):(binOp .neq 48 a.agg b.agg).run prog w= .ok (.bool (!decide (a=b))) w:=by
 unfold KK.agg
 have ht:prog.underlying 48=some (.struct (prog.fieldsOf 48)):=by kernel_rfl
 rw[run_neq_struct,show (10000:Nat)=9998+1+1 from rfl,run_equalIn_struct _ _ _ _ _ ht (by kernel_rfl)]
 have hf:prog.fieldsOf 48=(match prog.underlying 48 with|some (.struct f)=>f|_=> #[]):=by kernel_rfl
 rw[hf,underlying48]
 simp[Op.eqFields,go_sem,part]
 by_cases h1:a.s.toList=b.s.toList
 ·by_cases h2:a.n=b.n
  ·rw[if_pos h1,if_pos h2,decide_eq_true (KK.ext' (ba_inj h1) h2)];rfl
  ·rw[if_pos h1,if_neg h2,decide_eq_false (fun e:a=b=>h2 (congrArg KK.n e))];rfl
 ·rw[if_neg h1,decide_eq_false (fun e:a=b=>h1 (congrArg (fun z:KK=>z.s.toList) e))];rfl
theorem ex_keq {o:Oper} {a:Act} {w:World} {x y:Operand} (k q:KK) (b:Bool) (ho:o.op= .binOp .eql 48 x y 48) (hx:a.eval x= .agg k.cs.toArray) (hy:a.eval y= .agg q.cs.toArray) (hb:decide (k=q)=b):(execOp a.eval o).run prog w= .ok (.value (.bool b)) w:=by
 have e:=eql48 k q w
 rw[Ds,Ds,hb] at e
 unfold execOp
 simp only[ho,hx,hy]
 simp[eqGuard,e]
theorem Zel {o:Oper} {a:Act} {w:World} {x y:Operand} (k q:KK) (b:Bool) (ho:o.op= .binOp .neq 48 x y 48) (hx:a.eval x= .agg k.cs.toArray) (hy:a.eval y= .agg q.cs.toArray) (hb:(!decide (k=q))=b):(execOp a.eval o).run prog w= .ok (.value (.bool b)) w:=by
 have e:=neq48 k q w
 rw[Ds,Ds,hb] at e
 unfold execOp
 simp only[ho,hx,hy]
 simp[eqGuard,e]
theorem lk_hit {l:List (KK×DD)} {k:KK} {i:Nat} {x:KK×DD} (h: ∀(j:Nat) (e:KK×DD),j<i->l[j]? =some e->e.1≠k) (hx:l[i]? =some x) (hk:x.1=k):lkP l k=some x.2:=by
 induction l generalizing i with
 |nil=>simp at hx
 |cons a l ih=>
  cases i with
  |zero=>
   obtain rfl:a=x:=by simpa using hx
   simp[lkP,hk]
  |succ i=>
   have h0:a.1≠k:=h 0 a (by omega) rfl
   have h1:=ih (i:=i) (fun j e hj he=>h (j+1) e (by omega) (by simpa using he)) (by simpa using hx)
   unfold lkP at h1 ⊢
   rw[List.find?_cons_of_neg (by simpa using h0)]
   exact h1
theorem lk_miss {l:List (KK×DD)} {k:KK} (h: ∀(j:Nat) (e:KK×DD),l[j]? =some e->e.1≠k):lkP l k=none:=by
 unfold lkP
 rw[List.find?_eq_none.2 (fun e he=>by
  obtain⟨j,hj⟩:=List.getElem?_of_mem he
  simpa using h j e hj)]
 rfl
theorem lies_h (s:PO) (A:Option Addr) (c:Nat) (k:KK) (w:World) (hz:s.ps.length<=1000000) (hR:ReadsP w A s.ps):Calls prog 14 #[.agg (shC s (.slice A s.ps.length c)).toArray,k.agg] w fun e w'=>e= .returned (((lkP s.ps k).getD Ak).agg)/\Below w.heap.size w w':=by
 have SS:=Ab (Sy.nil w [])
 rw[Ds]
 go_enter func14,ntmps14
 go_wp2_with (first|go_skip|((with_reducible show wpList ..);first|((with_reducible show qI ..);(refine zB 66 (shC s (.slice A s.ps.length c)) (by rfl) rfl rfl rfl SS ?_;clear SS;intro Xa Ba SS;simp only[nn]))|((with_reducible show qI ..);(refine zB 48 (k.cs) (by rfl) rfl rfl rfl SS ?_;clear SS;intro Xb Bb SS;simp only[nn]))|((with_reducible show qF ..);(refine zA 39 (Ak.cs) (by rfl) rfl SS ?_;clear SS;intro Xc Bc SS;simp only[nn]))))
 go_loopg [5] s.ps.length (fun gm s5 wr=> ∃i:Nat,s5= .int .i64 (i:Nat)/\i<=s.ps.length/\s.ps.length - i<=gm/\Hid (∀(j:Nat) (e:KK×DD),j<i->s.ps[j]? =some e->e.1≠k)/\Hid (Sy w wr [] [Aq Ba (shC s (.slice A s.ps.length c)),Aq Bb k.cs,Aq Bc Ak.cs]))
 case atStart=>exact⟨0,rfl,by omega,by omega,Ab (fun j e hj=>by omega),SS⟩
 case round=>
  clear SS
  obtain⟨i,rfl,hil,hgm,HJ,SS⟩:=hrel
  by_cases hlt:i<s.ps.length
  ·obtain⟨x,hx⟩: ∃x,s.ps[i]? =some x:=⟨_,List.getElem?_eq_getElem hlt⟩
   obtain⟨b1,o1,rfl,hb1,hr1⟩:=hR i x hx
   have HR1: ∀X,Sy w X [] [Aq Ba (shC s (.slice (some ⟨b1,o1,none⟩) s.ps.length c)),Aq Bb k.cs,Aq Bc Ak.cs]->X.rangeAt b1 (o1+i * 20) (x.1.cs++x.2.cs):=fun X hX=>Dj hr1 hb1 hX.fr.below
   have dlt:decide ((i:Int)<(s.ps.length:Int))=true:=decide_eq_true (by omega)
   have hw1:IntKind.i64.wrap ((i:Int)+1)=(i:Int)+1:=by rw[IntKind.wrap_i64];omega
   have HX:=Ab hx
   have HLT:=Ab hlt
   clear hx hlt hr1
   by_cases hke:x.1=k
   ·have dK:decide (x.1=k)=true:=decide_eq_true hke
    go_wp2_with (first|go_skip|((with_reducible show wpList ..);first|((with_reducible show qA ..);(refine rd rfl (Ad 52 isAgg52 rfl rfl ((Aa SS).hold 0 rfl) rfl) ?_))|((with_reducible show qD ..);(refine rd rfl (Bi 52 69 underlying52 rfl rfl) ?_))))
    have hS4:Sy w _ [] [Aq Ba (shC s (.slice (some ⟨b1,o1,none⟩) s.ps.length c)),Aq Bb k.cs,Aq Bc Ak.cs]:=(Aa SS).drew
    clear SS
    refine wp_region_held_drew (P:=prog) (S:=fun X=>Sy w X [] _) (by kernel_rfl) (hS4) (fun hS0=> ?_)
    refine gp 0 (some 13) (.pointer (some ⟨Ba,7,none⟩)) rfl rfl (hS4) ?_
    refine gq 1 (some 14) (.slice (some ⟨b1,o1,none⟩) s.ps.length c) rfl rfl (fun X hX=>Ad 52 isAgg52 rfl rfl (hX.hold 0 rfl) rfl) (hS4) ?_
    refine gp 2 (some 15) (.int .i64 (i:Nat)) rfl rfl (hS4) ?_
    refine gq 3 (some 16) (.pointer (some ⟨b1,o1+i * 20,none⟩)) rfl rfl (fun X hX=>Az 52 20 i Oz Pa rfl rfl rfl (Aa HLT)) (hS4) ?_
    refine gp 4 (some 17) (.pointer (some ⟨b1,o1+i * 20,none⟩)) rfl rfl (hS4) ?_
    refine gq 5 (some 18) (.agg x.1.cs.toArray) rfl rfl (fun X hX=>By (vs:=x.1.cs) 48 2 rwK szK rfl rfl (Lw (HR1 _ hX)) rfl) (hS4) ?_
    refine gq 6 (some 19) (.agg k.cs.toArray) rfl rfl (fun X hX=>Af (vs:=k.cs) 48 2 rwK szK rfl rfl (hX.hold 1 rfl) rfl rfl) (hS4) ?_
    refine gq 7 (some 20) (.bool true) rfl rfl (fun X hX=>ex_keq x.1 k _ rfl rfl rfl dK) (hS4) ?_
    refine wpAnyH_done (by kernel_rfl) ?_ _
    try simp only[nn]
    have SS:=Ab hS4
    go_wp2_with (first|go_skip|((with_reducible show wpList ..);first|((with_reducible show qA ..);(refine rd rfl (Ad 52 isAgg52 rfl rfl ((Aa SS).hold 0 rfl) rfl) ?_))|((with_reducible show qG ..);(refine rd rfl (Az 52 20 i Oz Pa rfl rfl rfl (Aa HLT)) ?_))|((with_reducible show qA ..);(refine rd rfl (By (vs:=x.2.cs) 39 18 rwD szD rfl rfl (Mc (HR1 _ (Aa SS))) rfl) ?_))|((with_reducible show qE ..);(refine zS (x.2.cs) 2 39 (by rfl) rfl rfl rfl rfl (Ek _) szD SS rfl ?_;clear SS;intro Xz SS;simp only[nn]))))
    refine Jf rwD szD rfl rfl rfl ((Aa SS).hold 2 rfl) rfl ?_
    rw[lk_hit (Aa HJ) (Aa HX) hke]
    exact⟨rfl,(Aa SS).fr.below⟩
   ·have dK:decide (x.1=k)=false:=decide_eq_false hke
    go_wp2_with (first|go_skip|((with_reducible show wpList ..);first|((with_reducible show qA ..);(refine rd rfl (Ad 52 isAgg52 rfl rfl ((Aa SS).hold 0 rfl) rfl) ?_))|((with_reducible show qD ..);(refine rd rfl (Bi 52 69 underlying52 rfl rfl) ?_))))
    have hS4:Sy w _ [] [Aq Ba (shC s (.slice (some ⟨b1,o1,none⟩) s.ps.length c)),Aq Bb k.cs,Aq Bc Ak.cs]:=(Aa SS).drew
    clear SS
    refine wp_region_held_drew (P:=prog) (S:=fun X=>Sy w X [] _) (by kernel_rfl) (hS4) (fun hS0=> ?_)
    refine gp 0 (some 13) (.pointer (some ⟨Ba,7,none⟩)) rfl rfl (hS4) ?_
    refine gq 1 (some 14) (.slice (some ⟨b1,o1,none⟩) s.ps.length c) rfl rfl (fun X hX=>Ad 52 isAgg52 rfl rfl (hX.hold 0 rfl) rfl) (hS4) ?_
    refine gp 2 (some 15) (.int .i64 (i:Nat)) rfl rfl (hS4) ?_
    refine gq 3 (some 16) (.pointer (some ⟨b1,o1+i * 20,none⟩)) rfl rfl (fun X hX=>Az 52 20 i Oz Pa rfl rfl rfl (Aa HLT)) (hS4) ?_
    refine gp 4 (some 17) (.pointer (some ⟨b1,o1+i * 20,none⟩)) rfl rfl (hS4) ?_
    refine gq 5 (some 18) (.agg x.1.cs.toArray) rfl rfl (fun X hX=>By (vs:=x.1.cs) 48 2 rwK szK rfl rfl (Lw (HR1 _ hX)) rfl) (hS4) ?_
    refine gq 6 (some 19) (.agg k.cs.toArray) rfl rfl (fun X hX=>Af (vs:=k.cs) 48 2 rwK szK rfl rfl (hX.hold 1 rfl) rfl rfl) (hS4) ?_
    refine gq 7 (some 20) (.bool false) rfl rfl (fun X hX=>ex_keq x.1 k _ rfl rfl rfl dK) (hS4) ?_
    refine wpAnyH_done (by kernel_rfl) ?_ _
    try simp only[nn]
    have SS:=Ab hS4
    go_wp2
    go_roundg (s.ps.length - (i+1))
    case measure=>omega
    case rel=>exact⟨i+1,by go_num,by have:=Aa HLT;omega,by omega,Ab (fun j e hj he=>by
     rcases Nat.lt_or_ge j i with h1|h1
     ·exact Aa HJ j e h1 he
     ·obtain rfl:j=i:=by omega
      rw[Aa HX] at he
      cases he
      exact hke),SS⟩
  ·obtain rfl:i=s.ps.length:=by omega
   go_wp2_with (first|go_skip|((with_reducible show wpList ..);first|((with_reducible show qA ..);(refine rd rfl (Ad 52 isAgg52 rfl rfl ((Aa SS).hold 0 rfl) rfl) ?_))|((with_reducible show qD ..);(refine rd rfl (Bi 52 69 underlying52 rfl rfl) ?_))|(refine rd rfl (Uy rfl) ?_)|((with_reducible show qE ..);(refine zS (Ak.cs) 2 39 (by rfl) rfl rfl rfl rfl (Ek _) szD SS rfl ?_;clear SS;intro Xz SS;simp only[nn]))))
   refine Jf rwD szD rfl rfl rfl ((Aa SS).hold 2 rfl) rfl ?_
   rw[lk_miss (fun j e he=>Aa HJ j e (List.getElem?_eq_some_iff.1 he).1 he)]
   exact⟨rfl,(Aa SS).fr.below⟩
theorem lk_put (l:List (KK×DD)) (k:KK) (d:DD) (k2:KK):lkP (Qx l k d) k2=if k2=k then some d else lkP l k2:=by
 unfold Qx
 by_cases hh:ZbO l k=true
 ·rw[if_pos hh]
  induction l with
  |nil=>simp[ZbO] at hh
  |cons a l ih=>
   unfold lkP at ih ⊢
   rw[List.map_cons]
   by_cases ha:a.1=k
   ·rw[if_pos ha]
    by_cases h2:k2=k
    ·rw[if_pos h2,List.find?_cons_of_pos (by simp[ha,h2])]
     rfl
    ·rw[if_neg h2,List.find?_cons_of_neg (by simp only[decide_eq_true_eq];rw[ha];exact fun e=>h2 e.symm),List.find?_cons_of_neg (by simp only[decide_eq_true_eq];rw[ha];exact fun e=>h2 e.symm)]
     by_cases hl:ZbO l k=true
     ·have:=ih hl
      rw[if_neg h2] at this
      exact this
     ·have:l.map (fun e=>if e.1=k then (e.1,d) else e)=l:=by
       exact(List.map_congr_left (g:=fun x=>x) (fun e he=>if_neg (fun h9=>hl (List.any_eq_true.2 ⟨e,he,by simpa using h9⟩)))).trans (by simp)
      rw[this]
   ·rw[if_neg ha]
    have hl:ZbO l k=true:=by
     unfold ZbO at hh ⊢
     simpa [ha] using hh
    have h3:=ih hl
    by_cases h4:a.1=k2
    ·rw[List.find?_cons_of_pos (by simpa using h4),List.find?_cons_of_pos (by simpa using h4),if_neg (fun h5=>ha (h4.trans h5))]
    ·rw[List.find?_cons_of_neg (by simpa using h4),List.find?_cons_of_neg (by simpa using h4)]
     exact h3
 ·rw[if_neg hh]
  unfold lkP
  rw[List.find?_append]
  by_cases h2:k2=k
  ·subst h2
   rw[if_pos rfl,List.find?_eq_none.2 (fun e he h9=>hh (List.any_eq_true.2 ⟨e,he,h9⟩))]
   simp
  ·rw[if_neg h2,List.find?_cons_of_neg (by simpa using fun e=>h2 e.symm)]
   simp
theorem set_true {h h1:HP} {r:VV} {k:KK} {v:VV} {er:Value} (hg:v.good=true) (S:SetP h r k v h1 true er): ∃(i:Nat) (s:PO) (D:DD),r.k=7/\r.i=(i:Int)+1/\h.abs[i]? =some s/\h1.abs=h.abs.set i {s with ps:=Qx s.ps k D}/\D.v=v:=by
 rcases S with ⟨hy, -⟩|⟨i,qr,hk,hi,hq,hW⟩
 ·cases hy
 rcases hW with ⟨hy, -⟩|⟨-, -,d,T',hd,hB,hL, -,hpr⟩
 ·cases hy
 have hv:d.v=v:=by rcases hd with ⟨rfl, -⟩|⟨rfl, -⟩<;>rfl
 refine⟨i,qr.po,Ec qr.x (getD qr.T k) d,hk,hi,abs_at hq, ?_, ?_⟩
 ·unfold HP.abs
  rw[hL.l]
  show List.map OB.po (h.l.set i {qr with T:=T'})=_
  rw[List.map_set]
  show (h.l.map OB.po).set i ⟨qr.c,qr.p,qr.x,pr T'⟩=_
  rw[hpr]
  rfl
 ·have T:=(ZcV hB).2.1
  rw[←hv]
  exact T.v (by rw[hv];exact(th_of_good hg).1)
theorem ZeI {h h1:HP} {r:VV} {k:KK} {v:VV} {y:Bool} (S:SetQ h r k v h1 y) (hy:y=false):h1.abs=h.abs:=by
 subst hy
 have low: ∀{h1:HP},Low h h1->h1.abs=h.abs:=fun L=>by unfold HP.abs;rw[L.l]
 rcases S with ⟨-,rfl⟩|⟨-,er,⟨-,L, -⟩|⟨i,qr, -, -, -,⟨-,L, -⟩|⟨hy, -⟩⟩⟩
 ·rfl
 ·exact low L
 ·exact low L
 ·cases hy
theorem ex_ldY {o:Oper} {a:Act} {W:World} {x:Operand} {B:Nat} {n:AN} (b:Bool) (hy:n.y=b) (ho:o.op= .load 4 x) (hx:a.eval x= .pointer (some ⟨B,5,none⟩)) (hc:Holds W B (Bw (Bl Ay) 0 (Bl n))):(execOp a.eval o).run prog W= .ok (.value (.bool b)) W:=Ad 4 isAgg4 ho hx hc (by subst hy;rfl)
theorem Qw {o:Oper} {a:Act} {w:World} {x y:Operand} {n m r:Int} (ho:o.op= .binOp .sub 3 x y 3) (hx:a.eval x= .int .i64 n) (hc:a.eval y= .int .i64 m) (h:IntKind.i64.wrap (n - m)=r):(execOp a.eval o).run prog w= .ok (.value (.int .i64 r)) w:=by
 subst h
 unfold execOp
 simp only[ho,hx,hc]
 simp[go_sem,eqGuard]
theorem ex_lssF {o:Oper} {a:Act} {w:World} {x y:Operand} {n m:Int} (ho:o.op= .binOp .lss 3 x y 3) (hx:a.eval x= .int .i64 n) (hc:a.eval y= .int .i64 m) (h: ¬n<m):(execOp a.eval o).run prog w= .ok (.value (.bool false)) w:=by
 unfold execOp
 simp only[ho,hx,hc]
 simp[go_sem,eqGuard,h]
theorem ex_gtrF {o:Oper} {a:Act} {w:World} {x y:Operand} {n m:Int} (ho:o.op= .binOp .gtr 3 x y 3) (hx:a.eval x= .int .i64 n) (hc:a.eval y= .int .i64 m) (h: ¬m<n):(execOp a.eval o).run prog w= .ok (.value (.bool false)) w:=by
 unfold execOp
 simp only[ho,hx,hc]
 simp[go_sem,eqGuard,h]
theorem putP_len (l:List (KK×DD)) (k:KK) (d:DD):l.length<=(Qx l k d).length:=by
 unfold Qx
 split
 ·rw[List.length_map];exact Nat.le_refl _
 ·rw[List.length_append];exact Nat.le_add_right _ _
theorem ZeV {T:TT} {X:World} (H:T.Is X) {e:KK×DD} (he:e∈pr T):lkP (pr T) e.1=some e.2:=by
 have hp:(pr T).Pairwise (fun a b=>a.1≠b.1):=by
  unfold pr
  rw[List.pairwise_map]
  exact H.keys
 obtain⟨i,hi⟩:=List.getElem?_of_mem he
 refine lk_hit (fun j e2 hj he2=> ?_) hi rfl
 have h1:=(List.getElem?_eq_some_iff.1 he2)
 have h2:=(List.getElem?_eq_some_iff.1 hi)
 have:=List.pairwise_iff_getElem.1 hp j i h1.1 h2.1 hj
 rw[h1.2,h2.2] at this
 exact this
theorem sets_l (hAw: ∀w,Tabs w->6<=w.heap.size->Calls prog 5 #[] w fun e w'=>e= .returned (.bool true)/\Below w.heap.size w w') (c f d:Int) (A:Option Addr) (cp:Nat) (ts:List AT) (w:World) (hT:Tabs w) (hz:ts.length<=1000000) (hone: ∀t∈ts,∀u∈actC t,u.oneCell'=true) (hR:ReadsG actC 59 w A ts) (h6:6<=w.heap.size) (hf1:f<=9223372036854775807) (hok: ∀t∈ts,t.Ok/\t.ds.length<=43800/\ ∀X,Below w.heap.size w X->t.Reads X):Calls prog 4 #[.agg (Oh c f d (.slice A ts.length cp)).toArray] w fun e w'=>e= .returned (.bool true)/\Below w.heap.size w w':=by
 have SS:=Ab (Sy.nil w [])
 go_enter func4,ntmps4
 go_wp2_with (first|go_skip|((with_reducible show wpList ..);first|((with_reducible show qI ..);(refine zB 24 (Oh c f d (.slice A ts.length cp)) (by rfl) rfl rfl rfl SS ?_;clear SS;intro Xa Ba SS;simp only[nn]))))
 refine(hAw _ (hT.fr (Aa SS).fr (by simp)) (Nat.le_trans h6 (Aa SS).fr.size)).mono ?_
 rintro _ Y0 ⟨rfl,hY0⟩
 replace SS:=Ab ((Aa SS).on hY0)
 clear hY0
 go_wp2_with (first|go_skip|((with_reducible show wpList ..);first|((with_reducible show qA ..);(refine zL (Oh c f d (.slice A ts.length cp)) 24 4 0 rwW szW (by rfl) rfl rfl SS rfl rfl rfl ?_;simp only[nn]))))
 have HC:=known_w c f d A cp ts _ hz hone (fun j t hj=>by obtain⟨b,off,h1,h2,h3⟩:=hR j t hj;exact⟨b,off,h1,Nat.lt_of_lt_of_le h2 (Aa SS).fr.size,Dj h3 h2 (Aa SS).fr.below⟩)
 refine HC.mono ?_
 rintro _ Y1 ⟨A2,c2,rfl,hO,hY1⟩
 replace SS:=Ab (Sy.addRow (base:=w.heap.size) (Aa SS) hO hY1 (Aa SS).fr.size)
 clear hO hY1 HC
 go_wp2_with (first|go_skip|((with_reducible show wpList ..);first|((with_reducible show qE ..);((refine stS (vs:=Oh c f d (.slice A2 (ts.filter knB).length c2)) 0 24 (by rfl) rfl rfl rfl rfl (by simp[Oh,Value.oneCell'])  szW (Aa SS) rfl (by show 0+4<=4;omega) ?_);intro Xs Ls hfs hss;replace SS:=Ab Ls;clear Ls hfs hss;simp only[nn]))|((with_reducible show qA ..);(refine z1 3 isAgg3 0 (by rfl) rfl rfl SS rfl rfl ?_;simp only[nn]))))
 refine(new_h c f d _ (Nat.le_trans h6 (Aa SS).fr.size)).mono ?_
 rintro _ Y3 (⟨hb,rfl,hY3⟩|⟨hb,B,rfl,hI,hB,hY3⟩)
 ·go_wp2_with fail
  go_ret
  exact⟨rfl,((Aa SS).on hY3).fr.below⟩
 ·replace SS:=Ab (new_sy (Aa SS) hI hB hY3)
  have HG:=Ab (new_gd (B:=B) hb hf1)
  clear hI hB hY3
  obtain⟨fs,hfs_⟩: ∃fs,fs=ts.filter knB:=⟨_,rfl⟩
  rw[←hfs_] at SS
  have hfs: ∀t∈fs,t.Known/\t.Ok/\t.ds.length<=43800/\ ∀X,Below w.heap.size w X->t.Reads X:=fun t ht=>by
   rw[hfs_] at ht
   have h9:=List.mem_filter.1 ht
   exact⟨ZeT h9.2,hok t h9.1⟩
  have hfz:fs.length<=1000000:=by rw[hfs_];exact Nat.le_trans (List.length_filter_le _ _) hz
  simp only[←hfs_]
  clear hfs_
  obtain⟨b2,hb2⟩: ∃b,b=w.heap.size:=⟨_,rfl⟩
  go_wp2_with (first|go_skip|((with_reducible show wpList ..);first|((with_reducible show qB ..);(refine rd rfl (ex_neP rfl rfl) ?_))))
  go_loopg [5] 100 (fun gm s5 wr=> ∃(i:Nat) (h:HP),s5= .int .i64 (i:Nat)/\i<=fs.length/\i<=100/\100 - i<=gm/\h.b=B/\Hid (h.Gd (43800+i))/\Hid (Sy w wr [] [Aq Ba (Oh c f d (.slice A2 fs.length c2)),Eg w.heap.size 59 59 (.slice A2 fs.length c2) fs.length (fs.flatMap actC),hpO h]))
  case atStart=>exact⟨0,Jg B c f d,rfl,by omega,by omega,by omega,rfl,Ab ((Aa HG).mono (by omega)),SS⟩
  case round=>
   clear SS HG
   obtain⟨i,h,rfl,hil,hi100,hgm,hBh,HG,SS⟩:=hrel
   subst hBh
   by_cases hlt:i<fs.length
   ·by_cases h100:i<100
    ·have dlt:decide ((i:Int)<(fs.length:Int))=true:=decide_eq_true (by omega)
     have d100:decide ((i:Int)<100)=true:=decide_eq_true (by omega)
     have hw1:IntKind.i64.wrap ((i:Int)+1)=(i:Int)+1:=by rw[IntKind.wrap_i64];omega
     obtain⟨t,hx⟩: ∃t,fs[i]? =some t:=⟨_,List.getElem?_eq_getElem hlt⟩
     have HX:=Ab hx
     obtain⟨hK,hOk,hds,hrd⟩:=hfs t (List.mem_of_getElem? hx)
     have HO1:=Ab hOk.one
     have hrow:=(Aa SS).get 1 rfl
     obtain⟨b,off,hA, -, -⟩:=Om (f:=actC) ZaG (show World.ownsRow _ _ _ 59 (.slice A2 fs.length c2) fs.length (fs.flatMap actC) from hrow) rfl i t hx
     subst hA
     have HLT:=Ab hlt
     have G:=Aa HG
     clear hlt hrow hx
     go_wp2_with (first|go_skip|((with_reducible show wpList ..);first|((with_reducible show qA ..);(refine rd rfl (Ad 22 isAgg22 rfl rfl ((Aa SS).hold 0 rfl) rfl) ?_))|((with_reducible show qD ..);(refine rd rfl (Bi 22 59 underlying22 rfl rfl) ?_))))
     have HSH:=Zcf h _ ((Aa SS).hp 2 rfl) G.wf.ok.len (fun j q hj=>Nat.lt_of_le_of_lt (G.few j q hj) (by omega))
     refine HSH.mono ?_
     rintro _ Y1 ⟨A1,c1,vs1,rfl,S1⟩
     replace SS:=Ab (Sy.beside (Aa SS) S1)
     clear S1 HSH
     go_wp2_with (first|go_skip|((with_reducible show wpList ..);first|((with_reducible show qA ..);(refine rd rfl (Ad 22 isAgg22 rfl rfl ((Aa SS).hold 0 rfl) rfl) ?_))|((with_reducible show qD ..);(refine rd rfl (Bi 22 59 underlying22 rfl rfl) ?_))|((with_reducible show qG ..);(refine rd rfl (Az 22 59 i Zb5 ZcA rfl rfl rfl (Aa HLT)) ?_))|((with_reducible show qA ..);(refine rd rfl (By (vs:=actC t) 59 59 rwT szT rfl rfl (actAt ((Aa SS).get 1 rfl) rfl (Aa HX)) rfl) ?_))|((with_reducible show qF ..);((refine alS (v:= .agg (actC Lo).toArray) 59 (actC Lo) (by rfl) rfl (fun w=>by kernel_rfl) rfl (Nat.succ_pos _) (Aa SS) ?_);intro Xt Bt hEt Lt hbt;replace SS:=Ab Lt;clear Lt hbt hEt;simp only[nn]))|((with_reducible show qE ..);((refine stS (vs:=actC t) 5 59 (by rfl) rfl rfl rfl rfl (Aa HO1) szT (Aa SS) rfl (by show 0+59<=59;omega) ?_);intro Xs Ls hfs hss;rw[Me] at Ls;replace SS:=Ab Ls;clear Ls hfs hss;simp only[nn]))|((with_reducible show qA ..);(refine rd rfl (Af (vs:=actC t) 59 59 rwT szT rfl rfl ((Aa SS).hold 5 rfl) rfl rfl) ?_))))
     have HC:=act9_h h (43800+i) t _ ((Aa SS).hp 2 rfl) G (by omega) (hT.fr (Aa SS).fr (by simp)) hOk hK (by omega) (fun X hX=>hrd X ((Aa SS).fr.trans hX (fun b hb=>(Aa SS).lo (hpO h) (List.mem_of_getElem? (i:=2) rfl) b hb)).below)
     refine HC.mono ?_
     rintro _ Y2 ⟨h1,n,rfl,g1,T1,hcc,hq⟩
     have HB1:=Ab T1.hb
     have hTo:=(Aa SS).hp 2 rfl
     replace SS:=Ab ((Aa SS).heap 2 rfl T1)
     clear T1 HC
     rw[Nat.max_eq_left (by omega)] at g1
     by_cases hW:t.W=0
     ·have HW:decide (t.W=0)=true:=decide_eq_true hW
      obtain⟨er,hnf,hP,hq0⟩:=hq hW
      clear hW hq hnf hP
      by_cases hM:t.M=9
      ·have HM9:decide (t.M=9)=true:=decide_eq_true hM
       have hq9:=hq0 hM
       clear hM hq0
       go_wp2_with (first|go_skip|((with_reducible show wpList ..);first|((with_reducible show qF ..);((refine alS (v:= .agg (Bl Ay).toArray) 45 (Bl Ay) (by rfl) rfl (fun w=>by kernel_rfl) rfl (Nat.succ_pos _) (Aa SS) ?_);intro Xu Bu hEu Lu hbu;replace SS:=Ab Lu;clear Lu hbu hEu;simp only[nn]))|((with_reducible show qE ..);((refine stS (vs:=Bl n) 6 45 (by rfl) rfl rfl rfl rfl (Ed _) szN (Aa SS) rfl (by simp[Bw,VV.cs,KK.cs,DD.cs,Ak,Av,Bl,Ay,Dq]) ?_);intro Xv Lv hfv hsv;replace SS:=Ab Lv;clear Lv hfv hsv;simp only[nn]))|((with_reducible show qA ..);(refine rd rfl (Ad 3 isAgg3 rfl rfl ((Aa SS).hold 5 rfl) rfl) ?_))|((with_reducible show qB ..);(refine rd rfl (Rp true rfl rfl rfl HW) ?_))|((with_reducible show qB ..);(refine rd rfl (Rp true rfl rfl rfl HM9) ?_))))
       have HSH:=Zcf h1 _ ((Aa SS).hp 2 rfl) g1.wf.ok.len (fun j q hj=>Nat.lt_of_le_of_lt (g1.few j q hj) (by omega))
       rw[Aa HB1] at HSH
       refine HSH.mono ?_
       rintro _ Y5 ⟨A5,c5,vs5,rfl,S5⟩
       replace SS:=Ab (Sy.beside (Aa SS) S5)
       clear S5 HSH
       cases hy:n.y
       ·have hab:=ZeI hq9 hy
        have hlen:h1.l.length=h.l.length:=by rw[←Ke h1,hab,Ke]
        go_wp2_with (first|go_skip|((with_reducible show wpList ..);first|(refine rd rfl (ex_ldY false hy rfl rfl ((Aa SS).hold 6 rfl)) ?_)))
        have hb9:=abs_ok ((Aa SS).hp 2 rfl) g1 (by omega)
        have HR7:=My (vs:=vs5) (c:=c5) (Ke h1) ((Aa SS).get 7 rfl) ((Aa SS).get 8 rfl)
        rw[hab] at hb9 HR7
        have HSA:=Zbt h.abs A1 A5 c1 c5 _ hb9.1 hb9.2 (My (vs:=vs1) (c:=c1) (Ke h) ((Aa SS).get 3 rfl) ((Aa SS).get 4 rfl)) HR7
        rw[Ke] at HSA
        refine HSA.mono ?_
        rintro _ Y6 ⟨rfl,hY6⟩
        replace SS:=Ab ((Aa SS).on hY6)
        clear hY6 HSA HR7 hb9
        go_wp2_with fail
        go_roundg (100 - (i+1))
        case measure=>omega
        case rel=>exact⟨i+1,h1,by go_num,by have:=Aa HLT;omega,by omega,by omega,Aa HB1,Ab (g1.mono (by omega)),Ab (Sy.left (L:= [_,_,_]) (M:= [_,_,_,_,_,_]) (Aa SS))⟩
       ·obtain⟨i0,s,D,hrk,hri,hsi,hab,hDv⟩: ∃(i:Nat) (s:PO) (D:DD),t.r.k=7/\t.r.i=(i:Int)+1/\h.abs[i]? =some s/\h1.abs=h.abs.set i {s with ps:=Qx s.ps t.k D}/\D.v=t.v:=by
         rw[hy] at hq9
         rcases hq9 with ⟨h9, -⟩|⟨hgd,er9,hS9⟩
         ·cases h9
         ·exact set_true hgd hS9
        clear hq9
        have hlen:h1.l.length=h.l.length:=by rw[←Ke h1,hab,List.length_set,Ke]
        have hi0:i0<h.l.length:=by have:=(List.getElem?_eq_some_iff.1 hsi).1;rw[Ke] at this;exact this
        have hl6:=G.wf.ok.len
        have hb9:=(abs_ok ((Aa SS).hp 2 rfl) g1 (by omega)).2
        have HR1:=Ab (My (vs:=vs1) (c:=c1) (Ke h) ((Aa SS).get 3 rfl) ((Aa SS).get 4 rfl))
        have HR5:=Ab (My (vs:=vs5) (c:=c5) (Ke h1) ((Aa SS).get 7 rfl) ((Aa SS).get 8 rfl))
        obtain⟨s2,hs2_⟩: ∃s2:PO,s2={s with ps:=Qx s.ps t.k D}:=⟨_,rfl⟩
        rw[←hs2_] at hab
        have hs2:h1.abs[i0]? =some s2:=by rw[hab,List.getElem?_set_self (by rw[Ke];exact hi0)]
        have hun: ∀e∈s.ps,lkP s.ps e.1=some e.2:=fun e he=>by
         unfold HP.abs at hsi
         rw[List.getElem?_map] at hsi
         obtain⟨q9,hq9,rfl⟩:=Option.map_eq_some_iff.1 hsi
         exact ZeV (hTo.ob hq9).2.1 he
        obtain⟨bw,ow,Pw,pw,hA1,hbw,hrw9,hPw⟩:=Aa HR1 i0 s hsi
        subst hA1
        obtain⟨bn,on,Pn,pn,hA5,hbn,hrn9,hPn⟩:=Aa HR5 i0 s2 hs2
        subst hA5
        have HRW:=Ab hrw9
        have HRN:=Ab hrn9
        have HI0:=Ab hi0
        have HRK:=Ab hrk
        have HR1I:Hid (1<=t.r.i):=Ab (by omega)
        have HR2I:Hid (t.r.i<=((h.l.length:Nat):Int)):=Ab (by omega)
        have HSUB:Hid (IntKind.i64.wrap (t.r.i - 1)=(i0:Int)):=Ab (by rw[IntKind.wrap_i64];omega)
        have hz2:s2.ps.length<=1000000:=(hb9 s2 (List.mem_of_getElem? hs2)).1
        have hzs:s.ps.length<=1000000:=by have:=(hb9 s2 (List.mem_of_getElem? hs2)).1;rw[hs2_] at this;exact Nat.le_trans (putP_len s.ps t.k D) this
        have HLK0:(lkP s2.ps t.k).getD Ak=D:=by rw[hs2_];show (lkP (Qx s.ps t.k D) t.k).getD Ak=D;rw[lk_put,if_pos rfl];rfl
        have HL1: ∀X,Below Y5.heap.size Y5 X->Calls prog 14 #[.agg (shC s2 (.slice Pn s2.ps.length pn)).toArray,t.k.agg] X fun e9 w'=>e9= .returned D.agg/\Below X.heap.size X w':=fun X hX=>by
         have q:=lies_h s2 Pn pn t.k X hz2 (hPn.on hX)
         rw[HLK0] at q
         exact q
        have HEQ: ∀X,Calls prog 13 #[D.v.agg,t.v.agg] X fun e9 w'=>e9= .returned (.bool true)/\Below X.heap.size X w':=fun X=>by
         have q:=Qe D.v t.v X
         rw[hDv,Oe] at q
         rw[hDv]
         exact q
        clear hrw9 hrn9 hrk hi0 hri
        go_wp2_with (first|go_skip|((with_reducible show wpList ..);first|(refine rd rfl (ex_ldY true hy rfl rfl ((Aa SS).hold 6 rfl)) ?_)|((with_reducible show qA ..);(refine rd rfl (Ad 3 isAgg3 rfl rfl ((Aa SS).hold 5 rfl) rfl) ?_))))
        have hq19:Sy Y5 _ [] []:=(Sy.nil Y5 []).drew
        refine wp_region_held_drew (P:=prog) (S:=fun X=>Sy Y5 X [] _) (by kernel_rfl) (hq19) (fun hS0=> ?_)
        refine gp 0 (some 83) (.slice (some ⟨bn,on,none⟩) h.l.length c5) rfl rfl (hq19) ?_
        refine gq 1 (some 84) (.int .i64 (h.l.length:Nat)) rfl rfl (fun X hX=>Bi 32 66 underlying32 rfl rfl) (hq19) ?_
        refine gp 2 (some 85) (.slice (some ⟨bw,ow,none⟩) h.l.length c1) rfl rfl (hq19) ?_
        refine gq 3 (some 86) (.int .i64 (h.l.length:Nat)) rfl rfl (fun X hX=>Bi 32 66 underlying32 rfl rfl) (hq19) ?_
        refine gq 4 (some 87) (.bool false) rfl rfl (fun X hX=>Eh rfl rfl rfl rfl) (hq19) ?_
        refine gp 5 (some 88) (.bool false) rfl rfl (hq19) ?_
        refine gp 6 (some 89) (.pointer (some ⟨Bt,1,none⟩)) rfl rfl (hq19) ?_
        refine gp 7 (some 90) (.pointer (some ⟨Bt,11,none⟩)) rfl rfl (hq19) ?_
        refine gp 8 (some 91) (.pointer (some ⟨Bt,11,none⟩)) rfl rfl (hq19) ?_
        refine gq 9 (some 92) (.int .i64 t.r.k) rfl rfl (fun X hX=>Ad 3 isAgg3 rfl rfl (((Aa SS).on hX.fr.below).hold 5 rfl) rfl) (hq19) ?_
        refine gq 10 (some 93) (.bool false) rfl rfl (fun X hX=>Eh rfl rfl rfl (Aa HRK)) (hq19) ?_
        refine gp 11 (some 94) (.bool false) rfl rfl (hq19) ?_
        refine gp 12 (some 95) (.bool false) rfl rfl (hq19) ?_
        refine gp 13 (some 96) (.int .i64 t.r.i) rfl rfl (hq19) ?_
        refine gq 14 (some 97) (.bool false) rfl rfl (fun X hX=>ex_lssF rfl rfl rfl (by have:=Aa HR1I;omega)) (hq19) ?_
        refine gp 15 (some 98) (.bool false) rfl rfl (hq19) ?_
        refine gp 16 (some 99) (.bool false) rfl rfl (hq19) ?_
        refine gp 17 (some 100) (.int .i64 t.r.i) rfl rfl (hq19) ?_
        refine gp 18 (some 101) (.slice (some ⟨bn,on,none⟩) h.l.length c5) rfl rfl (hq19) ?_
        refine gq 19 (some 102) (.int .i64 (h.l.length:Nat)) rfl rfl (fun X hX=>Bi 32 66 underlying32 rfl rfl) (hq19) ?_
        refine gq 20 (some 103) (.bool false) rfl rfl (fun X hX=>ex_gtrF rfl rfl rfl (by have:=Aa HR2I;omega)) (hq19) ?_
        refine gp 21 (some 104) (.bool false) rfl rfl (hq19) ?_
        refine gp 22 (some 105) (.bool false) rfl rfl (hq19) ?_
        refine gp 23 (some 106) (.slice (some ⟨bn,on,none⟩) h.l.length c5) rfl rfl (hq19) ?_
        refine gp 24 (some 107) (.int .i64 t.r.i) rfl rfl (hq19) ?_
        refine gq 25 (some 108) (.int .i64 (i0:Nat)) rfl rfl (fun X hX=>Qw rfl rfl rfl (Aa HSUB)) (hq19) ?_
        refine gq 26 (some 109) (.pointer (some ⟨bn,on+i0 * 8,none⟩)) rfl rfl (fun X hX=>Az 32 8 i0 Zb6 ZcB rfl rfl rfl (Aa HI0)) (hq19) ?_
        refine gq 27 (some 110) (.agg (shC s2 (.slice Pn s2.ps.length pn)).toArray) rfl rfl (fun X hX=>By (vs:=shC s2 (.slice Pn s2.ps.length pn)) 66 8 rwS szS rfl rfl (Dj (Aa HRN) hbn hX.fr.below) rfl) (hq19) ?_
        refine gp 28 (some 111) (.pointer (some ⟨Bt,1,none⟩)) rfl rfl (hq19) ?_
        refine gp 29 (some 112) (.pointer (some ⟨Bt,4,none⟩)) rfl rfl (hq19) ?_
        refine gq 30 (some 113) (.agg t.k.cs.toArray) rfl rfl (fun X hX=>Af (vs:=t.k.cs) 48 2 rwK szK rfl rfl (((Aa SS).on hX.fr.below).hold 5 rfl) rfl rfl) (hq19) ?_
        refine gp 33 (some 116) (.pointer (some ⟨Bt,1,none⟩)) rfl rfl (hq19) ?_
        refine gp 34 (some 117) (.pointer (some ⟨Bt,6,none⟩)) rfl rfl (hq19) ?_
        refine gq 35 (some 118) (.agg t.v.cs.toArray) rfl rfl (fun X hX=>Af (vs:=t.v.cs) 36 5 rwV szV rfl rfl (((Aa SS).on hX.fr.below).hold 5 rfl) rfl rfl) (hq19) ?_
        refine gr (rs:= [31]) (gcB 31 (some 114) rfl rfl hq19 (HL1 _ hq19.fr.below) id ?_ gn)
        intro Yp1 hqp1
        refine gp 32 (some 115) (.agg D.v.cs.toArray) rfl rfl (hqp1) ?_
        refine gr (rs:= [36]) (gcB 36 (some 119) rfl rfl hqp1 ((fun _=>HEQ _) hqp1) id ?_ gn)
        intro Yp2 hqp2
        refine gp 37 (some 120) (.bool false) rfl rfl (hqp2) ?_
        refine gp 38 (some 121) (.bool false) rfl rfl (hqp2) ?_
        refine wpAnyH_done (by kernel_rfl) ?_ _
        try simp only[nn]
        have HQ:=Ab hqp2.fr.below
        go_wp2_with fail
        obtain⟨wz,hwz⟩: ∃w2,w2=wr:=⟨_,rfl⟩
        subst hwz
        go_loopg [11] h.l.length (fun gm s11 wr=> ∃k9:Nat,s11= .int .i64 (k9:Nat)/\k9<=h.l.length/\h.l.length - k9<=gm/\Hid (Below Y5.heap.size Y5 wr))
        case atStart=>exact⟨0,rfl,by omega,by omega,HQ⟩
        case round=>
         clear HQ
         obtain⟨k9,rfl,hk9,hgm9,HQ⟩:=hrel
         by_cases hlt9:k9<h.l.length
         ·have dlt:decide ((k9:Int)<(h.l.length:Int))=true:=decide_eq_true (by omega)
          have hw9:IntKind.i64.wrap ((k9:Int)+1)=(k9:Int)+1:=by rw[IntKind.wrap_i64];have:=G.wf.ok.len;omega
          have HK9:=Ab hlt9
          clear hlt9
          have HQX: ∀X,Sy wr X [] []->Below Y5.heap.size Y5 X:=fun X hX=>(Aa HQ).trans (hX.fr.below.mono (Aa HQ).size)
          by_cases hki:k9=i0
          ·have HKI:Hid ((k9:Int)=(i0:Int)):=Ab (by omega)
           go_wp2_with (first|go_skip|((with_reducible show wpList ..);first|((with_reducible show qD ..);(refine rd rfl (Bi 32 66 underlying32 rfl rfl) ?_))))
           have hq24:Sy wr _ [] []:=(Sy.nil wr []).drew
           refine wp_region_held_drew (P:=prog) (S:=fun X=>Sy wr X [] _) (by kernel_rfl) (hq24) (fun hS0=> ?_)
           refine gp 0 (some 128) (.int .i64 (k9:Nat)) rfl rfl (hq24) ?_
           refine gp 1 (some 129) (.int .i64 t.r.i) rfl rfl (hq24) ?_
           refine gq 2 (some 130) (.int .i64 (i0:Nat)) rfl rfl (fun X hX=>Qw rfl rfl rfl (Aa HSUB)) (hq24) ?_
           refine gq 3 (some 131) (.bool false) rfl rfl (fun X hX=>Eh rfl rfl rfl (Aa HKI)) (hq24) ?_
           refine gp 4 (some 132) (.bool false) rfl rfl (hq24) ?_
           refine _root_.Go.Proofs.YtfnohipnenkhoaaGreatDoor.gk 5 (some 133) rfl rfl (hq24) ?_
           simp only[nn]
           refine _root_.Go.Proofs.YtfnohipnenkhoaaGreatDoor.gk 6 (some 134) rfl rfl (hq24) ?_
           simp only[nn]
           refine _root_.Go.Proofs.YtfnohipnenkhoaaGreatDoor.gk 7 (some 135) rfl rfl (hq24) ?_
           simp only[nn]
           refine _root_.Go.Proofs.YtfnohipnenkhoaaGreatDoor.gk 8 (some 136) rfl rfl (hq24) ?_
           simp only[nn]
           refine _root_.Go.Proofs.YtfnohipnenkhoaaGreatDoor.gk 9 (some 137) rfl rfl (hq24) ?_
           simp only[nn]
           refine _root_.Go.Proofs.YtfnohipnenkhoaaGreatDoor.gk 10 (some 138) rfl rfl (hq24) ?_
           simp only[nn]
           refine _root_.Go.Proofs.YtfnohipnenkhoaaGreatDoor.gk 11 (some 139) rfl rfl (hq24) ?_
           simp only[nn]
           refine _root_.Go.Proofs.YtfnohipnenkhoaaGreatDoor.gk 12 (some 140) rfl rfl (hq24) ?_
           simp only[nn]
           refine _root_.Go.Proofs.YtfnohipnenkhoaaGreatDoor.gk 13 (some 141) rfl rfl (hq24) ?_
           simp only[nn]
           refine _root_.Go.Proofs.YtfnohipnenkhoaaGreatDoor.gk 14 (some 142) rfl rfl (hq24) ?_
           simp only[nn]
           refine gp 15 (some 143) (.bool false) rfl rfl (hq24) ?_
           refine wpAnyH_done (by kernel_rfl) ?_ _
           try simp only[nn]
           have HQ2:=Ab (HQX _ hq24)
           go_wp2
           go_roundg (h.l.length - (k9+1))
           case measure=>omega
           case rel=>exact⟨k9+1,by go_num,by have:=Aa HK9;omega,by omega,HQ2⟩
          ·have HKI:Hid ((k9:Int)≠(i0:Int)):=Ab (by omega)
           obtain⟨sk,hsk⟩: ∃s,h.abs[k9]? =some s:=⟨_,List.getElem?_eq_getElem (by rw[Ke];have:=Aa HK9;omega)⟩
           have hsk5:h1.abs[k9]? =some sk:=by rw[hab,List.getElem?_set_ne (fun e=>hki e.symm)];exact hsk
           obtain⟨b3,o3,Pk,pk,e3, -,hk1,hPk⟩:=Aa HR1 k9 sk hsk
           cases e3
           obtain⟨b4,o4,Pk5,pk5,e4, -,hk5,hPk5⟩:=Aa HR5 k9 sk hsk5
           cases e4
           have HK1:=Ab hk1
           have HK5:=Ab hk5
           obtain⟨z1,z2,z3⟩:=hb9 sk (List.mem_of_getElem? hsk5)
           have HSS: ∀X,Sy wr X [] []->Calls prog 15 #[.agg (shC sk (.slice Pk sk.ps.length pk)).toArray, .agg (shC sk (.slice Pk5 sk.ps.length pk5)).toArray] X fun e9 w'=>e9= .returned (.bool true)/\Below X.heap.size X w':=fun X hX=>Po sk Pk Pk5 pk pk5 X z1 z2 z3 (hPk.on (HQX _ hX)) (hPk5.on (HQX _ hX))
           clear hk1 hk5
           go_wp2_with (first|go_skip|((with_reducible show wpList ..);first|((with_reducible show qD ..);(refine rd rfl (Bi 32 66 underlying32 rfl rfl) ?_))))
           have hq24:Sy wr _ [] []:=(Sy.nil wr []).drew
           refine wp_region_held_drew (P:=prog) (S:=fun X=>Sy wr X [] _) (by kernel_rfl) (hq24) (fun hS0=> ?_)
           refine gp 0 (some 128) (.int .i64 (k9:Nat)) rfl rfl (hq24) ?_
           refine gp 1 (some 129) (.int .i64 t.r.i) rfl rfl (hq24) ?_
           refine gq 2 (some 130) (.int .i64 (i0:Nat)) rfl rfl (fun X hX=>Qw rfl rfl rfl (Aa HSUB)) (hq24) ?_
           refine gq 3 (some 131) (.bool true) rfl rfl (fun X hX=>Jy rfl rfl rfl (Aa HKI)) (hq24) ?_
           refine gp 4 (some 132) (.bool true) rfl rfl (hq24) ?_
           refine gp 5 (some 133) (.slice (some ⟨bw,ow,none⟩) h.l.length c1) rfl rfl (hq24) ?_
           refine gp 6 (some 134) (.int .i64 (k9:Nat)) rfl rfl (hq24) ?_
           refine gq 7 (some 135) (.pointer (some ⟨bw,ow+k9 * 8,none⟩)) rfl rfl (fun X hX=>Az 32 8 k9 Zb6 ZcB rfl rfl rfl (Aa HK9)) (hq24) ?_
           refine gq 8 (some 136) (.agg (shC sk (.slice Pk sk.ps.length pk)).toArray) rfl rfl (fun X hX=>By (vs:=shC sk (.slice Pk sk.ps.length pk)) 66 8 rwS szS rfl rfl (Dj (Aa HK1) hbw (HQX _ hX)) rfl) (hq24) ?_
           refine gp 9 (some 137) (.slice (some ⟨bn,on,none⟩) h.l.length c5) rfl rfl (hq24) ?_
           refine gp 10 (some 138) (.int .i64 (k9:Nat)) rfl rfl (hq24) ?_
           refine gq 11 (some 139) (.pointer (some ⟨bn,on+k9 * 8,none⟩)) rfl rfl (fun X hX=>Az 32 8 k9 Zb6 ZcB rfl rfl rfl (Aa HK9)) (hq24) ?_
           refine gq 12 (some 140) (.agg (shC sk (.slice Pk5 sk.ps.length pk5)).toArray) rfl rfl (fun X hX=>By (vs:=shC sk (.slice Pk5 sk.ps.length pk5)) 66 8 rwS szS rfl rfl (Dj (Aa HK5) hbn (HQX _ hX)) rfl) (hq24) ?_
           refine gr (rs:= [13]) (gcB 13 (some 141) rfl rfl hq24 (HSS _ hq24) id ?_ gn)
           intro Yq1 hqq1
           refine gp 14 (some 142) (.bool false) rfl rfl (hqq1) ?_
           refine gp 15 (some 143) (.bool false) rfl rfl (hqq1) ?_
           refine wpAnyH_done (by kernel_rfl) ?_ _
           try simp only[nn]
           have HQ2:=Ab (HQX _ hqq1)
           go_wp2
           go_roundg (h.l.length - (k9+1))
           case measure=>omega
           case rel=>exact⟨k9+1,by go_num,by have:=Aa HK9;omega,by omega,HQ2⟩
         ·obtain rfl:k9=h.l.length:=by omega
          go_wp2_with (first|go_skip|((with_reducible show wpList ..);first|((with_reducible show qD ..);(refine rd rfl (Bi 32 66 underlying32 rfl rfl) ?_))))
          obtain⟨wz,hwz⟩: ∃w2,w2=wr:=⟨_,rfl⟩
          subst hwz
          go_loopg [12] s.ps.length (fun gm s12 wr=> ∃k9:Nat,s12= .int .i64 (k9:Nat)/\k9<=s.ps.length/\s.ps.length - k9<=gm/\Hid (Below Y5.heap.size Y5 wr))
          case atStart=>exact⟨0,rfl,by omega,by omega,HQ⟩
          case round=>
           clear HQ
           obtain⟨k9,rfl,hk9,hgm9,HQ⟩:=hrel
           by_cases hlt9:k9<s.ps.length
           ·have dlt:decide ((k9:Int)<(s.ps.length:Int))=true:=decide_eq_true (by omega)
            have hw9:IntKind.i64.wrap ((k9:Int)+1)=(k9:Int)+1:=by rw[IntKind.wrap_i64];omega
            obtain⟨e,he⟩: ∃e,s.ps[k9]? =some e:=⟨_,List.getElem?_eq_getElem hlt9⟩
            obtain⟨be,oe,hPe,hbe,hre⟩:=hPw k9 e he
            subst hPe
            have HE:=Ab he
            have HRE:=Ab hre
            have HBE:=Ab hbe
            have HK9:=Ab hlt9
            clear he hre hbe hlt9
            have SP:=Ab (Sy.nil wr [])
            have HQX0: ∀{L:List Ob} X,Sy wr X [] L->Below Y5.heap.size Y5 X:=fun X hX=>(Aa HQ).trans (hX.fr.below.mono (Aa HQ).size)
            skip
            go_wp2_with (first|go_skip|((with_reducible show wpList ..);first|(refine rd rfl (Qw rfl rfl rfl (Aa HSUB)) ?_)|((with_reducible show qG ..);(refine rd rfl (Az 32 8 i0 Zb6 ZcB rfl rfl rfl (Aa HI0)) ?_))|((with_reducible show qA ..);(refine rd rfl (Jr 52 7 isAgg52 rfl rfl (Dj (Aa HRW) hbw (HQX0 _ (Aa SP))) rfl) ?_))|((with_reducible show qD ..);(refine rd rfl (Bi 52 69 underlying52 rfl rfl) ?_))|((with_reducible show qG ..);(refine rd rfl (Az 52 20 k9 Oz Pa rfl rfl rfl (Aa HK9)) ?_))|((with_reducible show qA ..);(refine rd rfl (By (vs:=prC e) 69 20 rwP szP rfl rfl (Dj (Aa HRE) (Aa HBE) (HQX0 _ (Aa SP))) rfl) ?_))|((with_reducible show qF ..);((refine alS (v:= .agg (prC Nt).toArray) 69 (prC Nt) (by rfl) rfl (fun w=>by kernel_rfl) rfl (Nat.succ_pos _) (Aa SP) ?_);intro Xp Bp hEp Lp hbp;replace SP:=Ab Lp;clear Lp hbp hEp;simp only[nn]))|((with_reducible show qE ..);((refine stS (vs:=prC e) 0 69 (by rfl) rfl rfl rfl rfl (Qq _) szP (Aa SP) rfl (by show 0+20<=20;omega) ?_);intro Xs Ls hfs hss;rw[Zc] at Ls;replace SP:=Ab Ls;clear Ls hfs hss;simp only[nn]))))
            have HQX: ∀X,Sy wr X [] [Aq Bp (prC e)]->Below Y5.heap.size Y5 X:=fun X hX=>HQX0 X hX
            by_cases hke:e.1=t.k
            ·have HKE:Hid ((!decide (e.1=t.k))=false):=Ab (by simp[hke])
             have hq30:Sy wr _ [] [Aq Bp (prC e)]:=(Aa SP).drew
             clear SP
             refine wp_region_held_drew (P:=prog) (S:=fun X=>Sy wr X [] _) (by kernel_rfl) (hq30) (fun hS0=> ?_)
             refine gp 0 (some 164) (.pointer (some ⟨Bp,0,none⟩)) rfl rfl (hq30) ?_
             refine gq 1 (some 165) (.agg e.1.cs.toArray) rfl rfl (fun X hX=>Af (vs:=e.1.cs) 48 2 rwK szK rfl rfl (hX.hold 0 rfl) rfl rfl) (hq30) ?_
             refine gp 2 (some 166) (.pointer (some ⟨Bt,1,none⟩)) rfl rfl (hq30) ?_
             refine gp 3 (some 167) (.pointer (some ⟨Bt,4,none⟩)) rfl rfl (hq30) ?_
             refine gq 4 (some 168) (.agg t.k.cs.toArray) rfl rfl (fun X hX=>Af (vs:=t.k.cs) 48 2 rwK szK rfl rfl (((Aa SS).on (HQX _ hX)).hold 5 rfl) rfl rfl) (hq30) ?_
             refine gq 5 (some 169) (.bool false) rfl rfl (fun X hX=>Zel e.1 t.k _ rfl rfl rfl (Aa HKE)) (hq30) ?_
             refine gp 6 (some 170) (.bool false) rfl rfl (hq30) ?_
             refine _root_.Go.Proofs.YtfnohipnenkhoaaGreatDoor.gk 7 (some 171) rfl rfl (hq30) ?_
             simp only[nn]
             refine _root_.Go.Proofs.YtfnohipnenkhoaaGreatDoor.gk 8 (some 172) rfl rfl (hq30) ?_
             simp only[nn]
             refine _root_.Go.Proofs.YtfnohipnenkhoaaGreatDoor.gk 9 (some 173) rfl rfl (hq30) ?_
             simp only[nn]
             refine _root_.Go.Proofs.YtfnohipnenkhoaaGreatDoor.gk 10 (some 174) rfl rfl (hq30) ?_
             simp only[nn]
             refine _root_.Go.Proofs.YtfnohipnenkhoaaGreatDoor.gk 11 (some 175) rfl rfl (hq30) ?_
             simp only[nn]
             refine _root_.Go.Proofs.YtfnohipnenkhoaaGreatDoor.gk 12 (some 176) rfl rfl (hq30) ?_
             simp only[nn]
             refine _root_.Go.Proofs.YtfnohipnenkhoaaGreatDoor.gk 13 (some 177) rfl rfl (hq30) ?_
             simp only[nn]
             refine _root_.Go.Proofs.YtfnohipnenkhoaaGreatDoor.gk 14 (some 178) rfl rfl (hq30) ?_
             simp only[nn]
             refine _root_.Go.Proofs.YtfnohipnenkhoaaGreatDoor.gk 15 (some 179) rfl rfl (hq30) ?_
             simp only[nn]
             refine _root_.Go.Proofs.YtfnohipnenkhoaaGreatDoor.gk 16 (some 180) rfl rfl (hq30) ?_
             simp only[nn]
             refine _root_.Go.Proofs.YtfnohipnenkhoaaGreatDoor.gk 17 (some 181) rfl rfl (hq30) ?_
             simp only[nn]
             refine _root_.Go.Proofs.YtfnohipnenkhoaaGreatDoor.gk 18 (some 182) rfl rfl (hq30) ?_
             simp only[nn]
             refine gp 19 (some 183) (.bool false) rfl rfl (hq30) ?_
             refine wpAnyH_done (by kernel_rfl) ?_ _
             try simp only[nn]
             have HQ2:=Ab (HQX _ hq30)
             go_wp2
             go_roundg (s.ps.length - (k9+1))
             case measure=>omega
             case rel=>exact⟨k9+1,by go_num,by have:=Aa HK9;omega,by omega,HQ2⟩
            ·have HKE:Hid ((!decide (e.1=t.k))=true):=Ab (by simp[hke])
             have HLK:(lkP s2.ps e.1).getD Ak=e.2:=by rw[hs2_];show (lkP (Qx s.ps t.k D) e.1).getD Ak=e.2;rw[lk_put,if_neg hke,hun e (List.mem_of_getElem? (Aa HE))];rfl
             have HLE: ∀X,Sy wr X [] [Aq Bp (prC e)]->Calls prog 14 #[.agg (shC s2 (.slice Pn s2.ps.length pn)).toArray,e.1.agg] X fun e9 w'=>e9= .returned e.2.agg/\Below X.heap.size X w':=fun X hX=>by
              have q:=lies_h s2 Pn pn e.1 X hz2 (hPn.on (HQX _ hX))
              rw[HLK] at q
              exact q
             have HED: ∀X,Calls prog 16 #[e.2.agg,e.2.agg] X fun e9 w'=>e9= .returned (.bool true)/\Below X.heap.size X w':=fun X=>by
              have q:=ZbW e.2 e.2 X
              rw[Zav] at q
              exact q
             have hq30:Sy wr _ [] [Aq Bp (prC e)]:=(Aa SP).drew
             clear SP
             refine wp_region_held_drew (P:=prog) (S:=fun X=>Sy wr X [] _) (by kernel_rfl) (hq30) (fun hS0=> ?_)
             refine gp 0 (some 164) (.pointer (some ⟨Bp,0,none⟩)) rfl rfl (hq30) ?_
             refine gq 1 (some 165) (.agg e.1.cs.toArray) rfl rfl (fun X hX=>Af (vs:=e.1.cs) 48 2 rwK szK rfl rfl (hX.hold 0 rfl) rfl rfl) (hq30) ?_
             refine gp 2 (some 166) (.pointer (some ⟨Bt,1,none⟩)) rfl rfl (hq30) ?_
             refine gp 3 (some 167) (.pointer (some ⟨Bt,4,none⟩)) rfl rfl (hq30) ?_
             refine gq 4 (some 168) (.agg t.k.cs.toArray) rfl rfl (fun X hX=>Af (vs:=t.k.cs) 48 2 rwK szK rfl rfl (((Aa SS).on (HQX _ hX)).hold 5 rfl) rfl rfl) (hq30) ?_
             refine gq 5 (some 169) (.bool true) rfl rfl (fun X hX=>Zel e.1 t.k _ rfl rfl rfl (Aa HKE)) (hq30) ?_
             refine gp 6 (some 170) (.bool true) rfl rfl (hq30) ?_
             refine gp 7 (some 171) (.slice (some ⟨bn,on,none⟩) h.l.length c5) rfl rfl (hq30) ?_
             refine gp 8 (some 172) (.int .i64 t.r.i) rfl rfl (hq30) ?_
             refine gq 9 (some 173) (.int .i64 (i0:Nat)) rfl rfl (fun X hX=>Qw rfl rfl rfl (Aa HSUB)) (hq30) ?_
             refine gq 10 (some 174) (.pointer (some ⟨bn,on+i0 * 8,none⟩)) rfl rfl (fun X hX=>Az 32 8 i0 Zb6 ZcB rfl rfl rfl (Aa HI0)) (hq30) ?_
             refine gq 11 (some 175) (.agg (shC s2 (.slice Pn s2.ps.length pn)).toArray) rfl rfl (fun X hX=>By (vs:=shC s2 (.slice Pn s2.ps.length pn)) 66 8 rwS szS rfl rfl (Dj (Aa HRN) hbn (HQX _ hX)) rfl) (hq30) ?_
             refine gp 12 (some 176) (.pointer (some ⟨Bp,0,none⟩)) rfl rfl (hq30) ?_
             refine gq 13 (some 177) (.agg e.1.cs.toArray) rfl rfl (fun X hX=>Af (vs:=e.1.cs) 48 2 rwK szK rfl rfl (hX.hold 0 rfl) rfl rfl) (hq30) ?_
             refine gp 15 (some 179) (.pointer (some ⟨Bp,2,none⟩)) rfl rfl (hq30) ?_
             refine gq 16 (some 180) (.agg e.2.cs.toArray) rfl rfl (fun X hX=>Af (vs:=e.2.cs) 39 18 rwD szD rfl rfl (hX.hold 0 rfl) rfl rfl) (hq30) ?_
             refine gr (rs:= [14]) (gcB 14 (some 178) rfl rfl hq30 (HLE _ hq30) id ?_ gn)
             intro Yr1 hqr1
             simp only[nn]
             refine gr (rs:= [17]) (gcB 17 (some 181) rfl rfl hqr1 ((fun _=>HED _) hqr1) id ?_ gn)
             intro Yr2 hqr2
             refine gp 18 (some 182) (.bool false) rfl rfl (hqr2) ?_
             refine gp 19 (some 183) (.bool false) rfl rfl (hqr2) ?_
             refine wpAnyH_done (by kernel_rfl) ?_ _
             try simp only[nn]
             have HQ2:=Ab (HQX _ hqr2)
             go_wp2
             go_roundg (s.ps.length - (k9+1))
             case measure=>omega
             case rel=>exact⟨k9+1,by go_num,by have:=Aa HK9;omega,by omega,HQ2⟩
           ·obtain rfl:k9=s.ps.length:=by omega
            go_wp2_with (first|go_skip|((with_reducible show wpList ..);first|(refine rd rfl (Qw rfl rfl rfl (Aa HSUB)) ?_)|((with_reducible show qG ..);(refine rd rfl (Az 32 8 i0 Zb6 ZcB rfl rfl rfl (Aa HI0)) ?_))|((with_reducible show qA ..);(refine rd rfl (Jr 52 7 isAgg52 rfl rfl (Dj (Aa HRW) hbw (Aa HQ)) rfl) ?_))|((with_reducible show qD ..);(refine rd rfl (Bi 52 69 underlying52 rfl rfl) ?_))))
            replace SS:=Ab ((Aa SS).on (Aa HQ))
            go_roundg (100 - (i+1))
            case measure=>omega
            case rel=>exact⟨i+1,h1,by go_num,by have:=Aa HLT;omega,by omega,by omega,Aa HB1,Ab (g1.mono (by omega)),Ab (Sy.left (L:= [_,_,_]) (M:= [_,_,_,_,_,_]) (Aa SS))⟩
      ·have HM9:decide (t.M=9)=false:=decide_eq_false hM
       clear hM hq0
       go_wp2_with (first|go_skip|((with_reducible show wpList ..);first|((with_reducible show qF ..);((refine alS (v:= .agg (Bl Ay).toArray) 45 (Bl Ay) (by rfl) rfl (fun w=>by kernel_rfl) rfl (Nat.succ_pos _) (Aa SS) ?_);intro Xu Bu hEu Lu hbu;replace SS:=Ab Lu;clear Lu hbu hEu;simp only[nn]))|((with_reducible show qE ..);((refine stS (vs:=Bl n) 6 45 (by rfl) rfl rfl rfl rfl (Ed _) szN (Aa SS) rfl (by simp[Bw,VV.cs,KK.cs,DD.cs,Ak,Av,Bl,Ay,Dq]) ?_);intro Xv Lv hfv hsv;replace SS:=Ab Lv;clear Lv hfv hsv;simp only[nn]))|((with_reducible show qA ..);(refine rd rfl (Ad 3 isAgg3 rfl rfl ((Aa SS).hold 5 rfl) rfl) ?_))|((with_reducible show qB ..);(refine rd rfl (Rp true rfl rfl rfl HW) ?_))|((with_reducible show qB ..);(refine rd rfl (Rp false rfl rfl rfl HM9) ?_))))
       go_roundg (100 - (i+1))
       case measure=>omega
       case rel=>exact⟨i+1,h1,by go_num,by have:=Aa HLT;omega,by omega,by omega,Aa HB1,Ab (g1.mono (by omega)),Ab (Sy.left (L:= [_,_,_]) (M:= [_,_,_,_]) (Aa SS))⟩
     ·have HW:decide (t.W=0)=false:=decide_eq_false hW
      clear hW hq
      go_wp2_with (first|go_skip|((with_reducible show wpList ..);first|((with_reducible show qF ..);((refine alS (v:= .agg (Bl Ay).toArray) 45 (Bl Ay) (by rfl) rfl (fun w=>by kernel_rfl) rfl (Nat.succ_pos _) (Aa SS) ?_);intro Xu Bu hEu Lu hbu;replace SS:=Ab Lu;clear Lu hbu hEu;simp only[nn]))|((with_reducible show qE ..);((refine stS (vs:=Bl n) 6 45 (by rfl) rfl rfl rfl rfl (Ed _) szN (Aa SS) rfl (by simp[Bw,VV.cs,KK.cs,DD.cs,Ak,Av,Bl,Ay,Dq]) ?_);intro Xv Lv hfv hsv;replace SS:=Ab Lv;clear Lv hfv hsv;simp only[nn]))|((with_reducible show qA ..);(refine rd rfl (Ad 3 isAgg3 rfl rfl ((Aa SS).hold 5 rfl) rfl) ?_))|((with_reducible show qB ..);(refine rd rfl (Rp false rfl rfl rfl HW) ?_))))
      go_roundg (100 - (i+1))
      case measure=>omega
      case rel=>exact⟨i+1,h1,by go_num,by have:=Aa HLT;omega,by omega,by omega,Aa HB1,Ab (g1.mono (by omega)),Ab (Sy.left (L:= [_,_,_]) (M:= [_,_,_,_]) (Aa SS))⟩
    ·have dlt:decide ((i:Int)<(fs.length:Int))=true:=decide_eq_true (by omega)
     have d100:decide ((i:Int)<100)=false:=decide_eq_false (by omega)
     go_wp2_with (first|go_skip|((with_reducible show wpList ..);first|((with_reducible show qA ..);(refine rd rfl (Ad 22 isAgg22 rfl rfl ((Aa SS).hold 0 rfl) rfl) ?_))|((with_reducible show qD ..);(refine rd rfl (Bi 22 59 underlying22 rfl rfl) ?_))))
     go_ret
     exact⟨rfl,(Aa SS).fr.below⟩
   ·obtain rfl:i=fs.length:=by omega
    go_wp2_with (first|go_skip|((with_reducible show wpList ..);first|((with_reducible show qA ..);(refine rd rfl (Ad 22 isAgg22 rfl rfl ((Aa SS).hold 0 rfl) rfl) ?_))|((with_reducible show qD ..);(refine rd rfl (Bi 22 59 underlying22 rfl rfl) ?_))))
    go_ret
    exact⟨rfl,(Aa SS).fr.below⟩
end
section
open Go Go.Proofs Go.RowKit Go.WideShapes Go.ChangeShapes Tryz
theorem Jn:prog.cellsOf 3=1:=by kernel_rfl
theorem ZcU:prog.cellsOf 4=1:=by kernel_rfl
theorem ZaB:prog.cellsOf 9=1:=by kernel_rfl
theorem Zfj:prog.cellsOf 34=1:=by kernel_rfl
theorem Ya:prog.cellsOf 37=1:=by kernel_rfl
theorem Ka:prog.cellsOf 36=5:=by kernel_rfl
theorem Xo:prog.cellsOf 48=2:=by kernel_rfl
theorem Xq:prog.cellsOf 39=18:=by kernel_rfl
theorem Za6:prog.cellsOf 69=20:=by kernel_rfl
theorem Za8:prog.cellsOf 50=34:=by kernel_rfl
theorem Za7:prog.cellsOf 59=59:=by kernel_rfl
theorem Zfk:prog.cellsOf 24=4:=by kernel_rfl
theorem Zfl:prog.cellsOf 22=1:=by kernel_rfl
theorem Za9:prog.cellsOf 41=1:=by kernel_rfl
theorem Zfg:prog.cellsOf 52=1:=by kernel_rfl
theorem Zfh:prog.cellsOf 51=1:=by kernel_rfl
theorem Zfi:prog.cellsOf 40=1:=by kernel_rfl
theorem Zff:prog.cellsOf 53=1:=by kernel_rfl
theorem Zfe:prog.cellsOf 54=1:=by kernel_rfl
theorem Zfd:prog.cellsOf 55=3:=by kernel_rfl
theorem Zfc:prog.cellsOf 56=1:=by kernel_rfl
theorem Zfb:prog.cellsOf 57=1:=by kernel_rfl
theorem Bz {H:Type}: ∀d:DataW H,1<=Rows.uptoBulk d:=by
 intro d
 cases d with
 |lit l=>cases l<;>simp[Rows.uptoBulk]
 |_=>simp[Rows.uptoBulk]
theorem Yi {H:Type} {d:DataW H}: ∀{l:List (DataW H)},d∈l->Rows.uptoBulk d<=Rows.uptoBulkAll l
 |a::l,h=>by
  rw[Rows.uptoBulkAll]
  rcases List.mem_cons.1 h with rfl|h
  ·omega
  ·have:=Yi h
   omega
theorem Yj {H:Type} {k:Nat}: ∀{l:List (DataW H)},(∀d∈l,k<=Rows.uptoBulk d)->k * l.length<=Rows.uptoBulkAll l
 | [],_=>by simp
 |a::l,h=>by
  rw[Rows.uptoBulkAll,List.length_cons,Nat.mul_succ]
  have h1:=h a (List.mem_cons_self ..)
  have h2:=Yj (fun d hd=>h d (List.mem_cons_of_mem a hd))
  omega
section
variable {H : Type} {enc : TypeId × Value → H} {P : Program} {W : World} {base : Nat} {sp : Nat → Bool} {held : Bool} {m : Nat} {c : Value} {x : DataW H × List MemPlace} {t : TypeId}
theorem Zba (hu:P.underlying t=some .bool) (h:DataW.trod enc P W base sp held m t [c]=some x): ∃b,c= .bool b:=by
 cases m with
 |zero=>simp[DataW.trod] at h
 |succ m=>
  unfold DataW.trod at h
  rw[hu] at h
  split at h<;>simp_all
theorem ZdK (hu:P.underlying t=some (.float .f64)) (h:DataW.trod enc P W base sp held m t [c]=some x): ∃b,c= .float .f64 b/\b<2^64:=by
 cases m with
 |zero=>simp[DataW.trod] at h
 |succ m=>
  unfold DataW.trod at h
  rw[hu] at h
  split at h<;>simp_all
  rename_i e
  subst e
  have h1:=h.1.2
  unfold Lit.wf at h1
  exact of_decide_eq_true h1
theorem Qh (hu:P.underlying t=some .string) (h:DataW.trod enc P W base sp held m t [c]=some x): ∃s,c= .string s/\s.size<=maxLen:=by
 cases m with
 |zero=>simp[DataW.trod] at h
 |succ m=>
  unfold DataW.trod at h
  rw[hu] at h
  split at h<;>simp_all
theorem Ga (hu:P.underlying t=some (.int .i64)) (h:DataW.trod enc P W base sp held m t [c]=some x): ∃n,c= .int .i64 n/\(Lit.int .i64 n).wf=true:=by
 cases m with
 |zero=>simp[DataW.trod] at h
 |succ m=>
  unfold DataW.trod at h
  rw[hu] at h
  split at h<;>simp_all
theorem Kl {e:TypeId} (hu:P.underlying t=some (.slice e)) (h:DataW.trod enc P W base sp held m t [c]=some x):c.oneCell'=true:=by
 rcases Go.Deep.open_slice hu h with ⟨hcs, -⟩|⟨a,len,cap,m',k,D,Pl,hcs, -⟩
 ·obtain rfl:=List.singleton_inj.1 hcs;rfl
 ·obtain rfl:=List.singleton_inj.1 hcs;rfl
end
theorem Zeb {n:Int} (h:(Lit.int .i64 n).wf=true):n<=9223372036854775807:=by
 have h2:(decide (IntKind.i64.min<=n) && decide (n<=IntKind.i64.max))=true:=h
 rw[Bool.and_eq_true] at h2
 exact of_decide_eq_true h2.2
theorem Zb0 {H:Type} {enc:TypeId×Value->H} {W:World} {sp:Nat->Bool} {held:Bool} {m:Nat} {x:DataW H×List MemPlace} {t:TypeId} {f0 f1 f2 f3 f4:Field} {cs:List Value} (hs:prog.underlying t=some (.struct #[f0,f1,f2,f3,f4])) (hC:prog.cellsOf t=5) (o0:f0.offset=0) (o1:f1.offset=1) (o2:f2.offset=2) (o3:f3.offset=3) (o4:f4.offset=4) (t0:f0.type=3) (t1:f1.type=4) (t2:f2.type=34) (t3:f3.type=9) (t4:f4.type=3) (h:DataW.trod enc prog W 0 sp held m t cs=some x):(∃u:VV,cs=u.cs/\u.x<2^64)/\6<=Rows.uptoBulk x.1:=by
 obtain⟨xs,n,_,hx,hl,hlen,hf⟩:=DataW.trod_struct hs h
 rw[hC] at hl
 have hlen2:xs.length=5:=hlen
 clear h hlen
 have h0:=hf 0 f0 rfl
 have h1:=hf 1 f1 rfl
 have h2:=hf 2 f2 rfl
 have h3:=hf 3 f3 rfl
 have h4:=hf 4 f4 rfl
 clear hf
 match xs,hlen2 with
 | [y0,y1,y2,y3,y4],_=>
  match cs,hl with
  |c0::c1::c2::c3::c4:: [],_=>
   rw[t0,o0,Jn] at h0
   rw[t1,o1,ZcU] at h1
   rw[t2,o2,Zfj] at h2
   rw[t3,o3,ZaB] at h3
   rw[t4,o4,Jn] at h4
   replace h0:DataW.trod enc prog W 0 sp held n 3 (c0:: [])=some y0:=h0
   replace h1:DataW.trod enc prog W 0 sp held n 4 (c1:: [])=some y1:=h1
   replace h2:DataW.trod enc prog W 0 sp held n 34 (c2:: [])=some y2:=h2
   replace h3:DataW.trod enc prog W 0 sp held n 9 (c3:: [])=some y3:=h3
   replace h4:DataW.trod enc prog W 0 sp held n 3 (c4:: [])=some y4:=h4
   subst hx
   have hbk:Rows.uptoBulk (H:=H) (.agg [y0.1,y1.1,y2.1,y3.1,y4.1])=Rows.uptoBulk y0.1+Rows.uptoBulk y1.1+Rows.uptoBulk y2.1+Rows.uptoBulk y3.1+Rows.uptoBulk y4.1+1:=by simp only[Rows.uptoBulk,Rows.uptoBulkAll];omega
   have p0:=Bz y0.1
   have p1:=Bz y1.1
   have p2:=Bz y2.1
   have p3:=Bz y3.1
   have p4:=Bz y4.1
   simp only[List.map_cons,List.map_nil]
   rw[hbk]
   obtain⟨k,rfl, -⟩:=Ga underlying3 h0
   obtain⟨b,rfl⟩:=Zba underlying4 h1
   obtain⟨f,rfl,wf⟩:=ZdK underlying34 h2
   obtain⟨s,rfl, -⟩:=Qh underlying9 h3
   obtain⟨i,rfl, -⟩:=Ga underlying3 h4
   exact⟨⟨⟨k,b,f,s,i⟩,rfl,wf⟩,by omega⟩
theorem Jh {H:Type} {enc:TypeId×Value->H} {W:World} {sp:Nat->Bool} {held:Bool} {m:Nat} {x:DataW H×List MemPlace} {cs:List Value} (h:DataW.trod enc prog W 0 sp held m 36 cs=some x):(∃u:VV,cs=u.cs/\u.x<2^64)/\6<=Rows.uptoBulk x.1:=Zb0 underlying36 Ka rfl rfl rfl rfl rfl rfl rfl rfl rfl rfl h
theorem ZdH {H:Type} {enc:TypeId×Value->H} {W:World} {sp:Nat->Bool} {held:Bool} {m:Nat} {x:DataW H×List MemPlace} {t:TypeId} {f0 f1:Field} {cs:List Value} (hs:prog.underlying t=some (.struct #[f0,f1])) (hC:prog.cellsOf t=2) (o0:f0.offset=0) (o1:f1.offset=1) (t0:f0.type=9) (t1:f1.type=3) (h:DataW.trod enc prog W 0 sp held m t cs=some x):(∃u:KK,cs=u.cs/\OkK u)/\3<=Rows.uptoBulk x.1:=by
 obtain⟨xs,n,_,hx,hl,hlen,hf⟩:=DataW.trod_struct hs h
 rw[hC] at hl
 have hlen2:xs.length=2:=hlen
 clear h hlen
 have h0:=hf 0 f0 rfl
 have h1:=hf 1 f1 rfl
 clear hf
 match xs,hlen2 with
 | [y0,y1],_=>
  match cs,hl with
  |c0::c1:: [],_=>
   rw[t0,o0,ZaB] at h0
   rw[t1,o1,Jn] at h1
   replace h0:DataW.trod enc prog W 0 sp held n 9 (c0:: [])=some y0:=h0
   replace h1:DataW.trod enc prog W 0 sp held n 3 (c1:: [])=some y1:=h1
   subst hx
   have hbk:Rows.uptoBulk (H:=H) (.agg [y0.1,y1.1])=Rows.uptoBulk y0.1+Rows.uptoBulk y1.1+1:=by simp only[Rows.uptoBulk,Rows.uptoBulkAll];omega
   have p0:=Bz y0.1
   have p1:=Bz y1.1
   simp only[List.map_cons,List.map_nil]
   rw[hbk]
   obtain⟨s,rfl,hs1⟩:=Qh underlying9 h0
   obtain⟨n,rfl,hn1⟩:=Ga underlying3 h1
   exact⟨⟨⟨s,n⟩,rfl,hs1,hn1⟩,by omega⟩
theorem Za5 {H:Type} {enc:TypeId×Value->H} {W:World} {sp:Nat->Bool} {held:Bool} {m:Nat} {x:DataW H×List MemPlace} {cs:List Value} (h:DataW.trod enc prog W 0 sp held m 48 cs=some x):(∃u:KK,cs=u.cs/\OkK u)/\3<=Rows.uptoBulk x.1:=ZdH underlying48 Xo rfl rfl rfl rfl h
theorem ZcT {H:Type} {enc:TypeId×Value->H} {W:World} {sp:Nat->Bool} {held:Bool} {m:Nat} {x:DataW H×List MemPlace} {t:TypeId} {f0 f1 f2 f3 f4 f5:Field} {cs:List Value} (hs:prog.underlying t=some (.struct #[f0,f1,f2,f3,f4,f5])) (hC:prog.cellsOf t=18) (o0:f0.offset=0) (o1:f1.offset=5) (o2:f2.offset=10) (o3:f3.offset=15) (o4:f4.offset=16) (o5:f5.offset=17) (t0:f0.type=36) (t1:f1.type=36) (t2:f2.type=36) (t3:f3.type=37) (t4:f4.type=37) (t5:f5.type=37) (h:DataW.trod enc prog W 0 sp held m t cs=some x):(∃u:DD,cs=u.cs/\FD u)/\22<=Rows.uptoBulk x.1:=by
 obtain⟨xs,n,_,hx,hl,hlen,hf⟩:=DataW.trod_struct hs h
 rw[hC] at hl
 have hlen2:xs.length=6:=hlen
 clear h hlen
 have h0:=hf 0 f0 rfl
 have h1:=hf 1 f1 rfl
 have h2:=hf 2 f2 rfl
 have h3:=hf 3 f3 rfl
 have h4:=hf 4 f4 rfl
 have h5:=hf 5 f5 rfl
 clear hf
 match xs,hlen2 with
 | [y0,y1,y2,y3,y4,y5],_=>
  match cs,hl with
  |c0::c1::c2::c3::c4::c5::c6::c7::c8::c9::c10::c11::c12::c13::c14::c15::c16::c17:: [],_=>
   rw[t0,o0,Ka] at h0
   rw[t1,o1,Ka] at h1
   rw[t2,o2,Ka] at h2
   rw[t3,o3,Ya] at h3
   rw[t4,o4,Ya] at h4
   rw[t5,o5,Ya] at h5
   replace h0:DataW.trod enc prog W 0 sp held n 36 (c0::c1::c2::c3::c4:: [])=some y0:=h0
   replace h1:DataW.trod enc prog W 0 sp held n 36 (c5::c6::c7::c8::c9:: [])=some y1:=h1
   replace h2:DataW.trod enc prog W 0 sp held n 36 (c10::c11::c12::c13::c14:: [])=some y2:=h2
   replace h3:DataW.trod enc prog W 0 sp held n 37 (c15:: [])=some y3:=h3
   replace h4:DataW.trod enc prog W 0 sp held n 37 (c16:: [])=some y4:=h4
   replace h5:DataW.trod enc prog W 0 sp held n 37 (c17:: [])=some y5:=h5
   subst hx
   have hbk:Rows.uptoBulk (H:=H) (.agg [y0.1,y1.1,y2.1,y3.1,y4.1,y5.1])=Rows.uptoBulk y0.1+Rows.uptoBulk y1.1+Rows.uptoBulk y2.1+Rows.uptoBulk y3.1+Rows.uptoBulk y4.1+Rows.uptoBulk y5.1+1:=by simp only[Rows.uptoBulk,Rows.uptoBulkAll];omega
   have p0:=Bz y0.1
   have p1:=Bz y1.1
   have p2:=Bz y2.1
   have p3:=Bz y3.1
   have p4:=Bz y4.1
   have p5:=Bz y5.1
   simp only[List.map_cons,List.map_nil]
   rw[hbk]
   obtain⟨⟨v,q0,x0⟩,bb0⟩:=Jh h0
   simp only[VV.cs,List.cons.injEq] at q0
   obtain⟨rfl,rfl,rfl,rfl,rfl, -⟩:=q0
   obtain⟨⟨g,q1,x1⟩,bb1⟩:=Jh h1
   simp only[VV.cs,List.cons.injEq] at q1
   obtain⟨rfl,rfl,rfl,rfl,rfl, -⟩:=q1
   obtain⟨⟨s,q2,x2⟩,bb2⟩:=Jh h2
   simp only[VV.cs,List.cons.injEq] at q2
   obtain⟨rfl,rfl,rfl,rfl,rfl, -⟩:=q2
   obtain⟨a,rfl, -⟩:=Ga underlying37 h3
   obtain⟨e,rfl, -⟩:=Ga underlying37 h4
   obtain⟨c,rfl, -⟩:=Ga underlying37 h5
   exact⟨⟨⟨v,g,s,a,e,c⟩,rfl,x0,x1,x2⟩,by omega⟩
theorem ZaA {H:Type} {enc:TypeId×Value->H} {W:World} {sp:Nat->Bool} {held:Bool} {m:Nat} {x:DataW H×List MemPlace} {cs:List Value} (h:DataW.trod enc prog W 0 sp held m 39 cs=some x):(∃u:DD,cs=u.cs/\FD u)/\22<=Rows.uptoBulk x.1:=ZcT underlying39 Xq rfl rfl rfl rfl rfl rfl rfl rfl rfl rfl rfl rfl h
theorem ZcS {H:Type} {enc:TypeId×Value->H} {W:World} {sp:Nat->Bool} {held:Bool} {m:Nat} {x:DataW H×List MemPlace} {t:TypeId} {f0 f1:Field} {cs:List Value} (hs:prog.underlying t=some (.struct #[f0,f1])) (hC:prog.cellsOf t=20) (o0:f0.offset=0) (o1:f1.offset=2) (t0:f0.type=48) (t1:f1.type=39) (h:DataW.trod enc prog W 0 sp held m t cs=some x):(∃u:KK×DD,(FD u.2/\OkK u.1)/\cs=prC u)/\26<=Rows.uptoBulk x.1:=by
 obtain⟨xs,n,_,hx,hl,hlen,hf⟩:=DataW.trod_struct hs h
 rw[hC] at hl
 have hlen2:xs.length=2:=hlen
 clear h hlen
 have h0:=hf 0 f0 rfl
 have h1:=hf 1 f1 rfl
 clear hf
 match xs,hlen2 with
 | [y0,y1],_=>
  match cs,hl with
  |c0::c1::c2::c3::c4::c5::c6::c7::c8::c9::c10::c11::c12::c13::c14::c15::c16::c17::c18::c19:: [],_=>
   rw[t0,o0,Xo] at h0
   rw[t1,o1,Xq] at h1
   replace h0:DataW.trod enc prog W 0 sp held n 48 (c0::c1:: [])=some y0:=h0
   replace h1:DataW.trod enc prog W 0 sp held n 39 (c2::c3::c4::c5::c6::c7::c8::c9::c10::c11::c12::c13::c14::c15::c16::c17::c18::c19:: [])=some y1:=h1
   subst hx
   have hbk:Rows.uptoBulk (H:=H) (.agg [y0.1,y1.1])=Rows.uptoBulk y0.1+Rows.uptoBulk y1.1+1:=by simp only[Rows.uptoBulk,Rows.uptoBulkAll];omega
   have p0:=Bz y0.1
   have p1:=Bz y1.1
   simp only[List.map_cons,List.map_nil]
   rw[hbk]
   obtain⟨⟨k,q0,k1⟩,bb0⟩:=Za5 h0
   obtain⟨⟨d,q1,d1⟩,bb1⟩:=ZaA h1
   refine⟨⟨(k,d),⟨d1,k1⟩, ?_⟩,by omega⟩
   show [c0,c1,c2,c3,c4,c5,c6,c7,c8,c9,c10,c11,c12,c13,c14,c15,c16,c17,c18,c19]=k.cs++d.cs
   rw[←q0,←q1]
   rfl
theorem ZdG {H:Type} {enc:TypeId×Value->H} {W:World} {sp:Nat->Bool} {held:Bool} {m:Nat} {x:DataW H×List MemPlace} {cs:List Value} (h:DataW.trod enc prog W 0 sp held m 69 cs=some x):(∃u:KK×DD,(FD u.2/\OkK u.1)/\cs=prC u)/\26<=Rows.uptoBulk x.1:=ZcS underlying69 Za6 rfl rfl rfl rfl h
theorem ZaX (b o i:Nat):(Addr.add ⟨b,o,none⟩ i)=⟨b,o+i,none⟩:=by
 unfold Addr.add
 by_cases h:i=0
 ·subst h;simp
 ·simp[h]
theorem ZeG {w:World} {b o:Nat} {sp:Option Nat} {v:Value} (h:w.cell? ⟨b,o,sp⟩=some v):sp=none/\b<w.heap.size:=by
 constructor
 ·cases sp with
  |none=>rfl
  |some s=>
   simp only[World.cell?] at h
   split at h<;>simp at h
 ·rcases Nat.lt_or_ge b w.heap.size with h'|h'
  ·exact h'
  ·simp[World.cell?,Array.getElem?_eq_none h'] at h
theorem rows_of {α:Type} {f:α->List Value} {k:Nat} (hk: ∀a,(f a).length=k) (h0:0<k) {Pr:α->Prop} {W:World} {a:Addr} {n:Nat} (each: ∀i,i<n-> ∃u:α,Pr u/\W.cells? 0 (a.add (i * k)) k=some (f u)):
  ∃l:List α,l.length=n/\ ∀(j:Nat) (u:α),l[j]? =some u->Pr u/\ ∃b off,a=⟨b,off,none⟩/\b<W.heap.size/\W.rangeAt b (off+j * k) (f u):=by
 have mk: ∀q,q<=n-> ∃l:List α,l.length=q/\ ∀(i:Nat) (u:α),l[i]? =some u->Pr u/\W.cells? 0 (a.add (i * k)) k=some (f u):=by
  intro q
  induction q with
  |zero=>exact fun _=>⟨[],rfl,fun i u hu=>by simp at hu⟩
  |succ q ih=>
   intro hq
   obtain⟨l,hl,hl2⟩:=ih (by omega)
   obtain⟨u,hu2⟩:=each q (by omega)
   refine⟨l++ [u],by simp[hl],fun i u' hu'=> ?_⟩
   rcases Nat.lt_or_ge i l.length with h1|h1
   ·rw[List.getElem?_append_left h1] at hu'
    exact hl2 i u' hu'
   ·rw[List.getElem?_append_right h1] at hu'
    have h3:=(List.getElem?_eq_some_iff.1 hu').1
    have h4:i=q:=by simp at h3;omega
    subst h4
    rw[hl,Nat.sub_self] at hu'
    obtain rfl:u=u':=by simpa using hu'
    exact hu2
 obtain⟨l,hll,hlc⟩:=mk n (Nat.le_refl _)
 refine⟨l,hll,fun j u hu=>⟨(hlc j u hu).1, ?_⟩⟩
 have h1:=(World.cells?_some (hlc j u hu).2).2.2
 obtain⟨b,off,sp⟩:=a
 have hl0:0<l.length:=Nat.lt_of_le_of_lt (Nat.zero_le _) (List.getElem?_eq_some_iff.1 hu).1
 have h00:=(World.cells?_some (hlc 0 l[0] (List.getElem?_eq_getElem hl0)).2).2.2 0 h0
 have e0:(Addr.add (Addr.add ⟨b,off,sp⟩ (0 * k)) 0)=⟨b,off,sp⟩:=by simp[Addr.add]
 have hlen:0<(f l[0]).length:=by rw[hk];exact h0
 rw[e0,List.getElem?_eq_getElem hlen] at h00
 obtain⟨rfl,hb⟩:=ZeG h00
 refine⟨b,off,rfl,hb,fun t v hv=> ?_⟩
 have ht:t<k:=by
  have:=(List.getElem?_eq_some_iff.1 hv).1
  rwa [hk] at this
 have h2:=h1 t ht
 rw[ZaX,ZaX] at h2
 rw[h2]
 exact hv
theorem Zdl {H:Type} {enc:TypeId×Value->H} {W:World} {sp:Nat->Bool} {held:Bool} {m:Nat} {x:DataW H×List MemPlace} {α:Type} {f:α->List Value} {k kb B:Nat} (hk: ∀a,(f a).length=k) (h0:0<k) {Pr:α->Prop} {t e:TypeId} (ht:prog.underlying t=some (.slice e)) (hce:prog.cellsOf e=k)
  (each: ∀(n:Nat) (cs:List Value) (y:DataW H×List MemPlace),DataW.trod enc prog W 0 sp held n e cs=some y->Rows.uptoBulk y.1<=B->(∃u:α,Pr u/\cs=f u)/\kb<=Rows.uptoBulk y.1)
  {c:Value} (h:DataW.trod enc prog W 0 sp held m t [c]=some x) (hB:Rows.uptoBulk x.1<=B):
  ∃(A:Option Addr) (cap:Nat) (l:List α),c= .slice A l.length cap/\(A=none->l.length=0/\cap=0)/\ReadsG f k W A l/\(∀u∈l,Pr u)/\kb * l.length<=Rows.uptoBulk x.1:=by
 rcases Go.Deep.open_slice ht h with ⟨hcs,hx⟩|⟨a,len,cap,m',k',D,Pl,hcs, -,hl,hm,hme,hx,hel⟩
 ·obtain rfl:=List.singleton_inj.1 hcs
  exact⟨none,0, [],rfl,fun _=>⟨rfl,rfl⟩,fun j u hj=>by simp at hj,fun u hu=>by simp at hu,by simp⟩
 ·obtain rfl:=List.singleton_inj.1 hcs
  subst hx
  have hlm:len<=m':=by rw[hme];split<;>omega
  have hbs:Rows.uptoBulkAll ((List.range len).map D)+1<=Rows.uptoBulk (H:=H) (.slice ((List.range len).map D) ((List.range (m' - len)).map fun j=>D (len+j))):=by
   rw[Rows.uptoBulk]
   omega
  have hB2:Rows.uptoBulk (H:=H) (.slice ((List.range len).map D) ((List.range (m' - len)).map fun j=>D (len+j)))<=B:=hB
  have hbi: ∀i,i<len->Rows.uptoBulk (D i)<=B:=fun i hi=>by
   have:=Yi (List.mem_map_of_mem (f:=D) (List.mem_range.2 hi))
   omega
  rw[hce] at hel
  have each': ∀i,i<len-> ∃u:α,Pr u/\W.cells? 0 (a.add (i * k)) k=some (f u):=fun i hi=>by
   obtain⟨cs',h1,h2⟩:=hel i (by omega)
   obtain⟨⟨u,hu,rfl⟩, -⟩:=each _ _ _ h2 (hbi i hi)
   exact⟨u,hu,h1⟩
  obtain⟨l,hll,hl2⟩:=rows_of hk h0 each'
  refine⟨some a,cap,l,by rw[hll],(fun h=>by cases h),fun j u hj=> ?_,fun u hu=> ?_, ?_⟩
  ·obtain⟨-,b,off,rfl,hb,hr⟩:=hl2 j u hj
   exact⟨b,off,rfl,hb,hr⟩
  ·obtain⟨j,hj⟩:=List.getElem?_of_mem hu
   exact(hl2 j u hj).1
  ·have h9:kb * ((List.range len).map D).length<=Rows.uptoBulkAll ((List.range len).map D):=Yj (fun d hd=>by
    obtain⟨i,hi,rfl⟩:=List.mem_map.1 hd
    obtain⟨cs', -,h2⟩:=hel i (by have:=List.mem_range.1 hi;omega)
    exact(each _ _ _ h2 (hbi i (List.mem_range.1 hi))).2)
   rw[List.length_map,List.length_range] at h9
   rw[hll]
   show kb * len<=Rows.uptoBulk (H:=H) (.slice _ _)
   omega
structure AKR where
 M:Int
 o:Int
 T:Int
 k:KK
 v:VV
 r:VV
 d:DD
 A:Option Addr
 c:Nat
 l:List VV
def AKR.cs (a:AKR):List Value:=Je a.M a.o a.T a.k a.v a.r a.d (.slice a.A a.l.length a.c)
def AKR.Ok (a:AKR) (W:World):Prop:=OkK a.k/\a.v.x<2^64/\a.r.x<2^64/\FD a.d/\a.l.length<=1000000/\(∀v∈a.l,v.x<2^64)/\(a.A=none->a.l.length=0/\a.c=0)/\Gv W a.A a.l
theorem ZdI {H:Type} {enc:TypeId×Value->H} {W:World} {sp:Nat->Bool} {held:Bool} {m:Nat} {x:DataW H×List MemPlace} {t:TypeId} {f0 f1 f2 f3 f4 f5 f6 f7:Field} {cs:List Value} (hs:prog.underlying t=some (.struct #[f0,f1,f2,f3,f4,f5,f6,f7])) (hC:prog.cellsOf t=34) (o0:f0.offset=0) (o1:f1.offset=1) (o2:f2.offset=2) (o3:f3.offset=3) (o4:f4.offset=5) (o5:f5.offset=10) (o6:f6.offset=15) (o7:f7.offset=33) (t0:f0.type=3) (t1:f1.type=3) (t2:f2.type=3) (t3:f3.type=48) (t4:f4.type=36) (t5:f5.type=36) (t6:f6.type=39) (t7:f7.type=41) (hB:Rows.uptoBulk x.1<=1048576) (h:DataW.trod enc prog W 0 sp held m t cs=some x): ∃u:AKR,cs=u.cs/\u.Ok W:=by
 obtain⟨xs,n,_,hx,hl,hlen,hf⟩:=DataW.trod_struct hs h
 rw[hC] at hl
 have hlen2:xs.length=8:=hlen
 clear h hlen
 have h0:=hf 0 f0 rfl
 have h1:=hf 1 f1 rfl
 have h2:=hf 2 f2 rfl
 have h3:=hf 3 f3 rfl
 have h4:=hf 4 f4 rfl
 have h5:=hf 5 f5 rfl
 have h6:=hf 6 f6 rfl
 have h7:=hf 7 f7 rfl
 clear hf
 match xs,hlen2 with
 | [y0,y1,y2,y3,y4,y5,y6,y7],_=>
  match cs,hl with
  |c0::c1::c2::c3::c4::c5::c6::c7::c8::c9::c10::c11::c12::c13::c14::c15::c16::c17::c18::c19::c20::c21::c22::c23::c24::c25::c26::c27::c28::c29::c30::c31::c32::c33:: [],_=>
   rw[t0,o0,Jn] at h0
   rw[t1,o1,Jn] at h1
   rw[t2,o2,Jn] at h2
   rw[t3,o3,Xo] at h3
   rw[t4,o4,Ka] at h4
   rw[t5,o5,Ka] at h5
   rw[t6,o6,Xq] at h6
   rw[t7,o7,Za9] at h7
   replace h0:DataW.trod enc prog W 0 sp held n 3 (c0:: [])=some y0:=h0
   replace h1:DataW.trod enc prog W 0 sp held n 3 (c1:: [])=some y1:=h1
   replace h2:DataW.trod enc prog W 0 sp held n 3 (c2:: [])=some y2:=h2
   replace h3:DataW.trod enc prog W 0 sp held n 48 (c3::c4:: [])=some y3:=h3
   replace h4:DataW.trod enc prog W 0 sp held n 36 (c5::c6::c7::c8::c9:: [])=some y4:=h4
   replace h5:DataW.trod enc prog W 0 sp held n 36 (c10::c11::c12::c13::c14:: [])=some y5:=h5
   replace h6:DataW.trod enc prog W 0 sp held n 39 (c15::c16::c17::c18::c19::c20::c21::c22::c23::c24::c25::c26::c27::c28::c29::c30::c31::c32:: [])=some y6:=h6
   replace h7:DataW.trod enc prog W 0 sp held n 41 (c33:: [])=some y7:=h7
   subst hx
   have hbk:Rows.uptoBulk (H:=H) (.agg [y0.1,y1.1,y2.1,y3.1,y4.1,y5.1,y6.1,y7.1])=Rows.uptoBulk y0.1+Rows.uptoBulk y1.1+Rows.uptoBulk y2.1+Rows.uptoBulk y3.1+Rows.uptoBulk y4.1+Rows.uptoBulk y5.1+Rows.uptoBulk y6.1+Rows.uptoBulk y7.1+1:=by simp only[Rows.uptoBulk,Rows.uptoBulkAll];omega
   have p0:=Bz y0.1
   have p1:=Bz y1.1
   have p2:=Bz y2.1
   have p3:=Bz y3.1
   have p4:=Bz y4.1
   have p5:=Bz y5.1
   have p6:=Bz y6.1
   have p7:=Bz y7.1
   simp only[List.map_cons,List.map_nil] at hB
   rw[hbk] at hB
   obtain⟨M,rfl, -⟩:=Ga underlying3 h0
   obtain⟨o,rfl, -⟩:=Ga underlying3 h1
   obtain⟨T,rfl, -⟩:=Ga underlying3 h2
   obtain⟨⟨k,q3,k1⟩, -⟩:=Za5 h3
   obtain⟨⟨v,q4,x4⟩, -⟩:=Jh h4
   obtain⟨⟨r,q5,x5⟩, -⟩:=Jh h5
   obtain⟨⟨d,q6,d1⟩, -⟩:=ZaA h6
   obtain⟨A,c,l,rfl,hA,hR,hp,hn⟩:=Zdl (f:=VV.cs) (k:=5) (kb:=6) (Pr:=fun v:VV=>v.x<2^64) (B:=1048576) (fun _=>rfl) (by omega) underlying41 Ka (fun n cs y h hb=>by obtain⟨⟨u,e,hx⟩,h6⟩:=Jh h;exact⟨⟨u,hx,e⟩,h6⟩) h7 (by omega)
   refine⟨⟨M,o,T,k,v,r,d,A,c,l⟩, ?_,k1,x4,x5,d1,by show l.length<=1000000;omega,hp,hA,hR⟩
   show _= [Value.int .i64 M, .int .i64 o, .int .i64 T]++k.cs++v.cs++r.cs++d.cs++ [_]
   rw[←q3,←q4,←q5,←q6]
   rfl
theorem Ze9 {H:Type} {enc:TypeId×Value->H} {W:World} {sp:Nat->Bool} {held:Bool} {m:Nat} {x:DataW H×List MemPlace} {cs:List Value} (hB:Rows.uptoBulk x.1<=1048576) (h:DataW.trod enc prog W 0 sp held m 50 cs=some x): ∃u:AKR,cs=u.cs/\u.Ok W:=ZdI underlying50 Za8 rfl rfl rfl rfl rfl rfl rfl rfl rfl rfl rfl rfl rfl rfl rfl rfl hB h
theorem ZdJ {H:Type} {enc:TypeId×Value->H} {W:World} {sp:Nat->Bool} {held:Bool} {m:Nat} {x:DataW H×List MemPlace} {t:TypeId} {f0 f1 f2 f3 f4 f5 f6 f7 f8 f9 f10 f11 f12 f13 f14 f15:Field} {cs:List Value} (hs:prog.underlying t=some (.struct #[f0,f1,f2,f3,f4,f5,f6,f7,f8,f9,f10,f11,f12,f13,f14,f15])) (hC:prog.cellsOf t=59) (o0:f0.offset=0) (o1:f1.offset=1) (o2:f2.offset=35) (o3:f3.offset=40) (o4:f4.offset=41) (o5:f5.offset=42) (o6:f6.offset=43) (o7:f7.offset=44) (o8:f8.offset=45) (o9:f9.offset=46) (o10:f10.offset=47) (o11:f11.offset=48) (o12:f12.offset=49) (o13:f13.offset=54) (o14:f14.offset=57) (o15:f15.offset=58) (t0:f0.type=3) (t1:f1.type=50) (t2:f2.type=36) (t3:f3.type=3) (t4:f4.type=51) (t5:f5.type=4) (t6:f6.type=41) (t7:f7.type=40) (t8:f8.type=9) (t9:f9.type=52) (t10:f10.type=53) (t11:f11.type=54) (t12:f12.type=36) (t13:f13.type=55) (t14:f14.type=56) (t15:f15.type=57) (hB:Rows.uptoBulk x.1<=1048576) (h:DataW.trod enc prog W 0 sp held m t cs=some x):(∃u:AT,(u.Ok/\u.ds.length<=43800/\u.Reads W)/\cs=actC u)/\17<=Rows.uptoBulk x.1:=by
 obtain⟨xs,n,_,hx,hl,hlen,hf⟩:=DataW.trod_struct hs h
 rw[hC] at hl
 have hlen2:xs.length=16:=hlen
 clear h hlen
 have h0:=hf 0 f0 rfl
 have h1:=hf 1 f1 rfl
 have h2:=hf 2 f2 rfl
 have h3:=hf 3 f3 rfl
 have h4:=hf 4 f4 rfl
 have h5:=hf 5 f5 rfl
 have h6:=hf 6 f6 rfl
 have h7:=hf 7 f7 rfl
 have h8:=hf 8 f8 rfl
 have h9:=hf 9 f9 rfl
 have h10:=hf 10 f10 rfl
 have h11:=hf 11 f11 rfl
 have h12:=hf 12 f12 rfl
 have h13:=hf 13 f13 rfl
 have h14:=hf 14 f14 rfl
 have h15:=hf 15 f15 rfl
 clear hf
 match xs,hlen2 with
 | [y0,y1,y2,y3,y4,y5,y6,y7,y8,y9,y10,y11,y12,y13,y14,y15],_=>
  match cs,hl with
  |c0::c1::c2::c3::c4::c5::c6::c7::c8::c9::c10::c11::c12::c13::c14::c15::c16::c17::c18::c19::c20::c21::c22::c23::c24::c25::c26::c27::c28::c29::c30::c31::c32::c33::c34::c35::c36::c37::c38::c39::c40::c41::c42::c43::c44::c45::c46::c47::c48::c49::c50::c51::c52::c53::c54::c55::c56::c57::c58:: [],_=>
   rw[t0,o0,Jn] at h0
   rw[t1,o1,Za8] at h1
   rw[t2,o2,Ka] at h2
   rw[t3,o3,Jn] at h3
   rw[t4,o4,Zfh] at h4
   rw[t5,o5,ZcU] at h5
   rw[t6,o6,Za9] at h6
   rw[t7,o7,Zfi] at h7
   rw[t8,o8,ZaB] at h8
   rw[t9,o9,Zfg] at h9
   rw[t10,o10,Zff] at h10
   rw[t11,o11,Zfe] at h11
   rw[t12,o12,Ka] at h12
   rw[t13,o13,Zfd] at h13
   rw[t14,o14,Zfc] at h14
   rw[t15,o15,Zfb] at h15
   replace h0:DataW.trod enc prog W 0 sp held n 3 (c0:: [])=some y0:=h0
   replace h1:DataW.trod enc prog W 0 sp held n 50 (c1::c2::c3::c4::c5::c6::c7::c8::c9::c10::c11::c12::c13::c14::c15::c16::c17::c18::c19::c20::c21::c22::c23::c24::c25::c26::c27::c28::c29::c30::c31::c32::c33::c34:: [])=some y1:=h1
   replace h2:DataW.trod enc prog W 0 sp held n 36 (c35::c36::c37::c38::c39:: [])=some y2:=h2
   replace h3:DataW.trod enc prog W 0 sp held n 3 (c40:: [])=some y3:=h3
   replace h4:DataW.trod enc prog W 0 sp held n 51 (c41:: [])=some y4:=h4
   replace h5:DataW.trod enc prog W 0 sp held n 4 (c42:: [])=some y5:=h5
   replace h6:DataW.trod enc prog W 0 sp held n 41 (c43:: [])=some y6:=h6
   replace h7:DataW.trod enc prog W 0 sp held n 40 (c44:: [])=some y7:=h7
   replace h8:DataW.trod enc prog W 0 sp held n 9 (c45:: [])=some y8:=h8
   replace h9:DataW.trod enc prog W 0 sp held n 52 (c46:: [])=some y9:=h9
   replace h10:DataW.trod enc prog W 0 sp held n 53 (c47:: [])=some y10:=h10
   replace h11:DataW.trod enc prog W 0 sp held n 54 (c48:: [])=some y11:=h11
   replace h12:DataW.trod enc prog W 0 sp held n 36 (c49::c50::c51::c52::c53:: [])=some y12:=h12
   replace h13:DataW.trod enc prog W 0 sp held n 55 (c54::c55::c56:: [])=some y13:=h13
   replace h14:DataW.trod enc prog W 0 sp held n 56 (c57:: [])=some y14:=h14
   replace h15:DataW.trod enc prog W 0 sp held n 57 (c58:: [])=some y15:=h15
   subst hx
   have hbk:Rows.uptoBulk (H:=H) (.agg [y0.1,y1.1,y2.1,y3.1,y4.1,y5.1,y6.1,y7.1,y8.1,y9.1,y10.1,y11.1,y12.1,y13.1,y14.1,y15.1])=Rows.uptoBulk y0.1+Rows.uptoBulk y1.1+Rows.uptoBulk y2.1+Rows.uptoBulk y3.1+Rows.uptoBulk y4.1+Rows.uptoBulk y5.1+Rows.uptoBulk y6.1+Rows.uptoBulk y7.1+Rows.uptoBulk y8.1+Rows.uptoBulk y9.1+Rows.uptoBulk y10.1+Rows.uptoBulk y11.1+Rows.uptoBulk y12.1+Rows.uptoBulk y13.1+Rows.uptoBulk y14.1+Rows.uptoBulk y15.1+1:=by simp only[Rows.uptoBulk,Rows.uptoBulkAll];omega
   have p0:=Bz y0.1
   have p1:=Bz y1.1
   have p2:=Bz y2.1
   have p3:=Bz y3.1
   have p4:=Bz y4.1
   have p5:=Bz y5.1
   have p6:=Bz y6.1
   have p7:=Bz y7.1
   have p8:=Bz y8.1
   have p9:=Bz y9.1
   have p10:=Bz y10.1
   have p11:=Bz y11.1
   have p12:=Bz y12.1
   have p13:=Bz y13.1
   have p14:=Bz y14.1
   have p15:=Bz y15.1
   simp only[List.map_cons,List.map_nil] at hB ⊢
   rw[hbk] at hB ⊢
   obtain⟨W0,rfl, -⟩:=Ga underlying3 h0
   obtain⟨a,q1,ak⟩:=Ze9 (by omega) h1
   obtain⟨⟨p,q2,x2⟩, -⟩:=Jh h2
   obtain⟨nn,rfl,wn⟩:=Ga underlying3 h3
   have z41:=Kl underlying51 h4
   obtain⟨b5,rfl⟩:=Zba underlying4 h5
   have z43:=Kl underlying41 h6
   have z44:=Kl underlying40 h7
   obtain⟨s8,rfl, -⟩:=Qh underlying9 h8
   obtain⟨DA,Dc,ds,rfl,hDA,hDR,hDp,hDn⟩:=Zdl (f:=prC) (k:=20) (kb:=26) (Pr:=fun u:KK×DD=>FD u.2/\OkK u.1) (B:=1048576) (fun _=>rfl) (by omega) underlying52 Za6 (fun n cs y h hb=>ZdG h) h9 (by omega)
   have z47:=Kl underlying53 h10
   have z48:=Kl underlying54 h11
   obtain⟨⟨v12,q12,x12⟩, -⟩:=Jh h12
   obtain⟨w0,w1,w2,n9, -,k0,k1,k2⟩:=trod_array3 underlying55 Jn h13
   obtain⟨m0,rfl, -⟩:=Ga underlying3 k0
   obtain⟨m1,rfl, -⟩:=Ga underlying3 k1
   obtain⟨m2,rfl, -⟩:=Ga underlying3 k2
   have z57:=Kl underlying56 h14
   have z58:=Kl underlying57 h15
   simp only[VV.cs,List.cons.injEq] at q12
   obtain⟨rfl,rfl,rfl,rfl,rfl, -⟩:=q12
   obtain⟨t,ht⟩: ∃t:AT,t=⟨W0,a.M,a.o,a.T,a.k,a.v,a.r,a.d,a.A,a.c,a.l,p,nn,DA,Dc,ds,c41, .bool b5,c43,c44, .string s8,c47,c48, .int .i64 v12.k, .bool v12.b, .float .f64 v12.x, .string v12.s, .int .i64 v12.i, .int .i64 m0, .int .i64 m1, .int .i64 m2,c57,c58⟩:=⟨_,rfl⟩
   refine⟨⟨t, ?_, ?_⟩,by omega⟩
   ·subst ht
    obtain⟨a1,a2,a3,a4,a5,a6,a7,a8⟩:=ak
    refine⟨⟨a1,a2,a3,a4,a5,a6,a7,x2,Zeb wn,hDA,fun e he=>(hDp e he).1,fun e he=>(hDp e he).2, ?_⟩,by show ds.length<=43800;omega,a8,hDR⟩
    intro u hu
    simp only[actC,Je,VV.cs,KK.cs,DD.cs,List.cons_append,List.nil_append,List.mem_cons,List.not_mem_nil,or_false] at hu
    rcases hu with rfl|rfl|rfl|rfl|rfl|rfl|rfl|rfl|rfl|rfl|rfl|rfl|rfl|rfl|rfl|rfl|rfl|rfl|rfl|rfl|rfl|rfl|rfl|rfl|rfl|rfl|rfl|rfl|rfl|rfl|rfl|rfl|rfl|rfl|rfl|rfl|rfl|rfl|rfl|rfl|rfl|rfl|rfl|rfl|rfl|rfl|rfl|rfl|rfl|rfl|rfl|rfl|rfl|rfl|rfl|rfl|rfl|rfl|rfl<;>first|rfl|assumption
   ·rw[ht]
    show _= [Value.int .i64 W0]++a.cs++p.cs++ [_,_,_,_,_,_,_,_,_,_,_,_,_,_,_,_,_,_,_]
    rw[←q1,←q2]
    rfl
theorem Zfa {H:Type} {enc:TypeId×Value->H} {W:World} {sp:Nat->Bool} {held:Bool} {m:Nat} {x:DataW H×List MemPlace} {cs:List Value} (hB:Rows.uptoBulk x.1<=1048576) (h:DataW.trod enc prog W 0 sp held m 59 cs=some x):(∃u:AT,(u.Ok/\u.ds.length<=43800/\u.Reads W)/\cs=actC u)/\17<=Rows.uptoBulk x.1:=ZdJ underlying59 Za7 rfl rfl rfl rfl rfl rfl rfl rfl rfl rfl rfl rfl rfl rfl rfl rfl rfl rfl rfl rfl rfl rfl rfl rfl rfl rfl rfl rfl rfl rfl rfl rfl hB h
theorem ZbZ {H:Type} {enc:TypeId×Value->H} {W:World} {sp:Nat->Bool} {held:Bool} {m:Nat} {x:DataW H×List MemPlace} {t:TypeId} {f0 f1 f2 f3:Field} {cs:List Value} (hs:prog.underlying t=some (.struct #[f0,f1,f2,f3])) (hC:prog.cellsOf t=4) (o0:f0.offset=0) (o1:f1.offset=1) (o2:f2.offset=2) (o3:f3.offset=3) (t0:f0.type=3) (t1:f1.type=3) (t2:f2.type=3) (t3:f3.type=22) (hB:Rows.uptoBulk x.1<=1048576) (h:DataW.trod enc prog W 0 sp held m t cs=some x): ∃(c f d:Int) (A:Option Addr) (cp:Nat) (ts:List AT),cs=Oh c f d (.slice A ts.length cp)/\f<=9223372036854775807/\ts.length<=1000000/\ReadsG actC 59 W A ts/\ ∀u∈ts,u.Ok/\u.ds.length<=43800/\u.Reads W:=by
 obtain⟨xs,n,_,hx,hl,hlen,hf⟩:=DataW.trod_struct hs h
 rw[hC] at hl
 have hlen2:xs.length=4:=hlen
 clear h hlen
 have h0:=hf 0 f0 rfl
 have h1:=hf 1 f1 rfl
 have h2:=hf 2 f2 rfl
 have h3:=hf 3 f3 rfl
 clear hf
 match xs,hlen2 with
 | [y0,y1,y2,y3],_=>
  match cs,hl with
  |c0::c1::c2::c3:: [],_=>
   rw[t0,o0,Jn] at h0
   rw[t1,o1,Jn] at h1
   rw[t2,o2,Jn] at h2
   rw[t3,o3,Zfl] at h3
   replace h0:DataW.trod enc prog W 0 sp held n 3 (c0:: [])=some y0:=h0
   replace h1:DataW.trod enc prog W 0 sp held n 3 (c1:: [])=some y1:=h1
   replace h2:DataW.trod enc prog W 0 sp held n 3 (c2:: [])=some y2:=h2
   replace h3:DataW.trod enc prog W 0 sp held n 22 (c3:: [])=some y3:=h3
   subst hx
   have hbk:Rows.uptoBulk (H:=H) (.agg [y0.1,y1.1,y2.1,y3.1])=Rows.uptoBulk y0.1+Rows.uptoBulk y1.1+Rows.uptoBulk y2.1+Rows.uptoBulk y3.1+1:=by simp only[Rows.uptoBulk,Rows.uptoBulkAll];omega
   have p0:=Bz y0.1
   have p1:=Bz y1.1
   have p2:=Bz y2.1
   have p3:=Bz y3.1
   simp only[List.map_cons,List.map_nil] at hB
   rw[hbk] at hB
   obtain⟨c,rfl, -⟩:=Ga underlying3 h0
   obtain⟨f,rfl,wf⟩:=Ga underlying3 h1
   obtain⟨d,rfl, -⟩:=Ga underlying3 h2
   obtain⟨A,cp,ts,rfl,hA,hR,hp,hn⟩:=Zdl (f:=actC) (k:=59) (kb:=17) (Pr:=fun u:AT=>u.Ok/\u.ds.length<=43800/\u.Reads W) (B:=1048576) ZaG (by omega) underlying22 Za7 (fun n cs y h hb=>Zfa hb h) h3 (by omega)
   exact⟨c,f,d,A,cp,ts,rfl,Zeb wf,by omega,hR,hp⟩
theorem ZcR {H:Type} {enc:TypeId×Value->H} {W:World} {sp:Nat->Bool} {held:Bool} {m:Nat} {x:DataW H×List MemPlace} {cs:List Value} (hB:Rows.uptoBulk x.1<=1048576) (h:DataW.trod enc prog W 0 sp held m 24 cs=some x): ∃(c f d:Int) (A:Option Addr) (cp:Nat) (ts:List AT),cs=Oh c f d (.slice A ts.length cp)/\f<=9223372036854775807/\ts.length<=1000000/\ReadsG actC 59 W A ts/\ ∀u∈ts,u.Ok/\u.ds.length<=43800/\u.Reads W:=ZbZ underlying24 Zfk rfl rfl rfl rfl rfl rfl rfl rfl hB h
