import Derived.Test.YthcmamjpfigdfaaGreatDoorRs
set_option linter.all false
namespace Go.Proofs.YthcmamjpfigdfaaGreatDoor
set_option maxRecDepth 100000
set_option maxHeartbeats 0
section
open Go Go.Proofs Go.Maps Go.RowKit FM Tryz
attribute [local go_sem] Am Al Ar Ah Ao Ai Au Dg Df Bh Ak Az
theorem Zd0 (v:VV) (w:World):Calls prog 56 #[v.agg] w fun e w'=>e= .returned (.int .i64 (Db v))/\Below w.heap.size w w':=by
 unfold Db
 by_cases h2:v.k=2
 ·rw[if_pos (Or.inl h2)]
  have SS:=Ab (Sy.nil w [])
  rw[Bu]
  go_enter func56,ntmps56
  go_wp2_with (first|go_skip|((with_reducible show wpList ..);first|(refine zB 40 (v.cs) (by rfl) rfl rfl rfl SS ?_;clear SS;intro X1 B1 SS;simp only[nn])|(refine rd rfl (Ad 3 isAgg3 rfl rfl ((Aa SS).hold 0 rfl) rfl) ?_)|(refine rd rfl (Jb rfl rfl rfl h2) ?_)))
  go_ret
  exact⟨rfl,(Aa SS).fr.below⟩
 ·by_cases h7:v.k=7
  ·rw[if_pos (Or.inr h7)]
   have SS:=Ab (Sy.nil w [])
   rw[Bu]
   go_enter func56,ntmps56
   go_wp2_with (first|go_skip|((with_reducible show wpList ..);first|(refine zB 40 (v.cs) (by rfl) rfl rfl rfl SS ?_;clear SS;intro X1 B1 SS;simp only[nn])|(refine rd rfl (Ad 3 isAgg3 rfl rfl ((Aa SS).hold 0 rfl) rfl) ?_)|(refine rd rfl (Jp rfl rfl rfl h2) ?_)|(refine rd rfl (Jb rfl rfl rfl h7) ?_)))
   go_ret
   exact⟨rfl,(Aa SS).fr.below⟩
  ·rw[if_neg (by simp[h2,h7])]
   have SS:=Ab (Sy.nil w [])
   rw[Bu]
   go_enter func56,ntmps56
   go_wp2_with (first|go_skip|((with_reducible show wpList ..);first|(refine zB 40 (v.cs) (by rfl) rfl rfl rfl SS ?_;clear SS;intro X1 B1 SS;simp only[nn])|(refine rd rfl (Ad 3 isAgg3 rfl rfl ((Aa SS).hold 0 rfl) rfl) ?_)|(refine rd rfl (Jp rfl rfl rfl h2) ?_)|(refine rd rfl (Jp rfl rfl rfl h7) ?_)))
   go_ret
   exact⟨rfl,(Aa SS).fr.below⟩
theorem ex_eqE {o:Oper} {a:Act} {w:World} {x y:Operand} {n m:Int} (b:Bool) (ho:o.op= .binOp .eql 31 x y 31) (hx:a.eval x= .int .i64 n) (hc:a.eval y= .int .i64 m) (h:decide (n=m)=b):(execOp a.eval o).run prog w= .ok (.value (.bool b)) w:=by
 subst h
 unfold execOp
 simp only[ho,hx,hc]
 by_cases h:n=m<;>simp[go_sem,eqGuard,h]
theorem ZdF (h:HP) (v:VV) (w:World) (H:h.Is w) (hl:h.l.length<=65536) (hT:Lib.Utf8Tabs 1 2 w):Calls prog 104 #[.pointer (some ⟨h.b,0,none⟩),v.agg] w fun e w'=>e= .returned (.bool false)/\Below w.heap.size w w':=by
 by_cases hc:Di h.l.length v=0
 ·by_cases hk:v.k=7
  ·have SS:=Ab (Sy.nil w [])
   rw[Bu]
   go_enter func104,ntmps104
   go_wp2_with (first|go_skip|((with_reducible show wpList ..);first|(refine zB 40 (v.cs) (by rfl) rfl rfl rfl SS ?_;clear SS;intro Xa Ba SS;simp only[nn])|(refine zL (v.cs) 40 5 0 rwV szV (by rfl) rfl rfl SS rfl rfl rfl ?_;simp only[nn])))
   have HC:=Mx h v _ (H.on (Aa SS).fr.below) (Aj hT (Aa SS).fr.below)
   rw[Bu] at HC
   refine HC.mono ?_
   rintro _ Y1 ⟨rfl,hY1⟩
   replace SS:=Ab ((Aa SS).on hY1)
   clear hY1 HC
   go_wp2_with (first|go_skip|((with_reducible show wpList ..);first|(refine rd rfl (Ad 3 isAgg3 rfl rfl ((Aa SS).hold 0 rfl) rfl) ?_)|(refine rd rfl (Gb rfl rfl rfl hk) ?_)))
   refine(Zd h v.i _ (H.on (Aa SS).fr.below) hl).mono ?_
   rintro _ Y2 ⟨rfl,hY2⟩
   obtain rfl:=hY2.symm
   go_wp2
   go_ret
   exact⟨rfl,(Aa SS).fr.below⟩
  ·have SS:=Ab (Sy.nil w [])
   rw[Bu]
   go_enter func104,ntmps104
   go_wp2_with (first|go_skip|((with_reducible show wpList ..);first|(refine zB 40 (v.cs) (by rfl) rfl rfl rfl SS ?_;clear SS;intro Xa Ba SS;simp only[nn])|(refine zL (v.cs) 40 5 0 rwV szV (by rfl) rfl rfl SS rfl rfl rfl ?_;simp only[nn])))
   have HC:=Mx h v _ (H.on (Aa SS).fr.below) (Aj hT (Aa SS).fr.below)
   rw[Bu] at HC
   refine HC.mono ?_
   rintro _ Y1 ⟨rfl,hY1⟩
   replace SS:=Ab ((Aa SS).on hY1)
   clear hY1 HC
   go_wp2_with (first|go_skip|((with_reducible show wpList ..);first|(refine rd rfl (Ad 3 isAgg3 rfl rfl ((Aa SS).hold 0 rfl) rfl) ?_)|(refine rd rfl (Ju rfl rfl rfl hk) ?_)))
   go_ret
   exact⟨rfl,(Aa SS).fr.below⟩
 ·have SS:=Ab (Sy.nil w [])
  rw[Bu]
  go_enter func104,ntmps104
  go_wp2_with (first|go_skip|((with_reducible show wpList ..);first|(refine zB 40 (v.cs) (by rfl) rfl rfl rfl SS ?_;clear SS;intro Xa Ba SS;simp only[nn])|(refine zL (v.cs) 40 5 0 rwV szV (by rfl) rfl rfl SS rfl rfl rfl ?_;simp only[nn])))
  have HC:=Mx h v _ (H.on (Aa SS).fr.below) (Aj hT (Aa SS).fr.below)
  rw[Bu] at HC
  refine HC.mono ?_
  rintro _ Y1 ⟨rfl,hY1⟩
  replace SS:=Ab ((Aa SS).on hY1)
  clear hY1 HC
  go_wp2_with (first|go_skip|((with_reducible show wpList ..);(refine rd rfl (ex_eqE false rfl rfl rfl (decide_eq_false hc)) ?_)))
  go_ret
  exact⟨rfl,(Aa SS).fr.below⟩
def prC (e:KK×DD):List Value:=e.1.cs++e.2.cs
theorem Us (e:KK×DD): ∀u∈prC e,u.oneCell'=true:=by simp[prC,KK.cs,DD.cs,VV.cs,Value.oneCell']
def Pf:KK×DD:=(Jd,zeroD)
theorem Zb7 (e:KK×DD):Bo (prC Pf) 0 (prC e)=prC e:=by simp[Bo,prC,Pf,KK.cs,DD.cs,VV.cs]
theorem ZbN (A:Option Addr) (cp:Nat) (l:List (KK×DD)) (w:World) (hT:Lib.Utf8Tabs 1 2 w) (hFD: ∀e∈l,FD e.2) (hR:ReadsP w A l) (hz:l.length<=1000000):Calls prog 57 #[.slice A l.length cp] w fun e w'=> ∃c:Int,e= .returned (.int .i64 c)/\(c=0-> ∀e∈l,(goodK e.1=true/\Jt e.2=0))/\Below w.heap.size w w':=by
 have SS:=Ab (Sy.nil w [])
 have HR:=Ab hR
 have HZ:=Ab hz
 clear hR hz
 go_enter func57,ntmps57
 go_wp2_with (first|go_skip|((with_reducible show wpList ..);(refine rd rfl (Bm 49 80 underlying49 rfl rfl) ?_)))
 go_loopg [8] l.length (fun gm s9 wr=> ∃i:Nat,s9= .int .i64 (i:Nat)/\i<=l.length/\l.length - i<=gm/\Hid (∀j e,j<i->l[j]? =some e->(goodK e.1=true/\Jt e.2=0))/\Hid (Sy w wr [] []))
 case atStart=>exact⟨0,rfl,by omega,by omega,Ab (fun j v hj=>by omega),SS⟩
 case round=>
  clear SS
  obtain⟨i,rfl,hil,hgm,HD,SS⟩:=hrel
  by_cases hlt:i<l.length
  ·have dlt:decide ((i:Int)<(l.length:Int))=true:=decide_eq_true (by omega)
   have hw1:IntKind.i64.wrap ((i:Int)+1)=(i:Int)+1:=by have:=Aa HZ;rw[IntKind.wrap_i64];omega
   obtain⟨e,hv⟩: ∃e,l[i]? =some e:=⟨_,List.getElem?_eq_getElem hlt⟩
   obtain⟨b,off,hA,hb,hrg⟩:=(Aa HR) i e hv
   subst hA
   have HA2:Hid (∀X,Below w.heap.size w X->X.rangeAt b (off+i * 20) (prC e)):=Ab (fun X hX=>Dn hrg hb hX)
   have HLT:=Ab hlt
   clear hb hrg hlt hil
   go_wp2_with (first|go_skip|((with_reducible show wpList ..);first|(refine rd rfl (Ax 49 20 i Qu Qw rfl rfl rfl (Aa HLT)) ?_)|(refine rd rfl (Bp (vs:=prC e) 80 20 rwP szP rfl rfl (Aa HA2 _ (Aa SS).fr.below) rfl) ?_)|(refine zA 80 (prC Pf) (by rfl) rfl SS ?_;clear SS;intro X3 B3 SS;simp only[nn])|((refine stS (vs:=prC e) 0 80 (by rfl) rfl rfl rfl rfl (Us _) szP (Aa SS) rfl (by simp[Bo,prC,Pf,KK.cs,DD.cs,VV.cs]) ?_);intro X4 S4 hf4 hs4;replace SS:=Ab S4;clear S4 hf4 hs4;simp only[nn])))
   have hq0:=Aa SS
   simp only[List.nil_append,List.set_cons_zero,Zb7] at hq0
   replace SS:=Ab hq0
   clear hq0
   by_cases hc:orE [Da e.1,Jt e.2]=0
   ·have HD2:Hid (∀j u,j<i+1->l[j]? =some u->(goodK u.1=true/\Jt u.2=0)):=Ab (fun j u hj hu=>by
     rcases Nat.lt_or_ge j i with h|h
     ·exact Aa HD j u h hu
     ·obtain rfl:j=i:=by omega
      obtain rfl:e=u:=Option.some.inj (hv.symm.trans hu)
      exact⟨Ns (Dx hc (Da e.1) (by simp)),Dx hc (Jt e.2) (by simp)⟩)
    have hS4:Sy w _ [] [Aq B3 (prC e)]:=(Aa SS).drew
    clear SS
    refine wp_region_held_drew (P:=prog) (S:=fun X=>Sy w X [] _) (by kernel_rfl) (hS4) (fun hS0=> ?_)
    refine gp 0 (some 12) (.pointer (some ⟨B3,0,none⟩)) rfl rfl (hS4) ?_
    refine gq 1 (some 13) (.agg e.1.cs.toArray) rfl rfl (fun X hX=>Af (vs:=e.1.cs) 37 2 rwK szK rfl rfl (hX.hold 0 rfl) rfl rfl) (hS4) ?_
    refine gp 3 (some 15) (.pointer (some ⟨B3,2,none⟩)) rfl rfl (hS4) ?_
    refine gq 4 (some 16) (.agg e.2.cs.toArray) rfl rfl (fun X hX=>Af (vs:=e.2.cs) 43 18 rwD szD rfl rfl (hX.hold 0 rfl) rfl rfl) (hS4) ?_
    refine gr (rs:= [2]) (gcB 2 (some 14) rfl rfl hS4 (Pv e.1 _ (Aj hT hS4.fr.below)) id ?_ gn)
    intro Yt1 hqt1
    simp only[nn]
    refine gr (rs:= [5]) (gcB 5 (some 17) rfl rfl hqt1 (Vw e.2 (hFD e (List.mem_of_getElem? hv)) _ (Aj hT hqt1.fr.below)) id ?_ gn)
    intro Yt2 hqt2
    simp only[nn]
    refine gr (rs:= [6]) (Kd 6 (some 18) rfl rfl (by kernel_rfl) (Vp rfl rfl rfl) (Nat.succ_pos _) hqt2 (fun _ hZ=>Sy.left (L:= [_]) (M:= [_]) hZ) ?_ gn)
    intro Yt3 Bt3 hEt3 hqt3
    clear hEt3
    simp only[nn]
    refine gr (rs:= [7]) (gcW 7 (some 19) rfl rfl (Sy.left (L:= [_]) (M:= [_]) hqt3) (Lk Bt3 2 [Da e.1,Jt e.2] _ (hqt3.hold 1 rfl) (by simp)) ?_ gn)
    refine gp 8 (some 5) (.int .i64 (orE [Da e.1,Jt e.2])) rfl rfl (Sy.left (L:= [_]) (M:= [_]) hqt3) ?_
    refine dn ?_
    try simp only[nn]
    have SS:=Ab hqt3
    go_wp2_with (first|go_skip|((with_reducible show wpList ..);(refine rd rfl (Gt rfl rfl rfl hc) ?_)))
    replace SS:=Ab (Sy.left (L:= []) (M:= [_,_]) (Aa SS))
    go_wp2
    go_roundg (l.length - (i+1))
    case measure=>have:=Aa HLT;omega
    case rel=>exact⟨i+1,by go_num,by have:=Aa HLT;omega,by omega,HD2,SS⟩
   ·have hS4:Sy w _ [] [Aq B3 (prC e)]:=(Aa SS).drew
    clear SS
    refine wp_region_held_drew (P:=prog) (S:=fun X=>Sy w X [] _) (by kernel_rfl) (hS4) (fun hS0=> ?_)
    refine gp 0 (some 12) (.pointer (some ⟨B3,0,none⟩)) rfl rfl (hS4) ?_
    refine gq 1 (some 13) (.agg e.1.cs.toArray) rfl rfl (fun X hX=>Af (vs:=e.1.cs) 37 2 rwK szK rfl rfl (hX.hold 0 rfl) rfl rfl) (hS4) ?_
    refine gp 3 (some 15) (.pointer (some ⟨B3,2,none⟩)) rfl rfl (hS4) ?_
    refine gq 4 (some 16) (.agg e.2.cs.toArray) rfl rfl (fun X hX=>Af (vs:=e.2.cs) 43 18 rwD szD rfl rfl (hX.hold 0 rfl) rfl rfl) (hS4) ?_
    refine gr (rs:= [2]) (gcB 2 (some 14) rfl rfl hS4 (Pv e.1 _ (Aj hT hS4.fr.below)) id ?_ gn)
    intro Yt1 hqt1
    simp only[nn]
    refine gr (rs:= [5]) (gcB 5 (some 17) rfl rfl hqt1 (Vw e.2 (hFD e (List.mem_of_getElem? hv)) _ (Aj hT hqt1.fr.below)) id ?_ gn)
    intro Yt2 hqt2
    simp only[nn]
    refine gr (rs:= [6]) (Kd 6 (some 18) rfl rfl (by kernel_rfl) (Vp rfl rfl rfl) (Nat.succ_pos _) hqt2 (fun _ hZ=>Sy.left (L:= [_]) (M:= [_]) hZ) ?_ gn)
    intro Yt3 Bt3 hEt3 hqt3
    clear hEt3
    simp only[nn]
    refine gr (rs:= [7]) (gcW 7 (some 19) rfl rfl (Sy.left (L:= [_]) (M:= [_]) hqt3) (Lk Bt3 2 [Da e.1,Jt e.2] _ (hqt3.hold 1 rfl) (by simp)) ?_ gn)
    refine gp 8 (some 5) (.int .i64 (orE [Da e.1,Jt e.2])) rfl rfl (Sy.left (L:= [_]) (M:= [_]) hqt3) ?_
    refine dn ?_
    try simp only[nn]
    have SS:=Ab hqt3
    go_wp2_with (first|go_skip|((with_reducible show wpList ..);(refine rd rfl (Gk rfl rfl rfl hc) ?_)))
    go_ret
    exact⟨_,rfl,fun h0=>absurd h0 hc,(Aa SS).fr.below⟩
  ·obtain rfl:i=l.length:=by omega
   have HTA:=Ab (fun (e:KK×DD) (he:e∈l)=>by
    obtain⟨j,hj⟩:=List.getElem?_of_mem he
    exact Aa HD j e (List.getElem?_eq_some_iff.1 hj).1 hj)
   clear hlt hil HD
   go_wp2_with (go_skip)
   go_ret
   exact⟨0,rfl,fun _=>Aa HTA,(Aa SS).fr.below⟩
section
variable {ops : Array Oper} {rest : List Oper} {Q : Exit → Act → World → Prop} {w w0 : World} {a : Act} {o : Oper} {E : List Nat} {L : List Ob}
theorem bsVn {cs:List Value} {n t:Nat} (hw:Region.wanted o (yielded ops a.tmps)=true) (he: ∀w,(execOp a.eval o).run prog w= .ok (.value (.slice (some ⟨w.heap.size,0,none⟩) n n)) (w.alloc (Obj.cells cs.toArray t))) (hc:0<cs.length) (hL:Sy w0 w E L)
  (h: ∀X B,Sy w0 X E (L++ [Aq B cs])->wpList prog ops Q rest (a.put o.dst (.slice (some ⟨B,0,none⟩) n n)) X):wpList prog ops Q (o::rest) a w:=by
 refine BigFrame.wpList_want hw fun K hK=> ?_
 have hP:=hK _ _ (h _ _ (hL.box cs t hc))
 unfold Oper.wp
 rw[he w]
 exact hP
end
theorem Zdb (h:HP) (A:Option Addr) (cp:Nat) (l:List (KK×DD)) (w:World) (H:h.Is w) (hl:h.l.length<=65536) (hT:Lib.Utf8Tabs 1 2 w) (hR:ReadsP w A l) (hz:l.length<=1000000):Calls prog 59 #[.pointer (some ⟨h.b,0,none⟩), .slice A l.length cp] w fun e w'=> ∃c:Int,e= .returned (.int .i64 c)/\(c=0-> ∀e∈l,(e.2.g.k≠7/\e.2.s.k≠7))/\Below w.heap.size w w':=by
 have SS:=Ab (Sy.nil w [])
 have HR:=Ab hR
 have HZ:=Ab hz
 clear hR hz
 go_enter func59,ntmps59
 go_wp2_with (first|go_skip|((with_reducible show wpList ..);(refine rd rfl (Bm 49 80 underlying49 rfl rfl) ?_)))
 go_loopg [11] l.length (fun gm s9 wr=> ∃i:Nat,s9= .int .i64 (i:Nat)/\i<=l.length/\l.length - i<=gm/\Hid (∀j e,j<i->l[j]? =some e->(e.2.g.k≠7/\e.2.s.k≠7))/\Hid (Sy w wr [] []))
 case atStart=>exact⟨0,rfl,by omega,by omega,Ab (fun j v hj=>by omega),SS⟩
 case round=>
  clear SS
  obtain⟨i,rfl,hil,hgm,HD,SS⟩:=hrel
  by_cases hlt:i<l.length
  ·have dlt:decide ((i:Int)<(l.length:Int))=true:=decide_eq_true (by omega)
   have hw1:IntKind.i64.wrap ((i:Int)+1)=(i:Int)+1:=by have:=Aa HZ;rw[IntKind.wrap_i64];omega
   obtain⟨e,hv⟩: ∃e,l[i]? =some e:=⟨_,List.getElem?_eq_getElem hlt⟩
   obtain⟨b,off,hA,hb,hrg⟩:=(Aa HR) i e hv
   subst hA
   have HA2:Hid (∀X,Below w.heap.size w X->X.rangeAt b (off+i * 20) (prC e)):=Ab (fun X hX=>Dn hrg hb hX)
   have HLT:=Ab hlt
   clear hb hrg hlt hil
   go_wp2_with (first|go_skip|((with_reducible show wpList ..);first|(refine rd rfl (Ax 49 20 i Qu Qw rfl rfl rfl (Aa HLT)) ?_)|(refine rd rfl (Bp (vs:=prC e) 80 20 rwP szP rfl rfl (Aa HA2 _ (Aa SS).fr.below) rfl) ?_)|(refine zA 80 (prC Pf) (by rfl) rfl SS ?_;clear SS;intro X3 B3 SS;simp only[nn])|((refine stS (vs:=prC e) 0 80 (by rfl) rfl rfl rfl rfl (Us _) szP (Aa SS) rfl (by simp[Bo,prC,Pf,KK.cs,DD.cs,VV.cs]) ?_);intro X4 S4 hf4 hs4;replace SS:=Ab S4;clear S4 hf4 hs4;simp only[nn])|(refine rd rfl (Af (vs:=e.2.g.cs) 40 5 rwV szV rfl rfl ((Aa SS).hold 0 rfl) rfl rfl) ?_)|(refine rd rfl (Af (vs:=e.2.s.cs) 40 5 rwV szV rfl rfl ((Aa SS).hold 0 rfl) rfl rfl) ?_)|((refine bsVn (cs:= [e.2.g,e.2.s].flatMap VV.cs) (n:=2) (t:=40) (by rfl) (fun w=>Zaa rfl rfl rfl) (Nat.succ_pos _) (Aa SS) ?_);intro X6 B6 S6;replace SS:=Ab S6;clear S6;simp only[nn])|(refine rd rfl (Bm 44 40 underlying44 rfl rfl) ?_)))
   have hq0:=Aa SS
   simp only[List.nil_append,List.set_cons_zero,Zb7] at hq0
   replace SS:=Ab hq0
   clear hq0
   try rw[show decide (i<l.length)=true from decide_eq_true (Aa HLT)]
   obtain⟨wo,hwo⟩: ∃wo,wo=wr:=⟨_,rfl⟩
   go_loopg [23] 2 (fun gm2 s23 wr2=> ∃i2:Nat,s23= .int .i64 (i2:Nat)/\i2<=2/\2 - i2<=gm2/\Hid (∀j u,j<i2->([e.2.g,e.2.s]:List VV)[j]? =some u->u.k≠7)/\Hid (Sy w wr2 [] [Aq B3 (prC e),Aq B6 ([e.2.g,e.2.s].flatMap VV.cs)]))
   case atStart=>exact⟨0,rfl,by omega,by omega,Ab (fun j v hj=>by omega),SS⟩
   case round=>
    clear SS
    obtain⟨i2,rfl,hi2,hg2,HI,SS⟩:=hrel
    by_cases hl2:i2<2
    ·have dl2:decide ((i2:Int)<2)=true:=decide_eq_true (by omega)
     have hw2:IntKind.i64.wrap ((i2:Int)+1)=(i2:Int)+1:=by rw[IntKind.wrap_i64];omega
     obtain⟨v,hv2⟩: ∃v,([e.2.g,e.2.s]:List VV)[i2]? =some v:=⟨_,List.getElem?_eq_getElem (by simpa using hl2)⟩
     have HV2:Hid (∀X,Sy w X [] [Aq B3 (prC e),Aq B6 ([e.2.g,e.2.s].flatMap VV.cs)]->X.rangeAt B6 (0+i2 * 5) v.cs):=Ab (fun X hX=>by
      obtain⟨b,off,h1, -,h3⟩:=Ei (hX.hold 1 rfl) i2 v hv2
      cases h1
      exact h3)
     have HL2:=Ab hl2
     clear hl2 hi2
     by_cases hk:v.k=7
     ·go_wp2_with (first|go_skip|((with_reducible show wpList ..);first|(refine rd rfl (Ax 44 5 i2 Rg Rr rfl rfl rfl (Aa HL2)) ?_)|(refine rd rfl (Bp (vs:=v.cs) 40 5 rwV szV rfl rfl ((Aa HV2 _ (Aa SS))) rfl) ?_)|(refine zA 40 (Av.cs) (by rfl) rfl SS ?_;clear SS;intro X7 B7 SS;simp only[nn])|(refine zS (v.cs) 2 40 (by rfl) rfl rfl rfl rfl (Ea v) szV SS rfl ?_;clear SS;intro X8 SS;simp only[nn])|(refine rd rfl (Ad 3 isAgg3 rfl rfl ((Aa SS).hold 2 rfl) rfl) ?_)|(refine zL (v.cs) 40 5 2 rwV szV (by rfl) rfl rfl SS rfl rfl rfl ?_;simp only[nn])|(refine rd rfl (Gb rfl rfl rfl hk) ?_)))
      have HC:=ZdF h v _ (H.on (Aa SS).fr.below) hl (Aj hT (Aa SS).fr.below)
      rw[Bu] at HC
      refine HC.mono ?_
      rintro _ Y9 ⟨rfl,hY9⟩
      replace SS:=Ab ((Aa SS).on hY9)
      clear hY9 HC
      go_wp2
      go_ret
      exact⟨8,rfl,(fun h0=>absurd h0 (by decide)),(Aa SS).fr.below⟩
     ·have HD3:Hid (∀j u,j<i2+1->([e.2.g,e.2.s]:List VV)[j]? =some u->u.k≠7):=Ab (fun j u hj hu=>by
       rcases Nat.lt_or_ge j i2 with h|h
       ·exact Aa HI j u h hu
       ·obtain rfl:j=i2:=by omega
        obtain rfl:v=u:=Option.some.inj (hv2.symm.trans hu)
        exact hk)
      go_wp2_with (first|go_skip|((with_reducible show wpList ..);first|(refine rd rfl (Ax 44 5 i2 Rg Rr rfl rfl rfl (Aa HL2)) ?_)|(refine rd rfl (Bp (vs:=v.cs) 40 5 rwV szV rfl rfl ((Aa HV2 _ (Aa SS))) rfl) ?_)|(refine zA 40 (Av.cs) (by rfl) rfl SS ?_;clear SS;intro X7 B7 SS;simp only[nn])|(refine zS (v.cs) 2 40 (by rfl) rfl rfl rfl rfl (Ea v) szV SS rfl ?_;clear SS;intro X8 SS;simp only[nn])|(refine rd rfl (Ad 3 isAgg3 rfl rfl ((Aa SS).hold 2 rfl) rfl) ?_)|(refine rd rfl (Ju rfl rfl rfl hk) ?_)))
      replace SS:=Ab (Sy.left (L:= [Aq B3 (prC e),Aq B6 ([e.2.g,e.2.s].flatMap VV.cs)]) (M:= [_]) (Aa SS))
      go_wp2
      go_roundg (2 - (i2+1))
      case measure=>have:=Aa HL2;omega
      case rel=>exact⟨i2+1,by go_num,by have:=Aa HL2;omega,by omega,HD3,SS⟩
    ·obtain rfl:i2=2:=by omega
     have HD2:Hid (∀j u,j<i+1->l[j]? =some u->(u.2.g.k≠7/\u.2.s.k≠7)):=Ab (fun j u hj hu=>by
      rcases Nat.lt_or_ge j i with h|h
      ·exact Aa HD j u h hu
      ·obtain rfl:j=i:=by omega
       obtain rfl:e=u:=Option.some.inj (hv.symm.trans hu)
       exact⟨Aa HI 0 e.2.g (by omega) rfl,Aa HI 1 e.2.s (by omega) rfl⟩)
     clear HI
     go_wp2_with (go_skip)
     replace SS:=Ab (Sy.left (L:= []) (M:= [_,_]) (Aa SS))
     go_wp2
     go_roundg (l.length - (i+1))
     case measure=>have:=Aa HLT;omega
     case rel=>exact⟨i+1,by go_num,by have:=Aa HLT;omega,by omega,HD2,SS⟩
  ·obtain rfl:i=l.length:=by omega
   have HTA:=Ab (fun (e:KK×DD) (he:e∈l)=>by
    obtain⟨j,hj⟩:=List.getElem?_of_mem he
    exact Aa HD j e (List.getElem?_eq_some_iff.1 hj).1 hj)
   clear hlt hil HD
   go_wp2_with (go_skip)
   go_ret
   exact⟨0,rfl,fun _=>Aa HTA,(Aa SS).fr.below⟩
theorem oknown_h (h:HP) (A:Option Addr) (cp:Nat) (l:List (KK×DD)) (w:World) (H:h.Is w) (hT:Lib.Utf8Tabs 1 2 w) (hR:ReadsP w A l) (hz:l.length<=1000000):Calls prog 58 #[.pointer (some ⟨h.b,0,none⟩), .slice A l.length cp] w fun e w'=> ∃c:Int,e= .returned (.int .i64 c)/\(c=0-> ∀e∈l,(e.2.v.k=7->Di h.l.length e.2.v=0))/\Below w.heap.size w w':=by
 have SS:=Ab (Sy.nil w [])
 have HR:=Ab hR
 have HZ:=Ab hz
 clear hR hz
 go_enter func58,ntmps58
 go_wp2_with (first|go_skip|((with_reducible show wpList ..);(refine rd rfl (Bm 49 80 underlying49 rfl rfl) ?_)))
 go_loopg [11] l.length (fun gm s9 wr=> ∃i:Nat,s9= .int .i64 (i:Nat)/\i<=l.length/\l.length - i<=gm/\Hid (∀j e,j<i->l[j]? =some e->(e.2.v.k=7->Di h.l.length e.2.v=0))/\Hid (Sy w wr [] []))
 case atStart=>exact⟨0,rfl,by omega,by omega,Ab (fun j v hj=>by omega),SS⟩
 case round=>
  clear SS
  obtain⟨i,rfl,hil,hgm,HD,SS⟩:=hrel
  by_cases hlt:i<l.length
  ·have dlt:decide ((i:Int)<(l.length:Int))=true:=decide_eq_true (by omega)
   have hw1:IntKind.i64.wrap ((i:Int)+1)=(i:Int)+1:=by have:=Aa HZ;rw[IntKind.wrap_i64];omega
   obtain⟨e,hv⟩: ∃e,l[i]? =some e:=⟨_,List.getElem?_eq_getElem hlt⟩
   obtain⟨b,off,hA,hb,hrg⟩:=(Aa HR) i e hv
   subst hA
   have HA2:Hid (∀X,Below w.heap.size w X->X.rangeAt b (off+i * 20) (prC e)):=Ab (fun X hX=>Dn hrg hb hX)
   have HLT:=Ab hlt
   clear hb hrg hlt hil
   go_wp2_with (first|go_skip|((with_reducible show wpList ..);first|(refine rd rfl (Ax 49 20 i Qu Qw rfl rfl rfl (Aa HLT)) ?_)|(refine rd rfl (Bp (vs:=prC e) 80 20 rwP szP rfl rfl (Aa HA2 _ (Aa SS).fr.below) rfl) ?_)|(refine zA 80 (prC Pf) (by rfl) rfl SS ?_;clear SS;intro X3 B3 SS;simp only[nn])|((refine stS (vs:=prC e) 0 80 (by rfl) rfl rfl rfl rfl (Us _) szP (Aa SS) rfl (by simp[Bo,prC,Pf,KK.cs,DD.cs,VV.cs]) ?_);intro X4 S4 hf4 hs4;replace SS:=Ab S4;clear S4 hf4 hs4;simp only[nn])|(refine rd rfl (Af (vs:=e.2.v.cs) 40 5 rwV szV rfl rfl ((Aa SS).hold 0 rfl) rfl rfl) ?_)|(refine rd rfl (Af (vs:=e.2.g.cs) 40 5 rwV szV rfl rfl ((Aa SS).hold 0 rfl) rfl rfl) ?_)|(refine rd rfl (Af (vs:=e.2.s.cs) 40 5 rwV szV rfl rfl ((Aa SS).hold 0 rfl) rfl rfl) ?_)|((refine bsVn (cs:= [e.2.v,e.2.g,e.2.s].flatMap VV.cs) (n:=3) (t:=40) (by rfl) (fun w=>ZfA rfl rfl rfl rfl) (Nat.succ_pos _) (Aa SS) ?_);intro X6 B6 S6;replace SS:=Ab S6;clear S6;simp only[nn])|(refine rd rfl (Bm 44 40 underlying44 rfl rfl) ?_)))
   have hq0:=Aa SS
   simp only[List.nil_append,List.set_cons_zero,Zb7] at hq0
   replace SS:=Ab hq0
   clear hq0
   try rw[show decide (i<l.length)=true from decide_eq_true (Aa HLT)]
   obtain⟨wo,hwo⟩: ∃wo,wo=wr:=⟨_,rfl⟩
   go_loopg [26] 3 (fun gm2 s23 wr2=> ∃i2:Nat,s23= .int .i64 (i2:Nat)/\i2<=3/\3 - i2<=gm2/\Hid (∀j u,j<i2->([e.2.v,e.2.g,e.2.s]:List VV)[j]? =some u->(u.k=7->Di h.l.length u=0))/\Hid (Sy w wr2 [] [Aq B3 (prC e),Aq B6 ([e.2.v,e.2.g,e.2.s].flatMap VV.cs)]))
   case atStart=>exact⟨0,rfl,by omega,by omega,Ab (fun j v hj=>by omega),SS⟩
   case round=>
    clear SS
    obtain⟨i2,rfl,hi2,hg2,HI,SS⟩:=hrel
    by_cases hl2:i2<3
    ·have dl2:decide ((i2:Int)<3)=true:=decide_eq_true (by omega)
     have hw2:IntKind.i64.wrap ((i2:Int)+1)=(i2:Int)+1:=by rw[IntKind.wrap_i64];omega
     obtain⟨v,hv2⟩: ∃v,([e.2.v,e.2.g,e.2.s]:List VV)[i2]? =some v:=⟨_,List.getElem?_eq_getElem (by simpa using hl2)⟩
     have HV2:Hid (∀X,Sy w X [] [Aq B3 (prC e),Aq B6 ([e.2.v,e.2.g,e.2.s].flatMap VV.cs)]->X.rangeAt B6 (0+i2 * 5) v.cs):=Ab (fun X hX=>by
      obtain⟨b,off,h1, -,h3⟩:=Ei (hX.hold 1 rfl) i2 v hv2
      cases h1
      exact h3)
     have HL2:=Ab hl2
     clear hl2 hi2
     by_cases hk:v.k=7
     ·by_cases hc:Di h.l.length v=0
      ·have HD3:Hid (∀j u,j<i2+1->([e.2.v,e.2.g,e.2.s]:List VV)[j]? =some u->(u.k=7->Di h.l.length u=0)):=Ab (fun j u hj hu=>by
        rcases Nat.lt_or_ge j i2 with h|h
        ·exact Aa HI j u h hu
        ·obtain rfl:j=i2:=by omega
         obtain rfl:v=u:=Option.some.inj (hv2.symm.trans hu)
         exact fun _=>hc)
       go_wp2_with (first|go_skip|((with_reducible show wpList ..);first|(refine rd rfl (Ax 44 5 i2 Rg Rr rfl rfl rfl (Aa HL2)) ?_)|(refine rd rfl (Bp (vs:=v.cs) 40 5 rwV szV rfl rfl ((Aa HV2 _ (Aa SS))) rfl) ?_)|(refine zA 40 (Av.cs) (by rfl) rfl SS ?_;clear SS;intro X7 B7 SS;simp only[nn])|(refine zS (v.cs) 2 40 (by rfl) rfl rfl rfl rfl (Ea v) szV SS rfl ?_;clear SS;intro X8 SS;simp only[nn])|(refine rd rfl (Ad 3 isAgg3 rfl rfl ((Aa SS).hold 2 rfl) rfl) ?_)|(refine zL (v.cs) 40 5 2 rwV szV (by rfl) rfl rfl SS rfl rfl rfl ?_;simp only[nn])|(refine rd rfl (Gb rfl rfl rfl hk) ?_)))
       have HC:=Mx h v _ (H.on (Aa SS).fr.below) (Aj hT (Aa SS).fr.below)
       rw[Bu] at HC
       refine HC.mono ?_
       rintro _ Y9 ⟨rfl,hY9⟩
       replace SS:=Ab ((Aa SS).on hY9)
       clear hY9 HC
       go_wp2_with (go_skip)
       replace SS:=Ab (Sy.left (L:= [Aq B3 (prC e),Aq B6 ([e.2.v,e.2.g,e.2.s].flatMap VV.cs)]) (M:= [_]) (Aa SS))
       go_wp2
       go_roundg (3 - (i2+1))
       case measure=>have:=Aa HL2;omega
       case rel=>exact⟨i2+1,by go_num,by have:=Aa HL2;omega,by omega,HD3,SS⟩
      ·go_wp2_with (first|go_skip|((with_reducible show wpList ..);first|(refine rd rfl (Ax 44 5 i2 Rg Rr rfl rfl rfl (Aa HL2)) ?_)|(refine rd rfl (Bp (vs:=v.cs) 40 5 rwV szV rfl rfl ((Aa HV2 _ (Aa SS))) rfl) ?_)|(refine zA 40 (Av.cs) (by rfl) rfl SS ?_;clear SS;intro X7 B7 SS;simp only[nn])|(refine zS (v.cs) 2 40 (by rfl) rfl rfl rfl rfl (Ea v) szV SS rfl ?_;clear SS;intro X8 SS;simp only[nn])|(refine rd rfl (Ad 3 isAgg3 rfl rfl ((Aa SS).hold 2 rfl) rfl) ?_)|(refine zL (v.cs) 40 5 2 rwV szV (by rfl) rfl rfl SS rfl rfl rfl ?_;simp only[nn])|(refine rd rfl (Gb rfl rfl rfl hk) ?_)))
       have HC:=Mx h v _ (H.on (Aa SS).fr.below) (Aj hT (Aa SS).fr.below)
       rw[Bu] at HC
       refine HC.mono ?_
       rintro _ Y9 ⟨rfl,hY9⟩
       replace SS:=Ab ((Aa SS).on hY9)
       clear hY9 HC
       go_wp2_with (first|go_skip|((with_reducible show wpList ..);(refine rd rfl (Gk rfl rfl rfl hc) ?_)))
       go_ret
       exact⟨4,rfl,(fun h0=>absurd h0 (by decide)),(Aa SS).fr.below⟩
     ·have HD3:Hid (∀j u,j<i2+1->([e.2.v,e.2.g,e.2.s]:List VV)[j]? =some u->(u.k=7->Di h.l.length u=0)):=Ab (fun j u hj hu=>by
       rcases Nat.lt_or_ge j i2 with h|h
       ·exact Aa HI j u h hu
       ·obtain rfl:j=i2:=by omega
        obtain rfl:v=u:=Option.some.inj (hv2.symm.trans hu)
        exact fun h7=>absurd h7 hk)
      go_wp2_with (first|go_skip|((with_reducible show wpList ..);first|(refine rd rfl (Ax 44 5 i2 Rg Rr rfl rfl rfl (Aa HL2)) ?_)|(refine rd rfl (Bp (vs:=v.cs) 40 5 rwV szV rfl rfl ((Aa HV2 _ (Aa SS))) rfl) ?_)|(refine zA 40 (Av.cs) (by rfl) rfl SS ?_;clear SS;intro X7 B7 SS;simp only[nn])|(refine zS (v.cs) 2 40 (by rfl) rfl rfl rfl rfl (Ea v) szV SS rfl ?_;clear SS;intro X8 SS;simp only[nn])|(refine rd rfl (Ad 3 isAgg3 rfl rfl ((Aa SS).hold 2 rfl) rfl) ?_)|(refine rd rfl (Ju rfl rfl rfl hk) ?_)))
      replace SS:=Ab (Sy.left (L:= [Aq B3 (prC e),Aq B6 ([e.2.v,e.2.g,e.2.s].flatMap VV.cs)]) (M:= [_]) (Aa SS))
      go_wp2
      go_roundg (3 - (i2+1))
      case measure=>have:=Aa HL2;omega
      case rel=>exact⟨i2+1,by go_num,by have:=Aa HL2;omega,by omega,HD3,SS⟩
    ·obtain rfl:i2=3:=by omega
     have HD2:Hid (∀j u,j<i+1->l[j]? =some u->(u.2.v.k=7->Di h.l.length u.2.v=0)):=Ab (fun j u hj hu=>by
      rcases Nat.lt_or_ge j i with h|h
      ·exact Aa HD j u h hu
      ·obtain rfl:j=i:=by omega
       obtain rfl:e=u:=Option.some.inj (hv.symm.trans hu)
       exact(Aa HI 0 e.2.v (by omega) rfl))
     clear HI
     go_wp2_with (go_skip)
     replace SS:=Ab (Sy.left (L:= []) (M:= [_,_]) (Aa SS))
     go_wp2
     go_roundg (l.length - (i+1))
     case measure=>have:=Aa HLT;omega
     case rel=>exact⟨i+1,by go_num,by have:=Aa HLT;omega,by omega,HD2,SS⟩
  ·obtain rfl:i=l.length:=by omega
   have HTA:=Ab (fun (e:KK×DD) (he:e∈l)=>by
    obtain⟨j,hj⟩:=List.getElem?_of_mem he
    exact Aa HD j e (List.getElem?_eq_some_iff.1 hj).1 hj)
   clear hlt hil HD
   go_wp2_with (go_skip)
   go_ret
   exact⟨0,rfl,fun _=>Aa HTA,(Aa SS).fr.below⟩
end
section
open Go Go.Proofs Go.Maps Go.RowKit FM
attribute [local go_sem] Am Al Ar Ah Ao Ai Au Dg Df Bh Ak Az
theorem Ug {n:Nat} {v:VV} (h:Di n v=0):v.good=true:=by
 unfold Di at h
 cases hg:v.good with
 |true=>rfl
 |false=>
  rw[hg] at h
  simp at h
theorem check_ov {n m:Nat} {v:VV} (h:v.k=7->Di n v=0) (hm:n<=m):Ov m v:=fun h7=>by
 have hc:=h h7
 have hg:=Ug hc
 refine⟨?_,hg⟩
 unfold Di at hc
 rw[hg,if_pos rfl] at hc
 unfold Bj at hc
 split at hc
 ·rename_i ha
  have:=List.all_eq_true.1 ha v (by simp)
  simp[Ll,h7,Qx] at this
  omega
 ·cases hc
theorem Zfc {h:HP} {gv:Value} {q:OB} (hq:q.p.good=true) (hp:pr q.T= []):LtB h (h.more gv q):=fun hw=>by
 have e:(h.more gv q).abs=h.abs++ [q.po]:=by unfold HP.abs HP.more;simp
 rw[WhH,e,show (h.more gv q).l.length=h.l.length+1 by unfold HP.more;simp]
 refine⟨fun r hr=> ?_,LtH.add hw _⟩
 rcases List.mem_append.1 hr with h1|h1
 ·exact(hw r h1).mono (Nat.le_succ _)
 ·rw[List.mem_singleton.1 h1]
  show q.p.good=true/\WhP _ (pr q.T)
  rw[hp]
  exact⟨hq,WhP.mk (fun e he=>by cases he) List.Pairwise.nil⟩
theorem DefP.gd {h:HP} {N M m:Nat} {j:Nat} {q:OB} {k:KK} {d:DD} {h1:HP} {y:Bool} (G:h.Gd N) (hj:h.l[j]? =some q) (hm:q.T.last<=m) (hN:N<=M) (hM:m+1<=M) (hd:FD d) (hg:d.g.k≠7) (hs:d.s.k≠7) (hgk:goodK k=true) (hv:Ov h.l.length d.v) (D:DefP h j q k d h1 y):h1.Gd M/\Stp h h1/\h1.fuel=h.fuel/\ ∃q1,h1.l[j]? =some q1/\q1.T.last<=m+1:=by
 have hlt:=(List.getElem?_eq_some_iff.1 hj).1
 rcases D with ⟨hy,⟨-,rfl⟩|⟨rfl,T',rfl,hl,hp⟩⟩
 ·exact⟨G.mono hN,Stp.refl _,rfl,q,hj,by omega⟩
 ·have hO:=ZfJ (Zcq G.wf hj k) (get_k G.wf hj k) hd hg hs hy.symm
  have h2:(h.tab j q T').Gd M:=ZdM G hj (fun e he=>by
   rw[hp] at he
   rcases Ze2 he with h3|h3
   ·rw[h3];exact hO
   ·exact(G.wf.ob j q hj).ps e h3) (by omega) hN
  exact⟨h2,ZbS hj T' (def_lt hgk hv hy.symm hp),rfl,{q with T:=T'},by show (h.l.set j _)[j]? =_;rw[List.getElem?_set_self hlt],by show T'.last<=_;omega⟩
def OrdP (h:HP) (M:Nat) (w:World) (e:Ending) (w':World):Prop:= ∃(h1:HP) (c:Int) (er:Value),e= .returned (.tuple #[.int .i64 c,er])/\(er= .nilIface∨ ∃k,er=Bl k)/\h1.Gd M/\h.To h1 w w'/\h1.cap=h.cap/\h1.depth=h.depth/\h1.ent=h.ent/\h1.fuel=h.fuel/\LtB h h1
theorem ordNew_h (h:HP) (v:VV) (A:Option Addr) (cp:Nat) (l:List (KK×DD)) (N:Nat) (w:World) (H:h.Is w) (G:h.Gd N) (hT:Tabs w) (hvx:v.x<2^64) (hFD: ∀e∈l,FD e.2) (hOk: ∀e∈l,OkK e.1) (hR: ∀X,Fr w X h.blocks->ReadsP X A l) (hz:l.length<=1000000):Calls Tryz.prog 24 #[.pointer (some ⟨h.b,0,none⟩),v.agg, .slice A l.length cp] w (OrdP h (max N l.length) w):=by
 have hl:=G.wf.ok.len
 have SS:=Ab H.start
 rw[Bu]
 go_enter Tryz.func24,Tryz.ntmps24
 go_wp2_with (first|go_skip|((with_reducible show wpList ..);(refine zB 40 (v.cs) (by rfl) rfl rfl rfl SS ?_;clear SS;intro Xa Ba SS;simp only[nn])))
 have hS1:Sy w _ h.blocks [hpO h,Aq Ba v.cs]:=(Aa SS).drew
 clear SS
 refine wp_region_held_drew (P:=Tryz.prog) (S:=fun X=>Sy w X h.blocks _) (by kernel_rfl) (hS1) (fun hS0=> ?_)
 refine gp 0 (some 13) (.pointer (some ⟨h.b,0,none⟩)) rfl rfl (hS1) ?_
 refine gq 1 (some 14) (.agg (v.cs).toArray) rfl rfl (fun X hX=>Af (vs:=v.cs) 40 5 rwV szV rfl rfl (hX.hold 1 rfl) rfl rfl) (hS1) ?_
 refine gq 3 (some 16) (.agg (v.cs).toArray) rfl rfl (fun X hX=>Af (vs:=v.cs) 40 5 rwV szV rfl rfl (hX.hold 1 rfl) rfl rfl) (hS1) ?_
 refine gp 5 (some 18) (.slice A l.length cp) rfl rfl (hS1) ?_
 refine gp 7 (some 20) (.pointer (some ⟨h.b,0,none⟩)) rfl rfl (hS1) ?_
 refine gp 8 (some 21) (.slice A l.length cp) rfl rfl (hS1) ?_
 refine gp 10 (some 23) (.pointer (some ⟨h.b,0,none⟩)) rfl rfl (hS1) ?_
 refine gp 11 (some 24) (.slice A l.length cp) rfl rfl (hS1) ?_
 refine gr (rs:= [2]) (gcB 2 (some 15) rfl rfl hS1 (Mx h v _ (hS1.hp 0 rfl) (hT.fr hS1.fr H.low).1) id ?_ gn)
 intro Yt1 hqt1
 simp only[nn]
 refine gr (rs:= [4]) (gcB 4 (some 17) rfl rfl hqt1 (Zd0 v _) id ?_ gn)
 intro Yt2 hqt2
 simp only[nn]
 refine gr (rs:= [6]) (gc 6 (some 19) rfl rfl (ZbN A cp l _ (hT.fr hqt2.fr H.low).1 hFD (hR _ hqt2.fr) hz) ?_ gn)
 rintro e Yt3 ⟨c3,rfl,h3,hYt3⟩
 have hqt3:=Sy.on hqt2 hYt3
 refine⟨_,rfl,hqt3, ?_⟩
 simp only[nn]
 refine gr (rs:= [9]) (gc 9 (some 22) rfl rfl (oknown_h h A cp l _ (hqt3.hp 0 rfl) (hT.fr hqt3.fr H.low).1 (hR _ hqt3.fr) hz) ?_ gn)
 rintro e Yt4 ⟨c4,rfl,h4,hYt4⟩
 have hqt4:=Sy.on hqt3 hYt4
 refine⟨_,rfl,hqt4, ?_⟩
 simp only[nn]
 refine gr (rs:= [12]) (gc 12 (some 25) rfl rfl (Zdb h A cp l _ (hqt4.hp 0 rfl) hl (hT.fr hqt4.fr H.low).1 (hR _ hqt4.fr) hz) ?_ gn)
 rintro e Yt5 ⟨c5,rfl,h5,hYt5⟩
 have hqt5:=Sy.on hqt4 hYt5
 refine⟨_,rfl,hqt5, ?_⟩
 simp only[nn]
 refine gr (rs:= [13]) (Kd 13 (some 26) rfl rfl (by kernel_rfl) (ZfB rfl rfl rfl rfl rfl rfl) (Nat.succ_pos _) hqt5 (fun _ hZ=>Sy.left (L:= [_,_]) (M:= [_]) hZ) ?_ gn)
 intro Yt6 Bt6 hEt6 hqt6
 clear hEt6
 simp only[nn]
 refine gr (rs:= [14]) (gcW 14 (some 27) rfl rfl (Sy.left (L:= [_,_]) (M:= [_]) hqt6) (Lk Bt6 5 [Di h.l.length v,Db v,c3,c4,c5] _ (hqt6.hold 2 rfl) (by simp)) ?_ gn)
 refine gp 15 (some 8) (.int .i64 (orE [Di h.l.length v,Db v,c3,c4,c5])) rfl rfl (Sy.left (L:= [_,_]) (M:= [_]) hqt6) ?_
 refine dn ?_
 try simp only[nn]
 have SS:=Ab (Sy.left (L:= [hpO h,Aq Ba v.cs]) (M:= [Aq Bt6 (Nt [Di h.l.length v,Db v,c3,c4,c5])]) hqt6)
 by_cases hc:orE [Di h.l.length v,Db v,c3,c4,c5]=0
 ·have hcz:=Dx hc
  go_wp2_with (first|go_skip|((with_reducible show wpList ..);first|(refine rd rfl (Gt rfl rfl rfl hc) ?_)|(refine zL (v.cs) 40 5 1 rwV szV (by rfl) rfl rfl SS rfl rfl rfl ?_;simp only[nn])))
  have HC:=Zcd h v _ ((Aa SS).hp 0 rfl) (hT.fr (Aa SS).fr H.low) hl
  rw[Bu] at HC
  refine HC.mono ?_
  rintro _ Y8 (⟨rfl,hmk,T1⟩|⟨hmk,gv,q,rfl,a1,a2,a3,a4,a5,T1⟩)
  ·replace SS:=Ab ((Aa SS).heap 0 rfl T1)
   clear T1 HC
   unfold Bl
   go_wp2_with (first|go_skip|((with_reducible show wpList ..);(refine rd rfl (Vn rfl rfl rfl) ?_)))
   go_ret2
   exact⟨h,_,_,rfl, .inr ⟨_,rfl⟩,G.mono (by omega),HP.To.end H (Aa SS) rfl,rfl,rfl,rfl,rfl,LtB.refl _⟩
  ·have HL0:=Ab (Zfc (h:=h) (gv:=gv) (by rw[a2];exact Ug (hcz (Di h.l.length v) (by simp))) a4)
   replace SS:=Ab ((Aa SS).heap 0 rfl T1)
   clear T1 HC
   have H4:=Ab (fun (e:KK×DD) (he:e∈l)=>h4 (hcz c4 (by simp)) e he)
   have H35:=Ab (fun (e:KK×DD) (he:e∈l)=>And.intro (h3 (hcz c3 (by simp)) e he).1 (h5 (hcz c5 (by simp)) e he))
   have HG:=Ab (And.intro (Zfd (gv:=gv) G hmk hvx a1 a2 a3 a4 a5) (And.intro (show (h.more gv q).l[h.l.length]? =some q by unfold HP.more;simp) a5))
   go_wp2_with (first|go_skip|((with_reducible show wpList ..);(refine rd rfl (Bm 49 80 Tryz.underlying49 rfl rfl) ?_)))
   go_loopg [43] l.length (fun gm s9 wr=> ∃(i:Nat) (hi:HP) (qi:OB),s9= .int .i64 (i:Nat)/\i<=l.length/\l.length - i<=gm/\Hid (Sy w wr h.blocks [hpO hi,Aq Ba v.cs])/\Hid (hi.Gd (max N i)/\hi.l[h.l.length]? =some qi/\qi.T.last<=i/\hi.b=h.b/\hi.cap=h.cap/\hi.depth=h.depth/\hi.ent=h.ent/\hi.fuel=h.fuel/\LtB h hi))
   case atStart=>exact⟨0,h.more gv q,q,rfl,by omega,by omega,SS,Ab ⟨(Aa HG).1.mono (by omega),(Aa HG).2.1,by rw[(Aa HG).2.2];exact Nat.le_refl _,rfl,rfl,rfl,rfl,rfl,Aa HL0⟩⟩
   case round=>
    clear SS HG
    obtain⟨i,hi,qi,rfl,hil,hgm,SS,HG⟩:=hrel
    by_cases hlt:i<l.length
    ·have dlt:decide ((i:Int)<(l.length:Int))=true:=decide_eq_true (by omega)
     have hw1:IntKind.i64.wrap ((i:Int)+1)=(i:Int)+1:=by rw[IntKind.wrap_i64];omega
     obtain⟨e,hv⟩: ∃e,l[i]? =some e:=⟨_,List.getElem?_eq_getElem hlt⟩
     have hel:=List.mem_of_getElem? hv
     obtain⟨b,off,hA, -, -⟩:=hR w (Fr.refl _ _) i e hv
     subst hA
     have HA2:Hid (∀X,Fr w X h.blocks->X.rangeAt b (off+i * 20) (prC e)):=Ab (fun X hX=>by
      obtain⟨b2,off2,h1, -,h3⟩:=hR X hX i e hv
      cases h1
      exact h3)
     have HLT:=Ab hlt
     clear hlt hil
     go_wp2_with (first|go_skip|((with_reducible show wpList ..);first|(refine rd rfl (Ax 49 20 i Qu Qw rfl rfl rfl (Aa HLT)) ?_)|(refine rd rfl (Bp (vs:=prC e) 80 20 rwP szP rfl rfl (Aa HA2 _ (Aa SS).fr) rfl) ?_)|(refine zA 80 (prC Pf) (by rfl) rfl SS ?_;clear SS;intro X3 B3 SS;simp only[nn])|((refine stS (vs:=prC e) 2 80 (by rfl) rfl rfl rfl rfl (Us _) szP (Aa SS) rfl (by simp[Bo,prC,Pf,KK.cs,DD.cs,VV.cs]) ?_);intro X4 S4 hf4 hs4;replace SS:=Ab S4;clear S4 hf4 hs4;simp only[nn])|(refine rd rfl (ex_b91 rfl) ?_)|(refine rd rfl (Af (vs:=e.1.cs) 37 2 rwK szK rfl rfl ((Aa SS).hold 2 rfl) rfl rfl) ?_)|(refine rd rfl (Af (vs:=e.2.cs) 43 18 rwD szD rfl rfl ((Aa SS).hold 2 rfl) rfl rfl) ?_)))
     obtain⟨Gi,hqi,hla,hbi,k1,k2,k3,k4,k5⟩:=Aa HG
     have HC:=Rm hi h.l.length qi e.1 e.2 _ ((Aa SS).hp 0 rfl) Gi.wf.ok.len hqi (hT.fr (Aa SS).fr H.low) (hOk e hel) (Aa H35 e hel).1 (Zcq Gi.wf hqi e.1) (hFD e hel) (by have:=hz;omega)
     rw[Dj,Mi,hbi] at HC
     refine HC.mono ?_
     rintro _ Y9 ⟨h9,y,rfl,hD,T9⟩
     have D9:=hD.gd Gi hqi hla (M:=max N (i+1)) (by omega) (by omega) (hFD e hel) (Aa H35 e hel).2.1 (Aa H35 e hel).2.2 (Aa H35 e hel).1 (check_ov (Aa H4 e hel) (Nat.le_of_lt (List.getElem?_eq_some_iff.1 hqi).1))
     obtain⟨G9,S9,f9,q9,hq9,hl9⟩:=D9
     replace SS:=Ab (Sy.left (L:= [hpO h9,Aq Ba v.cs]) (M:= [_]) ((Aa SS).heap 0 rfl T9))
     have HG9:=Ab (And.intro G9 (And.intro hq9 (And.intro hl9 (And.intro (T9.hb.trans hbi) (And.intro (S9.cap.trans k1) (And.intro (S9.depth.trans k2) (And.intro (S9.ent.trans k3) (And.intro (f9.trans k4) (k5.trans S9.lt)))))))))
     clear hD T9 G9 S9 f9 hq9 hl9 HC Gi hqi hla hbi k1 k2 k3 k4 HG
     go_wp2
     go_roundg (l.length - (i+1))
     case measure=>have:=Aa HLT;omega
     case rel=>exact⟨i+1,h9,q9,by go_num,by have:=Aa HLT;omega,by omega,SS,HG9⟩
    ·obtain rfl:i=l.length:=by omega
     go_wp2_with (go_skip)
     go_ret2
     obtain⟨Gi,hqi,hla,hbi,k1,k2,k3,k4,k5⟩:=Aa HG
     exact⟨hi,_,_,rfl, .inl rfl,Gi,HP.To.end H (Aa SS) hbi,k1,k2,k3,k4,k5⟩
 ·go_wp2_with (first|go_skip|((with_reducible show wpList ..);(refine rd rfl (Gk rfl rfl rfl hc) ?_)))
  go_ret2
  exact⟨h,_,_,rfl, .inr ⟨_,rfl⟩,G.mono (by omega),HP.To.end H (Aa SS) rfl,rfl,rfl,rfl,rfl,LtB.refl _⟩
end
section
open Go Go.Proofs Go.Maps Go.RowKit FM Tryz
attribute [local go_sem] Am Al Ar Ah Ao Ai Au Dg Df Bh Ak Az
def El (k:Int):List Value:= [.int .i64 k, .int .i64 0]++Av.cs
theorem Nx (k:Int): ∀u∈El k,u.oneCell'=true:=by simp[El,VV.cs,Value.oneCell']
def Gq (er:Value):Int:=match er with| .iface _ (.int _ c)=>c|_=>0
theorem ta_errno (c:Int) (w:World):(Instr.typeAssert (Bl c) 66 31 true).run prog w= .ok (.tuple #[.int .i64 c, .bool true]) w:=by
 simp[Instr.typeAssert,Bl,run_underlying underlying31]
theorem ex_taE {o:Oper} {a:Act} {w:World} {x:Operand} {c:Int} (ho:o.op= .typeAssert x 66 31 true) (hx:a.eval x=Bl c):(execOp a.eval o).run prog w= .ok (.value (.tuple #[.int .i64 c, .bool true])) w:=by
 unfold execOp
 simp only[ho,hx]
 simp[ta_errno]
theorem ex_ifEqN {o:Oper} {a:Act} {w:World} {x:Operand} (ho:o.op= .binOp .eql 66 x (.const .nilIface) 66) (hx:a.eval x= .nilIface):(execOp a.eval o).run prog w= .ok (.value (.bool true)) w:=by
 unfold execOp
 simp only[ho,hx,show a.eval (.const .nilIface)= .nilIface from rfl]
 simp[go_sem,eqGuard]
theorem ex_ifEqE {o:Oper} {a:Act} {w:World} {x y:Operand} {c:Int} (ho:o.op= .binOp .eql 66 x y 66) (hx:a.eval x=Bl c) (hc:a.eval y= .nilIface):(execOp a.eval o).run prog w= .ok (.value (.bool false)) w:=by
 unfold execOp
 simp only[ho,hx,hc,Bl]
 simp[go_sem,eqGuard]
theorem ex_bf0 {o:Oper} {a:Act} {w:World} (ho:o.op= .build 58 #[]):(execOp a.eval o).run prog w= .ok (.value (.agg (El 0).toArray)) w:=by
 have e:(Instr.build 58 #[]).run prog w= .ok (.agg (El 0).toArray) w:=by kernel_rfl
 unfold execOp
 simp only[ho]
 simp[e]
theorem ex_bf1 {o:Oper} {a:Act} {w:World} {x:Operand} {c:Int} (ho:o.op= .build 58 #[(0,x)]) (hx:a.eval x= .int .i64 c):(execOp a.eval o).run prog w= .ok (.value (.agg (El c).toArray)) w:=by
 have e:(Instr.build 58 #[(0, .int .i64 c)]).run prog w= .ok (.agg (El c).toArray) w:=by kernel_rfl
 unfold execOp
 simp only[ho,List.map_toArray,List.map_cons,List.map_nil,hx]
 simp[e]
theorem fault_n (w:World):Calls prog 29 #[.nilIface] w fun e w'=>e= .returned (.agg (El 0).toArray)/\Below w.heap.size w w':=by
 have SS:=Ab (Sy.nil w [])
 go_enter func29,ntmps29
 go_wp2_with (first|go_skip|((with_reducible show wpList ..);first|(refine zA 58 (El 0) (by rfl) rfl SS ?_;clear SS;intro Xa Ba SS;simp only[nn])|(refine rd rfl (ex_ifEqN rfl rfl) ?_)|(refine rd rfl (ex_bf0 rfl) ?_)|((refine stS (vs:=El 0) 0 58 (by rfl) rfl rfl rfl rfl (Nx _) szF (Aa SS) rfl (by simp[Bo,El,VV.cs]) ?_);intro Xb Lb hfb hsb;replace SS:=Ab Lb;clear Lb hfb hsb;simp only[nn])))
 refine Kz rwF szF rfl rfl rfl ((Aa SS).hold 0 rfl) rfl ?_
 exact⟨rfl,(Aa SS).fr.below⟩
theorem fault_e (c:Int) (w:World):Calls prog 29 #[Bl c] w fun e w'=>e= .returned (.agg (El c).toArray)/\Below w.heap.size w w':=by
 have SS:=Ab (Sy.nil w [])
 go_enter func29,ntmps29
 go_wp2_with (first|go_skip|((with_reducible show wpList ..);first|(refine zA 58 (El 0) (by rfl) rfl SS ?_;clear SS;intro Xa Ba SS;simp only[nn])|(refine rd rfl (ex_ifEqE rfl rfl rfl) ?_)|(refine rd rfl (ex_taE rfl rfl) ?_)|(refine rd rfl (ex_bf1 rfl rfl) ?_)|((refine stS (vs:=El c) 0 58 (by rfl) rfl rfl rfl rfl (Nx _) szF (Aa SS) rfl (by simp[Bo,El,VV.cs]) ?_);intro Xb Lb hfb hsb;replace SS:=Ab Lb;clear Lb hfb hsb;simp only[nn])))
 refine Kz rwF szF rfl rfl rfl ((Aa SS).hold 0 rfl) rfl ?_
 exact⟨rfl,(Aa SS).fr.below⟩
theorem Zz (er:Value) (w:World) (h:er= .nilIface∨ ∃k,er=Bl k):Calls prog 29 #[er] w fun e w'=>e= .returned (.agg (El (Gq er)).toArray)/\Below w.heap.size w w':=by
 rcases h with rfl|⟨k,rfl⟩
 ·exact fault_n w
 ·exact fault_e k w

theorem Zet (l:List VV) (A1 A2:Option Addr) (c1 c2:Nat) (w:World) (hz:l.length<=4000000) (hx: ∀v∈l,v.x<2^64) (hR1:Nk w A1 l) (hR2:Nk w A2 l):Calls prog 78 #[.slice A1 l.length c1, .slice A2 l.length c2] w fun e w'=>e= .returned (.bool true)/\Below w.heap.size w w':=by
 have SS:=Ab (Sy.nil w [])
 go_enter func78,ntmps78
 go_wp2_with (first|go_skip|((with_reducible show wpList ..);first|(refine rd rfl (Bm 44 40 underlying44 rfl rfl) ?_)|(refine rd rfl (Jb rfl rfl rfl rfl) ?_)))
 go_loopg [5] l.length (fun gm s5 wr=> ∃i:Nat,s5= .int .i64 (i:Nat)/\i<=l.length/\l.length - i<=gm/\Hid (Sy w wr [] []))
 case atStart=>exact⟨0,rfl,by omega,by omega,SS⟩
 case round=>
  clear SS
  obtain⟨i,rfl,hil,hgm,SS⟩:=hrel
  by_cases hlt:i<l.length
  ·obtain⟨v,hs⟩: ∃v,l[i]? =some v:=⟨_,List.getElem?_eq_getElem hlt⟩
   have hvx:=hx v (List.mem_of_getElem? hs)
   obtain⟨b1,o1,rfl,hb1,hr1⟩:=hR1 i v hs
   obtain⟨b2,o2,rfl,hb2,hr2⟩:=hR2 i v hs
   have HR1: ∀X,Sy w X [] []->X.rangeAt b1 (o1+i * 5) v.cs:=fun X hX=>Dn hr1 hb1 hX.fr.below
   have HR2: ∀X,Sy w X [] []->X.rangeAt b2 (o2+i * 5) v.cs:=fun X hX=>Dn hr2 hb2 hX.fr.below
   have dlt:decide ((i:Int)<(l.length:Int))=true:=decide_eq_true (by omega)
   have hw1:IntKind.i64.wrap ((i:Int)+1)=(i:Int)+1:=by rw[IntKind.wrap_i64];omega
   have HC:=fun (w:World)=>Ru v v w
   simp only[Py,Bu] at HC
   go_wp2_with (first|go_skip|((with_reducible show wpList ..);first|(refine rd rfl (Bm 44 40 underlying44 rfl rfl) ?_)))
   have hS6:Sy w _ [] []:=(Aa SS).drew
   clear SS
   refine wp_region_held_drew (P:=prog) (S:=fun X=>Sy w X [] _) (by kernel_rfl) (hS6) (fun hS0=> ?_)
   refine gp 0 (some 17) (.slice (some ⟨b1,o1,none⟩) l.length c1) rfl rfl (hS6) ?_
   refine gp 1 (some 18) (.int .i64 (i:Nat)) rfl rfl (hS6) ?_
   refine gq 2 (some 19) (.pointer (some ⟨b1,o1+i * 5,none⟩)) rfl rfl (fun X hX=>Ax 44 5 i Rg Rr rfl rfl rfl hlt) (hS6) ?_
   refine gq 3 (some 20) (.agg (v.cs).toArray) rfl rfl (fun X hX=>Bp (vs:=v.cs) 40 5 rwV szV rfl rfl (HR1 _ hX) rfl) (hS6) ?_
   refine gp 4 (some 21) (.slice (some ⟨b2,o2,none⟩) l.length c2) rfl rfl (hS6) ?_
   refine gp 5 (some 22) (.int .i64 (i:Nat)) rfl rfl (hS6) ?_
   refine gq 6 (some 23) (.pointer (some ⟨b2,o2+i * 5,none⟩)) rfl rfl (fun X hX=>Ax 44 5 i Rg Rr rfl rfl rfl hlt) (hS6) ?_
   refine gq 7 (some 24) (.agg (v.cs).toArray) rfl rfl (fun X hX=>Bp (vs:=v.cs) 40 5 rwV szV rfl rfl (HR2 _ hX) rfl) (hS6) ?_
   refine gr (rs:= [8]) (gcB 8 (some 25) rfl rfl hS6 (HC _) id ?_ gn)
   intro Y1 hq1
   refine gp 9 (some 26) (.bool false) rfl rfl (hq1) ?_
   refine dn ?_
   try simp only[nn]
   have SS:=Ab hq1
   go_wp2
   go_roundg (l.length - (i+1))
   case measure=>omega
   case rel=>exact⟨i+1,by go_num,by omega,by omega,SS⟩
  ·obtain rfl:i=l.length:=by omega
   go_wp2_with (first|go_skip|((with_reducible show wpList ..);first|(refine rd rfl (Bm 44 40 underlying44 rfl rfl) ?_)))
   go_ret
   exact⟨rfl,(Aa SS).fr.below⟩
def RC (c:Int):Prop:=c=0∨c=4∨c=5∨c=8
theorem Pm: ∀{l:List Int},(∀e∈l,RC e)->RC (orE l)
 | [],_=> .inl rfl
 |e::l,h=>by
  unfold orE
  split
  ·exact Pm (fun x hx=>h x (List.mem_cons_of_mem _ hx))
  ·exact h e (List.mem_cons_self ..)
theorem Pj (o:Int) (n:Nat):RC (thE o n):=by unfold thE;split<;>simp[RC]
theorem ZdX (k:KK):RC (Da k):=by unfold Da;split<;>simp[RC]
theorem Zan (l:List VV):RC (Bz l):=by unfold Bz;split<;>simp[RC]
theorem Zap (n:Nat) (l:List VV):RC (Bj n l):=by unfold Bj;split<;>simp[RC]
theorem Zao (v:VV):RC (Db v):=by unfold Db;split<;>simp[RC]
theorem Zaq (d:DD):RC (Jt d):=by unfold Jt;split<;>simp[RC]
theorem Zar (l:List VV):RC (Ml l):=by unfold Ml;split<;>simp[RC]
def AskP (h:HP) (N:Nat) (h1:HP) (er:Value):Prop:=h1.Gd (N+1)/\Stp h h1/\((∃c,(c=4∨c=5∨c=8)/\er=Bl c/\h1=h)∨Gw h h1 er)
def SetQ (h:HP) (r:VV) (k:KK) (v:VV) (h1:HP) (y:Bool):Prop:=(y=false/\h1=h)∨(v.good=true/\ ∃er,SetP h r k v h1 y er)
theorem AskP.no {h:HP} {N:Nat} (G:h.Gd N) {c:Int} (h0:c≠0) (hc:RC c):AskP h N h (Bl c):=by
 refine⟨G.mono (Nat.le_succ _),Stp.refl _, .inl ⟨c, ?_,rfl,rfl⟩⟩
 rcases hc with h|h
 ·exact absurd h h0
 ·exact h
theorem AskP.low {h h1:HP} {N:Nat} {er:Value} (G:h.Gd N) (L:Low h h1) (E:Gw h h1 er):AskP h N h1 er:=⟨(Po G L).mono (Nat.le_succ _),L.stp, .inr E⟩
theorem AskP.er {h h1:HP} {N:Nat} {er:Value} (A:AskP h N h1 er):er= .nilIface∨ ∃k,er=Bl k:=by
 rcases A.2.2 with ⟨c, -,h, -⟩|⟨h, -⟩
 ·exact .inr ⟨c,h⟩
 ·rcases h with h|h|h
  ·exact .inl h
  ·exact .inr ⟨_,h⟩
  ·exact .inr ⟨_,h⟩
theorem Pu {n:Nat} {l:List VV} (h:Bj n l=0): ∀v∈l,v.k=7->1<=v.i/\v.i<=(n:Int):=by
 intro v hv h7
 unfold Bj at h
 split at h
 ·rename_i ha
  have:=List.all_eq_true.1 ha v hv
  simp[Ll,h7,Qx] at this
  exact this
 ·cases h
theorem ZgJ {l:List VV} (h:Ml l=0): ∀v∈l,v.k≠7:=by
 intro v hv h7
 unfold Ml at h
 split at h
 ·rename_i ha
  have:=List.all_eq_true.1 ha v hv
  simp[Za,h7] at this
 ·cases h
theorem Zc2 {v:VV} (h:Db v=0):v.k=2∨v.k=7:=by
 unfold Db at h
 split at h
 ·assumption
 ·cases h
theorem Vz (h:HP) (o:Int)  (N:Nat) (w:World) (H:h.Is w) (G:h.Gd N) (hN:N<=90000) (hT:Tabs w):Calls prog 68 #[.pointer (some ⟨h.b,0,none⟩), .int .i64 o] w fun e w'=> ∃(h1:HP) (V:VV) (er:Value),e= .returned (.tuple #[V.agg,er])/\AskP h N h1 er/\h.To h1 w w':=by
 refine(Yr h o  N w H G hN hT).mono ?_
 rintro _ Y ⟨h1,V,er,rfl,(⟨h0,rfl,rfl⟩|⟨h0,j,q,rfl,hj,hD,hE⟩),T⟩
 ·refine⟨_,_,_,rfl,AskP.no G h0 (Pj _ _),T⟩
 ·exact⟨h1,_,_,rfl,AskP.low G hD.1 hE,T⟩
theorem Zs (h:HP) (o:Int)  (N:Nat) (w:World) (H:h.Is w) (G:h.Gd N) (hN:N<=90000) (hT:Tabs w):Calls prog 70 #[.pointer (some ⟨h.b,0,none⟩), .int .i64 o] w fun e w'=> ∃(h1:HP) (y:Bool) (er:Value),e= .returned (.tuple #[.bool y,er])/\AskP h N h1 er/\h.To h1 w w':=by
 refine(ZaV h o  N w H G hN hT).mono ?_
 rintro _ Y ⟨h1,y,er,rfl,(⟨h0,rfl,rfl,rfl⟩|⟨h0,j,q,rfl,hj,hD,hE⟩),T⟩
 ·refine⟨_,_,_,rfl,AskP.no G h0 (Pj _ _),T⟩
 ·exact⟨h1,_,_,rfl,AskP.low G hD.1 hE,T⟩
theorem Qc (h:HP) (o:Int)  (N:Nat) (w:World) (H:h.Is w) (G:h.Gd N) (hN:N<=90000) (hT:Tabs w):Calls prog 71 #[.pointer (some ⟨h.b,0,none⟩), .int .i64 o] w fun e w'=> ∃(h1:HP) (y:Bool) (er:Value),e= .returned (.tuple #[.bool y,er])/\AskP h N h1 er/\h.To h1 w w':=by
 refine(Rb h o  N w H G hN hT).mono ?_
 rintro _ Y ⟨h1,y,er,rfl,(⟨h0,rfl,rfl,rfl⟩|⟨h0,j,q,rfl,hj,hD,hE⟩),T⟩
 ·refine⟨_,_,_,rfl,AskP.no G h0 (Pj _ _),T⟩
 ·rcases hD with ⟨-,L⟩|⟨-, -,L⟩
  ·exact⟨h1,_,_,rfl,AskP.low G L hE,T⟩
  ·exact⟨h1,_,_,rfl,⟨(Po (shut_gd G hj) L).mono (Nat.le_succ _),Stp.trans (h1:=h.shut j q) ⟨List.length_set,rfl,rfl,rfl,ZdR hj (fun hw=>⟨hw,lt_shut hw.2⟩)⟩ L.stp, .inr hE⟩,T⟩
theorem Xk (h:HP) (o:Int) (k:KK) (N:Nat) (w:World) (H:h.Is w) (G:h.Gd N) (hN:N<=90000) (hT:Tabs w) (hk:OkK k):Calls prog 72 #[.pointer (some ⟨h.b,0,none⟩), .int .i64 o,k.agg] w fun e w'=> ∃(h1:HP) (V:DD) (y:Bool) (er:Value),e= .returned (.tuple #[V.agg, .bool y,er])/\AskP h N h1 er/\h.To h1 w w':=by
 refine(Ys h o k N w H G hN hT hk).mono ?_
 rintro _ Y ⟨h1,V,y,er,rfl,(⟨h0,rfl,rfl⟩|⟨h0,j,q,rfl,hj,hD,hE⟩),T⟩
 ·refine⟨_,_,_,_,rfl,AskP.no G h0 (Pm (fun e he=>by simp only[List.mem_cons,List.not_mem_nil,or_false] at he;rcases he with rfl|rfl<;>first|exact Pj _ _|exact ZdX _|exact Zan _|exact Zap _ _|exact Zao _|exact Zaq _|exact Zar _)),T⟩
 ·exact⟨h1,_,_,_,rfl,AskP.low G hD hE,T⟩
theorem Za0 (h:HP) (o:Int) (k:KK) (N:Nat) (w:World) (H:h.Is w) (G:h.Gd N) (hN:N<=90000) (hT:Tabs w) (hk:OkK k):Calls prog 73 #[.pointer (some ⟨h.b,0,none⟩), .int .i64 o,k.agg] w fun e w'=> ∃(h1:HP) (y:Bool) (er:Value),e= .returned (.tuple #[.bool y,er])/\AskP h N h1 er/\h.To h1 w w':=by
 refine(Zbe h o k N w H G hN hT hk).mono ?_
 rintro _ Y ⟨h1,y,er,rfl,(⟨h0,rfl,rfl,rfl⟩|⟨h0,j,q,rfl,hj,hD,hE⟩),T⟩
 ·refine⟨_,_,_,rfl,AskP.no G h0 (Pm (fun e he=>by simp only[List.mem_cons,List.not_mem_nil,or_false] at he;rcases he with rfl|rfl<;>first|exact Pj _ _|exact ZdX _|exact Zan _|exact Zap _ _|exact Zao _|exact Zaq _|exact Zar _)),T⟩
 ·exact⟨h1,_,_,rfl,AskP.low G hD hE,T⟩
theorem askGet (h:HP) (o:Int) (k:KK) (r:VV) (N:Nat) (w:World) (H:h.Is w) (G:h.Gd N) (hN:N<=90000) (hT:Tabs w) (hk:OkK k):Calls prog 17 #[.pointer (some ⟨h.b,0,none⟩), .int .i64 o,k.agg,r.agg] w fun e w'=> ∃(h1:HP) (V:VV) (er:Value),e= .returned (.tuple #[V.agg,er])/\AskP h N h1 er/\h.To h1 w w':=by
 refine(doGet h o k r N w H G hN hT hk).mono ?_
 rintro _ Y ⟨h1,V,er,rfl,(⟨h0,rfl,rfl⟩|⟨h0,j,q,rfl,hj,hD,hE⟩),T⟩
 ·refine⟨_,_,_,rfl,AskP.no G h0 (Pm (fun e he=>by simp only[List.mem_cons,List.not_mem_nil,or_false] at he;rcases he with rfl|rfl|rfl|rfl<;>first|exact Pj _ _|exact ZdX _|exact Zan _|exact Zap _ _|exact Zao _|exact Zaq _|exact Zar _)),T⟩
 ·exact⟨h1,_,_,rfl,AskP.low G hD hE,T⟩
theorem ZgF (h:HP) (o:Int) (k:KK) (N:Nat) (w:World) (H:h.Is w) (G:h.Gd N) (hN:N<=90000) (hT:Tabs w) (hk:OkK k):Calls prog 74 #[.pointer (some ⟨h.b,0,none⟩), .int .i64 o,k.agg] w fun e w'=> ∃(h1:HP) (y:Bool) (er:Value),e= .returned (.tuple #[.bool y,er])/\AskP h N h1 er/\h.To h1 w w':=by
 refine(doDelete h o k N w H G hN hT hk).mono ?_
 rintro _ Y ⟨h1,y,er,rfl,(⟨h0,rfl,rfl,rfl⟩|⟨h0,j,q,rfl,hj,hD,hE⟩),T⟩
 ·refine⟨_,_,_,rfl,AskP.no G h0 (Pm (fun e he=>by simp only[List.mem_cons,List.not_mem_nil,or_false] at he;rcases he with rfl|rfl<;>first|exact Pj _ _|exact ZdX _|exact Zan _|exact Zap _ _|exact Zao _|exact Zaq _|exact Zar _)),T⟩
 ·rcases hD with ⟨-,L⟩|⟨-,⟨-,L⟩|⟨-,T',hc1,L,hl,hp⟩⟩
  ·exact⟨h1,_,_,rfl,AskP.low G L hE,T⟩
  ·exact⟨h1,_,_,rfl,AskP.low G L hE,T⟩
  ·have h2:(h.tab j q T').Gd (N+1):=ZdM G hj (fun e he=>by rw[hp] at he;exact(G.wf.ob j q hj).ps e (List.mem_filter.1 he).1) (by have:=G.few j q hj;omega) (Nat.le_succ _)
   exact⟨h1,_,_,rfl,⟨Po h2 L,(ZbS hj T' (del_lt hc1 hp)).trans L.stp, .inr hE⟩,T⟩
theorem Qd (h:HP) (o:Int) (k:KK) (d:DD) (N:Nat) (w:World) (H:h.Is w) (G:h.Gd N) (hN:N<=90000) (hT:Tabs w) (hk:OkK k) (hFd:FD d):Calls prog 16 #[.pointer (some ⟨h.b,0,none⟩), .int .i64 o,k.agg,d.agg] w fun e w'=> ∃(h1:HP) (y:Bool) (er:Value),e= .returned (.tuple #[.bool y,er])/\AskP h N h1 er/\h.To h1 w w':=by
 refine(Rc h o k d N w H G hN hT hk hFd).mono ?_
 rintro _ Y ⟨h1,y,er,rfl,(⟨h0,rfl,rfl,rfl⟩|⟨h0,j,q,rfl,hj,hD,hE⟩),T⟩
 ·refine⟨_,_,_,rfl,AskP.no G h0 (Pm (fun e he=>by simp only[List.mem_cons,List.not_mem_nil,or_false] at he;rcases he with rfl|rfl|rfl|rfl|rfl<;>first|exact Pj _ _|exact ZdX _|exact Zan _|exact Zap _ _|exact Zao _|exact Zaq _|exact Zar _)),T⟩
 ·have hz:=Dx h0
  have ha:=ZgJ (hz _ (by simp:Ml [d.g,d.s]∈_))
  have hg:=DefE.gd G hj hFd (ha d.g (by simp)) (ha d.s (by simp)) (Ns (hz (Da k) (by simp))) (chk_o (hz (Jt d) (by simp)) (fun h7=>(Pu (hz (Bj h.l.length [d.v,d.g,d.s]) (by simp)) d.v (by simp) h7).2)) hD
  exact⟨h1,_,_,rfl,⟨hg.1,hg.2, .inr hE⟩,T⟩
theorem askSet (h:HP) (o:Int) (k:KK) (v:VV) (r:VV) (N:Nat) (w:World) (H:h.Is w) (G:h.Gd N) (hN:N<=90000) (hT:Tabs w) (hk:OkK k) (hvx:v.x<2^64):Calls prog 19 #[.pointer (some ⟨h.b,0,none⟩), .int .i64 o,k.agg,v.agg,r.agg] w fun e w'=> ∃(h1:HP) (y:Bool) (er:Value),e= .returned (.tuple #[.bool y,er])/\AskP h N h1 er/\SetQ h r k v h1 y/\h.To h1 w w':=by
 refine(doSet h o k v r N w H G hN hT hk hvx).mono ?_
 rintro _ Y ⟨h1,y,er,rfl,(⟨h0,rfl,rfl,rfl⟩|⟨h0,j,q,rfl,hj,hD,hE⟩),T⟩
 ·refine⟨_,_,_,rfl,AskP.no G h0 (Pm (fun e he=>by simp only[List.mem_cons,List.not_mem_nil,or_false] at he;rcases he with rfl|rfl|rfl|rfl<;>first|exact Pj _ _|exact ZdX _|exact Zan _|exact Zap _ _|exact Zao _|exact Zaq _|exact Zar _)), .inl ⟨rfl,rfl⟩,T⟩
 ·have hz:=Dx h0
  have hg:=SetP.gd G hvx (Ns (hz (Da k) (by simp))) (fun h7=>⟨(Pu (hz (Bj h.l.length [v,r]) (by simp)) v (by simp) h7).2,Rj (hz (Bz [v,r]) (by simp)) v (by simp)⟩) hD
  exact⟨h1,_,_,rfl,⟨hg.1,hg.2, .inr hE⟩, .inr ⟨Rj (Dx h0 (Bz [v,r]) (by simp)) v (by simp),_,hD⟩,T⟩
theorem Vy (h:HP) (o:Int) (v:VV) (N:Nat) (w:World) (H:h.Is w) (G:h.Gd N) (hN:N<=90000) (hT:Tabs w) (hvx:v.x<2^64):Calls prog 69 #[.pointer (some ⟨h.b,0,none⟩), .int .i64 o,v.agg] w fun e w'=> ∃(h1:HP) (y:Bool) (er:Value),e= .returned (.tuple #[.bool y,er])/\AskP h N h1 er/\h.To h1 w w':=by
 refine(Yq h o v N w H G hN hT).mono ?_
 rintro _ Y ⟨h1,y,er,rfl,(⟨h0,rfl,rfl,rfl⟩|⟨h0,j,q,rfl,hj,hD,hE⟩),T⟩
 ·refine⟨_,_,_,rfl,AskP.no G h0 (Pm (fun e he=>by simp only[List.mem_cons,List.not_mem_nil,or_false] at he;rcases he with rfl|rfl|rfl|rfl<;>first|exact Pj _ _|exact ZdX _|exact Zan _|exact Zap _ _|exact Zao _|exact Zaq _|exact Zar _)),T⟩
 ·have hz:=Dx h0
  have hkn:=Pu (hz _ (by simp:Bj h.l.length [v]∈_)) v (by simp)
  have hpk:=Zc2 (hz _ (by simp:Db v∈_))
  rcases hD with ⟨-,L⟩|⟨-,L|⟨-,L,hqx,hR⟩⟩
  ·exact⟨h1,_,_,rfl,AskP.low G L hE,T⟩
  ·exact⟨h1,_,_,rfl,AskP.low G L hE,T⟩
  ·exact⟨h1,_,_,rfl,⟨(Po (prot_gd G hj hvx hpk hkn hR) L).mono (Nat.le_succ _),Stp.trans (h1:=h.prot j q v) ⟨List.length_set,rfl,rfl,rfl,ZdR hj (fun hw=>⟨⟨Rj (hz (Bz [v]) (by simp)) v (by simp),hw.2⟩,lt_prot hw.2 hqx v⟩)⟩ L.stp, .inr hE⟩,T⟩
def ReadsG {α:Type} (f:α->List Value) (k:Nat) (X:World) (A:Option Addr) (l:List α):Prop:= ∀(j:Nat) (x:α),l[j]? =some x-> ∃b off,A=some ⟨b,off,none⟩/\b<X.heap.size/\X.rangeAt b (off+j * k) (f x)
theorem Zel {α:Type} {f:α->List Value} {k:Nat} (hk: ∀x,(f x).length=k) (h0:0<k) {X:World} {b off:Nat} {l:List α} (h: ∀(j:Nat) (x:α),l[j]? =some x->X.rangeAt b (off+j * k) (f x)):X.rangeAt b off (l.flatMap f):=fun j v hv=>by
 have hlt:=(List.getElem?_eq_some_iff.1 hv).1
 rw[Nw f k hk] at hlt
 have hq:j / k<l.length:=Nat.div_lt_of_lt_mul (by rw[Nat.mul_comm];exact hlt)
 have hr:j % k<k:=Nat.mod_lt _ h0
 have e:j / k * k+j % k=j:=by rw[Nat.mul_comm];exact Nat.div_add_mod j k
 have h1:=Px f k hk l (j / k) (j % k) hq hr
 rw[e,hv] at h1
 have h2:=h (j / k) l[j / k] (List.getElem?_eq_getElem hq) (j % k) v h1.symm
 rw[show off+j=off+j / k * k+j % k by omega]
 exact h2
theorem ReadsG.src {α:Type} {f:α->List Value} {k:Nat} (hk: ∀x,(f x).length=k) (h0:0<k) {X:World} {A:Option Addr} {l:List α} (h:ReadsG f k X A l): ∀ad,A=some ad-> ∀j u,(l.flatMap f)[j]? =some u->X.cell? (ad.add j)=some u:=by
 rintro ad rfl j u hj
 cases l with
 |nil=>cases hj
 |cons x l=>
  obtain⟨b,off,h1, -, -⟩:=h 0 x rfl
  cases h1
  rw[Addr.add_mid]
  exact Zel hk h0 (fun j x hx=>by
   obtain⟨b2,o2,h2, -,h3⟩:=h j x hx
   cases h2
   exact h3) j u hj
theorem ReadsG.left {α:Type} {f:α->List Value} {k:Nat} {X:World} {A:Option Addr} {l m:List α} (h:ReadsG f k X A (l++m)):ReadsG f k X A l:=fun j x hx=>h j x (by rw[List.getElem?_append_left (List.getElem?_eq_some_iff.1 hx).1];exact hx)
theorem Rl {α:Type} {f:α->List Value} {k:Nat} (hk: ∀x,(f x).length=k) {X:World} {base n e:Nat} {A:Option Addr} {c:Nat} {l:List α} (h:X.ownsRow base e k (.slice A n c) n (l.flatMap f)) (hn:l.length=n):ReadsG f k X A l:=fun j x hj=>by
 have hlt:=(List.getElem?_eq_some_iff.1 hj).1
 have he:=(List.getElem?_eq_some_iff.1 hj).2
 obtain⟨g,c',h1,h2,h3,h4⟩:=Uu hk h hn j hlt
 cases h1
 exact⟨g,0,rfl,h3,by rw[he] at h4;exact h4⟩
section
variable {ops : Array Oper} {rest : List Oper} {Q : Exit → Act → World → Prop} {w w0 : World} {a : Act} {o : Oper} {E : List Nat} {L : List Ob}
theorem emS {t e:TypeId} {size:Nat} (base:Nat) (hw:Region.wanted o (yielded ops a.tmps)=true) (ho:o.op= .buildSlice t 0 #[]) (hr: ∀w,(Instr.buildSlice t 0 #[]).run prog w= .ok (.slice (some ⟨w.heap.size,0,none⟩) 0 0) (w.alloc (Obj.cells #[] e))) (hL:Sy w0 w E L) (hb:base<=w.heap.size)
  (h: ∀X B,Sy w0 X E (L++ [Du base e size (.slice (some ⟨B,0,none⟩) 0 0) 0 []])->wpList prog ops Q rest (a.put o.dst (.slice (some ⟨B,0,none⟩) 0 0)) X):wpList prog ops Q (o::rest) a w:=by
 refine BigFrame.wpList_want hw fun K hK=> ?_
 have hown:(w.alloc (Obj.cells #[] e)).ownsRow w.heap.size e size (.slice (some ⟨w.heap.size,0,none⟩) 0 0) 0 []:=⟨by simp, .inr ⟨w.heap.size,0, #[],rfl,Nat.le_refl _,(MapKept.heap_alloc w _).1,Nat.le_refl _,Nat.zero_le _,by simp,by simp⟩⟩
 have hP:=hK _ _ (h (w.alloc (Obj.cells #[] e)) w.heap.size (Sy.addRow hL hown ((Below.refl _ _).alloc (Nat.le_refl _) _) hb))
 have he:(execOp a.eval o).run prog w= .ok (.value (.slice (some ⟨w.heap.size,0,none⟩) 0 0)) (w.alloc (Obj.cells #[] e)):=by
  unfold execOp
  simp only[ho,List.map_toArray,List.map_nil]
  simp[hr w]
 unfold Oper.wp
 rw[he]
 exact hP
theorem apA {t e:TypeId} {size bytes k m c base:Nat} {z v:Value} {xs news:List Value} {A:Option Addr} {s x:Operand} (i:Nat) (hw:Region.wanted o (yielded ops a.tmps)=true) (ho:o.op= .call {callee:= .builtin .append,args:= #[s,x],argTypes:= #[t,t]}) (hs:a.eval s=v) (hx:a.eval x= .slice A m c)
  (ht:prog.underlying t=some (.slice e)) (hi:(prog.info? e).map (fun i=>(i.zero,i.size,i.bytes))=some (some z,size,bytes)) (hz:z.cells.size=size) (hsz:0<size) (hL:Sy w0 w E L) (hi1:L[i]? =some (Du base e size v k xs)) (hA:A=none->m=0/\c=0) (hl:news.length=m * size)
  (hnews: ∀ad,A=some ad-> ∀j u,news[j]? =some u->w.cell? (ad.add j)=some u) (h1: ∀u∈news,u.oneCell'=true)
  (hn:k+m<=4000000) (hby:bytes<=10000) (hbase:base<=w.heap.size)
  (h: ∀A c X,Sy w0 X E (L.set i (Du base e size (.slice A (k+m) c) (k+m) (xs++news)))->wpList prog ops Q rest (a.put o.dst (.slice A (k+m) c)) X):wpList prog ops Q (o::rest) a w:=by
 obtain⟨i0,hi,hz0,hz1,hz2⟩:=info_parts hi
 have hown:w.ownsRow base e size v k xs:=hL.get i hi1
 refine BigFrame.wpList_want hw fun K hK=> ?_
 cases A with
 |none=>
  obtain⟨rfl,rfl⟩:=hA rfl
  obtain rfl:news= []:=List.length_eq_zero_iff.1 (by simpa using hl)
  have hrun:=run_append_owned_none (P:=prog) (w:=w) base t o.type e i0 size ht hi v k xs hown
  obtain⟨A',c',rfl⟩:=Gl hown
  have hP:=hK _ _ (h A' c' w (by
   simp only[Nat.add_zero,List.append_nil]
   exact hL.row i hi1 hown (World.grownBy.refl _ _) (.inl rfl)))
  simp only[Nat.add_zero] at hP
  unfold Oper.wp
  simp[execOp,ho,resolve,invoke,builtin,hs,hx,hrun,Result.andThen]
  exact hP
 |some ad=>
  obtain⟨v',w',hrun,h2,h3,h4⟩:=Jn w base t o.type e i0 _ size bytes ht hi hz0 hz1 hz2 hz hsz v k xs hown ad m c news hl (hnews ad rfl) h1 (by unfold maxLen;omega) (Nat.le_trans (Nat.mul_le_mul hn hby) (by decide)) hbase
  obtain⟨A',c',rfl⟩:=Gl h2
  have hP:=hK _ _ (h A' c' w' (hL.row i hi1 h2 h3 h4))
  unfold Oper.wp
  simp[execOp,ho,resolve,invoke,builtin,hs,hx,hrun,Result.andThen]
  exact hP
end
theorem ex_slV {o:Oper} {a:Act} {w:World} {x ix:Operand} {b n cap p:Nat} (ho:o.op= .slice 44 x none (some ix) none) (hx:a.eval x= .slice (some ⟨b,0,none⟩) n cap) (hix:a.eval ix= .int .i64 (p:Nat)) (hp:p<=cap):(execOp a.eval o).run prog w= .ok (.value (.slice (some ⟨b,0,none⟩) p cap)) w:=by
 have e0:(Instr.sliceAt 44 (.slice (some ⟨b,0,none⟩) n cap) none (some (.int .i64 (p:Nat))) none).run prog w= .ok (.slice (some ⟨b,0,none⟩) p cap) w:=by
  rw[run_sliceAt_slice (h:=by kernel_rfl),run_slice_h (ht:=by kernel_rfl) (h0:=by omega) (h2:=by omega)]
  have e:(sizeOf (prog.elem 44)).run prog w= .ok 5 w:=by kernel_rfl
  rw[e]
  simp[sliced,Addr.add,Result.andThen]
 unfold execOp
 simp only[ho,hx,hix,Option.map_some,Option.map_none]
 simp[e0]
theorem ex_slP {o:Oper} {a:Act} {w:World} {x ix:Operand} {b n cap p:Nat} (ho:o.op= .slice 49 x none (some ix) none) (hx:a.eval x= .slice (some ⟨b,0,none⟩) n cap) (hix:a.eval ix= .int .i64 (p:Nat)) (hp:p<=cap):(execOp a.eval o).run prog w= .ok (.value (.slice (some ⟨b,0,none⟩) p cap)) w:=by
 have e0:(Instr.sliceAt 49 (.slice (some ⟨b,0,none⟩) n cap) none (some (.int .i64 (p:Nat))) none).run prog w= .ok (.slice (some ⟨b,0,none⟩) p cap) w:=by
  rw[run_sliceAt_slice (h:=by kernel_rfl),run_slice_h (ht:=by kernel_rfl) (h0:=by omega) (h2:=by omega)]
  have e:(sizeOf (prog.elem 49)).run prog w= .ok 20 w:=by kernel_rfl
  rw[e]
  simp[sliced,Addr.add,Result.andThen]
 unfold execOp
 simp only[ho,hx,hix,Option.map_some,Option.map_none]
 simp[e0]
theorem askKeys (h:HP) (o:Int) (N:Nat) (w:World) (H:h.Is w) (G:h.Gd N) (hN:N<=90000) (hT:Tabs w):Calls prog 75 #[.pointer (some ⟨h.b,0,none⟩), .int .i64 o] w fun e w'=> ∃(h1:HP) (V:Value) (er:Value),e= .returned (.tuple #[V,er])/\AskP h N h1 er/\(∃A n c,V= .slice A n c)/\h.To h1 w w':=by
 refine(Vv h o N w H G hN hT).mono ?_
 rintro _ Y ⟨h1,V,er,rfl,(⟨h0,rfl,rfl,rfl⟩|⟨h0,j,q,rfl,hj,hD,hE⟩),T⟩
 ·exact⟨_,_,_,rfl,AskP.no G h0 (Pj _ _),⟨none,0,0,rfl⟩,T⟩
 ·exact⟨h1,_,_,rfl,AskP.low G hD.1 hE,hD.2,T⟩
structure AN where
 v:VV
 y:Bool
 d:DD
 kA:Option Addr
 kn:Nat
 kc:Nat
 o:Int
 f:Int
def Bs:AN:=⟨Av,false,zeroD,none,0,0,0,0⟩
def Dm (n:AN):List Value:=n.v.cs++ [.bool n.y]++n.d.cs++ [.slice n.kA n.kn n.kc, .int .i64 n.o, .slice none 0 0]++El n.f
theorem Lc (n:AN): ∀u∈Dm n,u.oneCell'=true:=by simp[Dm,El,VV.cs,DD.cs,Value.oneCell']
def Za1 (M o T:Int) (k:KK) (v r:VV) (d:DD) (a:Value):List Value:= [.int .i64 M, .int .i64 o, .int .i64 T]++k.cs++v.cs++r.cs++d.cs++ [a]
def AskR (h:HP) (N:Nat) (M:Int) (k:KK) (v r:VV) (w:World) (e:Ending) (w':World):Prop:= ∃(h1:HP) (n:AN) (er:Value),e= .returned (.agg (Dm n).toArray)/\n.f=Gq er/\AskP h N h1 er/\(M=9->SetQ h r k v h1 n.y)/\h.To h1 w w'
def v7:VV:={Av with i:=7}
theorem Zfp:(prog.info? 40).map (fun i=>(i.zero,i.size,i.bytes))=some (some (.agg Av.cs.toArray),5,48):=by kernel_rfl
theorem Zbu (l:List VV): ∀u∈l.flatMap VV.cs,u.oneCell'=true:=by
 intro u hu
 obtain⟨v, -,h⟩:=List.mem_flatMap.1 hu
 exact Ea v u h
theorem ex_bv7 {o:Oper} {a:Act} {w:World} (ho:o.op= .build 40 #[(4, .const (.int .i64 7))]):(execOp a.eval o).run prog w= .ok (.value (.agg v7.cs.toArray)) w:=by
 have e:(Instr.build 40 #[(4, .int .i64 7)]).run prog w= .ok (.agg v7.cs.toArray) w:=by kernel_rfl
 unfold execOp
 simp only[ho,List.map_toArray,List.map_cons,List.map_nil,show a.eval (.const (.int .i64 7))= .int .i64 7 from rfl]
 simp[e]
theorem own_rv {X:World} {base e:Nat} {A:Option Addr} {c:Nat} {l:List VV} {v:VV} (h:X.ownsRow base e 5 (.slice A (l.length+1) c) (l.length+1) (l.flatMap VV.cs++ [v].flatMap VV.cs)):Nk X A (l++ [v]):=Rl (f:=VV.cs) (fun _=>rfl) (by rw[List.flatMap_append];exact h) (by simp)
theorem own_rvA {X:World} {base e:Nat} {A:Option Addr} {c:Nat} {n:Nat} {ys:List Value} (h:X.ownsRow base e 5 (.slice A (n+1) c) (n+1) ys): ∃g,A=some ⟨g,0,none⟩/\n+1<=c:=by
 rcases h.2 with ⟨h1,h0⟩|⟨g,cap,cur,h1,h2,h3,h4,h5⟩
 ·omega
 ·cases h1
  exact⟨g,rfl,h4⟩
theorem own_last {X:World} {base e g:Nat} {c:Nat} {l:List VV} {v:VV} (h:X.ownsRow base e 5 (.slice (some ⟨g,0,none⟩) (l.length+1) c) (l.length+1) (l.flatMap VV.cs++ [v].flatMap VV.cs)):X.rangeAt g (0+l.length * 5) v.cs:=by
 obtain⟨b,off,h1, -,h3⟩:=own_rv h l.length v (by simp)
 cases h1
 exact h3
theorem Zct {o:Oper} {a:Act} {W:World} {x:Operand} {B p:Nat} {cs:List Value} {v:Value} (t:TypeId) (i:Nat) (hna: ∀w,(isAgg t).run prog w= .ok false w) (ho:o.op= .load t x) (hx:a.eval x= .pointer (some ⟨B,p+i,none⟩)) (hc:W.rangeAt B p cs) (hv:cs[i]? =some v):(execOp a.eval o).run prog W= .ok (.value v) W:=by
 have h0:=hc i v hv
 unfold execOp
 simp only[ho,hx]
 simp[go_sem,h0,hna]
section
variable {ops : Array Oper} {rest : List Oper} {Q : Exit → Act → World → Prop} {w w0 : World} {a : Act} {o : Oper} {E : List Nat} {L : List Ob}
theorem apA0 {t e:TypeId} {size bytes m c base:Nat} {z v:Value} {news:List Value} {A:Option Addr} {s x:Operand} (i:Nat) (hw:Region.wanted o (yielded ops a.tmps)=true) (ho:o.op= .call {callee:= .builtin .append,args:= #[s,x],argTypes:= #[t,t]}) (hs:a.eval s=v) (hx:a.eval x= .slice A m c)
  (ht:prog.underlying t=some (.slice e)) (hi:(prog.info? e).map (fun i=>(i.zero,i.size,i.bytes))=some (some z,size,bytes)) (hz:z.cells.size=size) (hsz:0<size) (hL:Sy w0 w E L) (hi1:L[i]? =some (Du base e size v 0 [])) (hA:A=none->m=0/\c=0) (hl:news.length=m * size)
  (hnews: ∀ad,A=some ad-> ∀j u,news[j]? =some u->w.cell? (ad.add j)=some u) (h1: ∀u∈news,u.oneCell'=true)
  (hn:m<=4000000) (hby:bytes<=10000) (hbase:base<=w.heap.size)
  (h: ∀A c X,Sy w0 X E (L.set i (Du base e size (.slice A m c) m news))->wpList prog ops Q rest (a.put o.dst (.slice A m c)) X):wpList prog ops Q (o::rest) a w:=
 apA i hw ho hs hx ht hi hz hsz hL hi1 hA hl hnews h1 (by omega) hby hbase (fun A c X hS=>by simp only[Nat.zero_add,List.nil_append] at hS ⊢;exact h A c X hS)
end
