import Derived.Test.YtfnohipnenkhoaaGreatDoorRn
set_option linter.all false
namespace Go.Proofs.YtfnohipnenkhoaaGreatDoor
set_option maxRecDepth 100000
set_option maxHeartbeats 0
section
open Go Go.Proofs Go.Maps Go.RowKit FM Tryz
attribute [local go_sem] Am Al Ar Ah Ao Ai Aw Do Dn Bq Aj Bo
theorem Zdd (v:VV) (w:World):Calls prog 43 #[v.agg] w fun e w'=>e= .returned (.int .i64 (De v))/\Below w.heap.size w w':=by
 unfold De
 by_cases h2:v.k=2
 ·rw[if_pos (Or.inl h2)]
  have SS:=Ab (Sy.nil w [])
  rw[Db]
  go_enter func43,ntmps43
  go_wp2_with (first|go_skip|((with_reducible show wpList ..);first|(refine zB 36 (v.cs) (by rfl) rfl rfl rfl SS ?_;clear SS;intro X1 B1 SS;simp only[nn])|(refine rd rfl (Ad 3 isAgg3 rfl rfl ((Aa SS).hold 0 rfl) rfl) ?_)|(refine rd rfl (Eh rfl rfl rfl h2) ?_)))
  go_ret
  exact⟨rfl,(Aa SS).fr.below⟩
 ·by_cases h7:v.k=7
  ·rw[if_pos (Or.inr h7)]
   have SS:=Ab (Sy.nil w [])
   rw[Db]
   go_enter func43,ntmps43
   go_wp2_with (first|go_skip|((with_reducible show wpList ..);first|(refine zB 36 (v.cs) (by rfl) rfl rfl rfl SS ?_;clear SS;intro X1 B1 SS;simp only[nn])|(refine rd rfl (Ad 3 isAgg3 rfl rfl ((Aa SS).hold 0 rfl) rfl) ?_)|(refine rd rfl (Jy rfl rfl rfl h2) ?_)|(refine rd rfl (Eh rfl rfl rfl h7) ?_)))
   go_ret
   exact⟨rfl,(Aa SS).fr.below⟩
  ·rw[if_neg (by simp[h2,h7])]
   have SS:=Ab (Sy.nil w [])
   rw[Db]
   go_enter func43,ntmps43
   go_wp2_with (first|go_skip|((with_reducible show wpList ..);first|(refine zB 36 (v.cs) (by rfl) rfl rfl rfl SS ?_;clear SS;intro X1 B1 SS;simp only[nn])|(refine rd rfl (Ad 3 isAgg3 rfl rfl ((Aa SS).hold 0 rfl) rfl) ?_)|(refine rd rfl (Jy rfl rfl rfl h2) ?_)|(refine rd rfl (Jy rfl rfl rfl h7) ?_)))
   go_ret
   exact⟨rfl,(Aa SS).fr.below⟩
theorem ex_eqE {o:Oper} {a:Act} {w:World} {x y:Operand} {n m:Int} (b:Bool) (ho:o.op= .binOp .eql 28 x y 28) (hx:a.eval x= .int .i64 n) (hc:a.eval y= .int .i64 m) (h:decide (n=m)=b):(execOp a.eval o).run prog w= .ok (.value (.bool b)) w:=by
 subst h
 unfold execOp
 simp only[ho,hx,hc]
 by_cases h:n=m<;>simp[go_sem,eqGuard,h]
theorem ZcX (h:HP) (v:VV) (w:World) (H:h.Is w) (hl:h.l.length<=65536) (hT:Lib.Utf8Tabs 1 2 w):Calls prog 71 #[.pointer (some ⟨h.b,0,none⟩),v.agg] w fun e w'=>e= .returned (.bool false)/\Below w.heap.size w w':=by
 by_cases hc:En h.l.length v=0
 ·by_cases hk:v.k=7
  ·have SS:=Ab (Sy.nil w [])
   rw[Db]
   go_enter func71,ntmps71
   go_wp2_with (first|go_skip|((with_reducible show wpList ..);first|(refine zB 36 (v.cs) (by rfl) rfl rfl rfl SS ?_;clear SS;intro Xa Ba SS;simp only[nn])|(refine zL (v.cs) 36 5 0 rwV szV (by rfl) rfl rfl SS rfl rfl rfl ?_;simp only[nn])))
   have HC:=Nj h v _ (H.on (Aa SS).fr.below) (Au hT (Aa SS).fr.below)
   rw[Db] at HC
   refine HC.mono ?_
   rintro _ Y1 ⟨rfl,hY1⟩
   replace SS:=Ab ((Aa SS).on hY1)
   clear hY1 HC
   go_wp2_with (first|go_skip|((with_reducible show wpList ..);first|(refine rd rfl (Ad 3 isAgg3 rfl rfl ((Aa SS).hold 0 rfl) rfl) ?_)|(refine rd rfl (Jb rfl rfl rfl hk) ?_)))
   refine(Yh h v.i _ (H.on (Aa SS).fr.below) hl).mono ?_
   rintro _ Y2 ⟨rfl,hY2⟩
   obtain rfl:=hY2.symm
   go_wp2
   go_ret
   exact⟨rfl,(Aa SS).fr.below⟩
  ·have SS:=Ab (Sy.nil w [])
   rw[Db]
   go_enter func71,ntmps71
   go_wp2_with (first|go_skip|((with_reducible show wpList ..);first|(refine zB 36 (v.cs) (by rfl) rfl rfl rfl SS ?_;clear SS;intro Xa Ba SS;simp only[nn])|(refine zL (v.cs) 36 5 0 rwV szV (by rfl) rfl rfl SS rfl rfl rfl ?_;simp only[nn])))
   have HC:=Nj h v _ (H.on (Aa SS).fr.below) (Au hT (Aa SS).fr.below)
   rw[Db] at HC
   refine HC.mono ?_
   rintro _ Y1 ⟨rfl,hY1⟩
   replace SS:=Ab ((Aa SS).on hY1)
   clear hY1 HC
   go_wp2_with (first|go_skip|((with_reducible show wpList ..);first|(refine rd rfl (Ad 3 isAgg3 rfl rfl ((Aa SS).hold 0 rfl) rfl) ?_)|(refine rd rfl (Kk rfl rfl rfl hk) ?_)))
   go_ret
   exact⟨rfl,(Aa SS).fr.below⟩
 ·have SS:=Ab (Sy.nil w [])
  rw[Db]
  go_enter func71,ntmps71
  go_wp2_with (first|go_skip|((with_reducible show wpList ..);first|(refine zB 36 (v.cs) (by rfl) rfl rfl rfl SS ?_;clear SS;intro Xa Ba SS;simp only[nn])|(refine zL (v.cs) 36 5 0 rwV szV (by rfl) rfl rfl SS rfl rfl rfl ?_;simp only[nn])))
  have HC:=Nj h v _ (H.on (Aa SS).fr.below) (Au hT (Aa SS).fr.below)
  rw[Db] at HC
  refine HC.mono ?_
  rintro _ Y1 ⟨rfl,hY1⟩
  replace SS:=Ab ((Aa SS).on hY1)
  clear hY1 HC
  go_wp2_with (first|go_skip|((with_reducible show wpList ..);(refine rd rfl (ex_eqE false rfl rfl rfl (decide_eq_false hc)) ?_)))
  go_ret
  exact⟨rfl,(Aa SS).fr.below⟩
def prC (e:KK×DD):List Value:=e.1.cs++e.2.cs
theorem Qq (e:KK×DD): ∀u∈prC e,u.oneCell'=true:=by simp[prC,KK.cs,DD.cs,VV.cs,Value.oneCell']
def Nt:KK×DD:=(Jo,Ak)
theorem Zc (e:KK×DD):Bw (prC Nt) 0 (prC e)=prC e:=by simp[Bw,prC,Nt,KK.cs,DD.cs,VV.cs]
theorem Zbg (A:Option Addr) (cp:Nat) (l:List (KK×DD)) (w:World) (hT:Lib.Utf8Tabs 1 2 w) (hFD: ∀e∈l,FD e.2) (hR:ReadsP w A l) (hz:l.length<=1000000):Calls prog 44 #[.slice A l.length cp] w fun e w'=> ∃c:Int,e= .returned (.int .i64 c)/\(c=0-> ∀e∈l,(goodK e.1=true/\Gb e.2=0))/\Below w.heap.size w w':=by
 have SS:=Ab (Sy.nil w [])
 have HR:=Ab hR
 have HZ:=Ab hz
 clear hR hz
 go_enter func44,ntmps44
 go_wp2_with (first|go_skip|((with_reducible show wpList ..);(refine rd rfl (Bi 52 69 underlying52 rfl rfl) ?_)))
 go_loopg [8] l.length (fun gm s9 wr=> ∃i:Nat,s9= .int .i64 (i:Nat)/\i<=l.length/\l.length - i<=gm/\Hid (∀j e,j<i->l[j]? =some e->(goodK e.1=true/\Gb e.2=0))/\Hid (Sy w wr [] []))
 case atStart=>exact⟨0,rfl,by omega,by omega,Ab (fun j v hj=>by omega),SS⟩
 case round=>
  clear SS
  obtain⟨i,rfl,hil,hgm,HD,SS⟩:=hrel
  by_cases hlt:i<l.length
  ·have dlt:decide ((i:Int)<(l.length:Int))=true:=decide_eq_true (by omega)
   have hw1:IntKind.i64.wrap ((i:Int)+1)=(i:Int)+1:=by have:=Aa HZ;rw[IntKind.wrap_i64];omega
   obtain⟨e,hv⟩: ∃e,l[i]? =some e:=⟨_,List.getElem?_eq_getElem hlt⟩
   obtain⟨b,off,hA,hb,hrg⟩:=(Aa HR) i e hv
   subst hA
   have HA2:Hid (∀X,Below w.heap.size w X->X.rangeAt b (off+i * 20) (prC e)):=Ab (fun X hX=>Dj hrg hb hX)
   have HLT:=Ab hlt
   clear hb hrg hlt hil
   go_wp2_with (first|go_skip|((with_reducible show wpList ..);first|(refine rd rfl (Az 52 20 i Oz Pa rfl rfl rfl (Aa HLT)) ?_)|(refine rd rfl (By (vs:=prC e) 69 20 rwP szP rfl rfl (Aa HA2 _ (Aa SS).fr.below) rfl) ?_)|(refine zA 69 (prC Nt) (by rfl) rfl SS ?_;clear SS;intro X3 B3 SS;simp only[nn])|((refine stS (vs:=prC e) 0 69 (by rfl) rfl rfl rfl rfl (Qq _) szP (Aa SS) rfl (by simp[Bw,prC,Nt,KK.cs,DD.cs,VV.cs]) ?_);intro X4 S4 hf4 hs4;replace SS:=Ab S4;clear S4 hf4 hs4;simp only[nn])))
   have hq0:=Aa SS
   simp only[List.nil_append,List.set_cons_zero,Zc] at hq0
   replace SS:=Ab hq0
   clear hq0
   by_cases hc:orE [Bm e.1,Gb e.2]=0
   ·have HD2:Hid (∀j u,j<i+1->l[j]? =some u->(goodK u.1=true/\Gb u.2=0)):=Ab (fun j u hj hu=>by
     rcases Nat.lt_or_ge j i with h|h
     ·exact Aa HD j u h hu
     ·obtain rfl:j=i:=by omega
      obtain rfl:e=u:=Option.some.inj (hv.symm.trans hu)
      exact⟨Vq (Et hc (Bm e.1) (by simp)),Et hc (Gb e.2) (by simp)⟩)
    have hS4:Sy w _ [] [Aq B3 (prC e)]:=(Aa SS).drew
    clear SS
    refine wp_region_held_drew (P:=prog) (S:=fun X=>Sy w X [] _) (by kernel_rfl) (hS4) (fun hS0=> ?_)
    refine gp 0 (some 12) (.pointer (some ⟨B3,0,none⟩)) rfl rfl (hS4) ?_
    refine gq 1 (some 13) (.agg e.1.cs.toArray) rfl rfl (fun X hX=>Af (vs:=e.1.cs) 48 2 rwK szK rfl rfl (hX.hold 0 rfl) rfl rfl) (hS4) ?_
    refine gp 3 (some 15) (.pointer (some ⟨B3,2,none⟩)) rfl rfl (hS4) ?_
    refine gq 4 (some 16) (.agg e.2.cs.toArray) rfl rfl (fun X hX=>Af (vs:=e.2.cs) 39 18 rwD szD rfl rfl (hX.hold 0 rfl) rfl rfl) (hS4) ?_
    refine gr (rs:= [2]) (gcB 2 (some 14) rfl rfl hS4 (Qa e.1 _ (Au hT hS4.fr.below)) id ?_ gn)
    intro Yt1 hqt1
    simp only[nn]
    refine gr (rs:= [5]) (gcB 5 (some 17) rfl rfl hqt1 (Vh e.2 (hFD e (List.mem_of_getElem? hv)) _ (Au hT hqt1.fr.below)) id ?_ gn)
    intro Yt2 hqt2
    simp only[nn]
    refine gr (rs:= [6]) (Bj 6 (some 18) rfl rfl (by kernel_rfl) (Vb rfl rfl rfl) (Nat.succ_pos _) hqt2 (fun _ hZ=>Sy.left (L:= [_]) (M:= [_]) hZ) ?_ gn)
    intro Yt3 Bt3 hEt3 hqt3
    clear hEt3
    simp only[nn]
    refine gr (rs:= [7]) (gcW 7 (some 19) rfl rfl (Sy.left (L:= [_]) (M:= [_]) hqt3) (Mh Bt3 2 [Bm e.1,Gb e.2] _ (hqt3.hold 1 rfl) (by simp)) ?_ gn)
    refine gp 8 (some 5) (.int .i64 (orE [Bm e.1,Gb e.2])) rfl rfl (Sy.left (L:= [_]) (M:= [_]) hqt3) ?_
    refine wpAnyH_done (by kernel_rfl) ?_ _
    try simp only[nn]
    have SS:=Ab hqt3
    go_wp2_with (first|go_skip|((with_reducible show wpList ..);(refine rd rfl (La rfl rfl rfl hc) ?_)))
    replace SS:=Ab (Sy.left (L:= []) (M:= [_,_]) (Aa SS))
    go_wp2
    go_roundg (l.length - (i+1))
    case measure=>have:=Aa HLT;omega
    case rel=>exact⟨i+1,by go_num,by have:=Aa HLT;omega,by omega,HD2,SS⟩
   ·have hS4:Sy w _ [] [Aq B3 (prC e)]:=(Aa SS).drew
    clear SS
    refine wp_region_held_drew (P:=prog) (S:=fun X=>Sy w X [] _) (by kernel_rfl) (hS4) (fun hS0=> ?_)
    refine gp 0 (some 12) (.pointer (some ⟨B3,0,none⟩)) rfl rfl (hS4) ?_
    refine gq 1 (some 13) (.agg e.1.cs.toArray) rfl rfl (fun X hX=>Af (vs:=e.1.cs) 48 2 rwK szK rfl rfl (hX.hold 0 rfl) rfl rfl) (hS4) ?_
    refine gp 3 (some 15) (.pointer (some ⟨B3,2,none⟩)) rfl rfl (hS4) ?_
    refine gq 4 (some 16) (.agg e.2.cs.toArray) rfl rfl (fun X hX=>Af (vs:=e.2.cs) 39 18 rwD szD rfl rfl (hX.hold 0 rfl) rfl rfl) (hS4) ?_
    refine gr (rs:= [2]) (gcB 2 (some 14) rfl rfl hS4 (Qa e.1 _ (Au hT hS4.fr.below)) id ?_ gn)
    intro Yt1 hqt1
    simp only[nn]
    refine gr (rs:= [5]) (gcB 5 (some 17) rfl rfl hqt1 (Vh e.2 (hFD e (List.mem_of_getElem? hv)) _ (Au hT hqt1.fr.below)) id ?_ gn)
    intro Yt2 hqt2
    simp only[nn]
    refine gr (rs:= [6]) (Bj 6 (some 18) rfl rfl (by kernel_rfl) (Vb rfl rfl rfl) (Nat.succ_pos _) hqt2 (fun _ hZ=>Sy.left (L:= [_]) (M:= [_]) hZ) ?_ gn)
    intro Yt3 Bt3 hEt3 hqt3
    clear hEt3
    simp only[nn]
    refine gr (rs:= [7]) (gcW 7 (some 19) rfl rfl (Sy.left (L:= [_]) (M:= [_]) hqt3) (Mh Bt3 2 [Bm e.1,Gb e.2] _ (hqt3.hold 1 rfl) (by simp)) ?_ gn)
    refine gp 8 (some 5) (.int .i64 (orE [Bm e.1,Gb e.2])) rfl rfl (Sy.left (L:= [_]) (M:= [_]) hqt3) ?_
    refine wpAnyH_done (by kernel_rfl) ?_ _
    try simp only[nn]
    have SS:=Ab hqt3
    go_wp2_with (first|go_skip|((with_reducible show wpList ..);(refine rd rfl (Gx rfl rfl rfl hc) ?_)))
    go_ret
    exact⟨_,rfl,fun h0=>absurd h0 hc,(Aa SS).fr.below⟩
  ·obtain rfl:i=l.length:=by omega
   have HTA:=Ab (fun (e:KK×DD) (he:e∈l)=>by
    obtain⟨j,hj⟩:=List.getElem?_of_mem he
    exact Aa HD j e (List.getElem?_eq_some_iff.1 hj).1 hj)
   clear hlt hil HD
   go_wp2_with (go_skip)
   go_ret
   exact⟨0,rfl,fun _=>Aa HTA,(Aa SS).fr.below⟩
section
variable {ops : Array Oper} {rest : List Oper} {Q : Exit → Act → World → Prop} {w w0 : World} {a : Act} {o : Oper} {E : List Nat} {L : List Ob}
theorem bsVn {cs:List Value} {n t:Nat} (hw:Region.wanted o (yielded ops a.tmps)=true) (he: ∀w,(execOp a.eval o).run prog w= .ok (.value (.slice (some ⟨w.heap.size,0,none⟩) n n)) (w.alloc (Obj.cells cs.toArray t))) (hc:0<cs.length) (hL:Sy w0 w E L)
  (h: ∀X B,Sy w0 X E (L++ [Aq B cs])->wpList prog ops Q rest (a.put o.dst (.slice (some ⟨B,0,none⟩) n n)) X):wpList prog ops Q (o::rest) a w:=by
 refine BigFrame.wpList_want hw fun K hK=> ?_
 have hP:=hK _ _ (h _ _ (hL.box cs t hc))
 unfold Oper.wp
 rw[he w]
 exact hP
end
theorem Zcs (h:HP) (A:Option Addr) (cp:Nat) (l:List (KK×DD)) (w:World) (H:h.Is w) (hl:h.l.length<=65536) (hT:Lib.Utf8Tabs 1 2 w) (hR:ReadsP w A l) (hz:l.length<=1000000):Calls prog 46 #[.pointer (some ⟨h.b,0,none⟩), .slice A l.length cp] w fun e w'=> ∃c:Int,e= .returned (.int .i64 c)/\(c=0-> ∀e∈l,(e.2.g.k≠7/\e.2.s.k≠7))/\Below w.heap.size w w':=by
 have SS:=Ab (Sy.nil w [])
 have HR:=Ab hR
 have HZ:=Ab hz
 clear hR hz
 go_enter func46,ntmps46
 go_wp2_with (first|go_skip|((with_reducible show wpList ..);(refine rd rfl (Bi 52 69 underlying52 rfl rfl) ?_)))
 go_loopg [11] l.length (fun gm s9 wr=> ∃i:Nat,s9= .int .i64 (i:Nat)/\i<=l.length/\l.length - i<=gm/\Hid (∀j e,j<i->l[j]? =some e->(e.2.g.k≠7/\e.2.s.k≠7))/\Hid (Sy w wr [] []))
 case atStart=>exact⟨0,rfl,by omega,by omega,Ab (fun j v hj=>by omega),SS⟩
 case round=>
  clear SS
  obtain⟨i,rfl,hil,hgm,HD,SS⟩:=hrel
  by_cases hlt:i<l.length
  ·have dlt:decide ((i:Int)<(l.length:Int))=true:=decide_eq_true (by omega)
   have hw1:IntKind.i64.wrap ((i:Int)+1)=(i:Int)+1:=by have:=Aa HZ;rw[IntKind.wrap_i64];omega
   obtain⟨e,hv⟩: ∃e,l[i]? =some e:=⟨_,List.getElem?_eq_getElem hlt⟩
   obtain⟨b,off,hA,hb,hrg⟩:=(Aa HR) i e hv
   subst hA
   have HA2:Hid (∀X,Below w.heap.size w X->X.rangeAt b (off+i * 20) (prC e)):=Ab (fun X hX=>Dj hrg hb hX)
   have HLT:=Ab hlt
   clear hb hrg hlt hil
   go_wp2_with (first|go_skip|((with_reducible show wpList ..);first|(refine rd rfl (Az 52 20 i Oz Pa rfl rfl rfl (Aa HLT)) ?_)|(refine rd rfl (By (vs:=prC e) 69 20 rwP szP rfl rfl (Aa HA2 _ (Aa SS).fr.below) rfl) ?_)|(refine zA 69 (prC Nt) (by rfl) rfl SS ?_;clear SS;intro X3 B3 SS;simp only[nn])|((refine stS (vs:=prC e) 0 69 (by rfl) rfl rfl rfl rfl (Qq _) szP (Aa SS) rfl (by simp[Bw,prC,Nt,KK.cs,DD.cs,VV.cs]) ?_);intro X4 S4 hf4 hs4;replace SS:=Ab S4;clear S4 hf4 hs4;simp only[nn])|(refine rd rfl (Af (vs:=e.2.g.cs) 36 5 rwV szV rfl rfl ((Aa SS).hold 0 rfl) rfl rfl) ?_)|(refine rd rfl (Af (vs:=e.2.s.cs) 36 5 rwV szV rfl rfl ((Aa SS).hold 0 rfl) rfl rfl) ?_)|((refine bsVn (cs:= [e.2.g,e.2.s].flatMap VV.cs) (n:=2) (t:=36) (by rfl) (fun w=>Dh rfl rfl rfl) (Nat.succ_pos _) (Aa SS) ?_);intro X6 B6 S6;replace SS:=Ab S6;clear S6;simp only[nn])|(refine rd rfl (Bi 41 36 underlying41 rfl rfl) ?_)))
   have hq0:=Aa SS
   simp only[List.nil_append,List.set_cons_zero,Zc] at hq0
   replace SS:=Ab hq0
   clear hq0
   try rw[show decide (i<l.length)=true from decide_eq_true (Aa HLT)]
   obtain⟨wo,hwo⟩: ∃wo,wo=wr:=⟨_,rfl⟩
   go_loopg [23] 2 (fun gm2 s23 wr2=> ∃i2:Nat,s23= .int .i64 (i2:Nat)/\i2<=2/\2 - i2<=gm2/\Hid (∀j u,j<i2->([e.2.g,e.2.s]:List VV)[j]? =some u->u.k≠7)/\Hid (Sy w wr2 [] [Aq B3 (prC e),Aq B6 ([e.2.g,e.2.s].flatMap VV.cs)]))
   case atStart=>exact⟨0,rfl,by omega,by omega,Ab (fun j v hj=>by omega),SS⟩
   case round=>
    clear SS
    obtain⟨i2,rfl,hi2,hg2,HI,SS⟩:=hrel
    by_cases hl2:i2<2
    ·have dl2:decide ((i2:Int)<2)=true:=decide_eq_true (by omega)
     have hw2:IntKind.i64.wrap ((i2:Int)+1)=(i2:Int)+1:=by rw[IntKind.wrap_i64];omega
     obtain⟨v,hv2⟩: ∃v,([e.2.g,e.2.s]:List VV)[i2]? =some v:=⟨_,List.getElem?_eq_getElem (by simpa using hl2)⟩
     have HV2:Hid (∀X,Sy w X [] [Aq B3 (prC e),Aq B6 ([e.2.g,e.2.s].flatMap VV.cs)]->X.rangeAt B6 (0+i2 * 5) v.cs):=Ab (fun X hX=>by
      obtain⟨b,off,h1, -,h3⟩:=Ey (hX.hold 1 rfl) i2 v hv2
      cases h1
      exact h3)
     have HL2:=Ab hl2
     clear hl2 hi2
     by_cases hk:v.k=7
     ·go_wp2_with (first|go_skip|((with_reducible show wpList ..);first|(refine rd rfl (Az 41 5 i2 Mf Mi rfl rfl rfl (Aa HL2)) ?_)|(refine rd rfl (By (vs:=v.cs) 36 5 rwV szV rfl rfl ((Aa HV2 _ (Aa SS))) rfl) ?_)|(refine zA 36 (Av.cs) (by rfl) rfl SS ?_;clear SS;intro X7 B7 SS;simp only[nn])|(refine zS (v.cs) 2 36 (by rfl) rfl rfl rfl rfl (Em v) szV SS rfl ?_;clear SS;intro X8 SS;simp only[nn])|(refine rd rfl (Ad 3 isAgg3 rfl rfl ((Aa SS).hold 2 rfl) rfl) ?_)|(refine zL (v.cs) 36 5 2 rwV szV (by rfl) rfl rfl SS rfl rfl rfl ?_;simp only[nn])|(refine rd rfl (Jb rfl rfl rfl hk) ?_)))
      have HC:=ZcX h v _ (H.on (Aa SS).fr.below) hl (Au hT (Aa SS).fr.below)
      rw[Db] at HC
      refine HC.mono ?_
      rintro _ Y9 ⟨rfl,hY9⟩
      replace SS:=Ab ((Aa SS).on hY9)
      clear hY9 HC
      go_wp2
      go_ret
      exact⟨8,rfl,(fun h0=>absurd h0 (by decide)),(Aa SS).fr.below⟩
     ·have HD3:Hid (∀j u,j<i2+1->([e.2.g,e.2.s]:List VV)[j]? =some u->u.k≠7):=Ab (fun j u hj hu=>by
       rcases Nat.lt_or_ge j i2 with h|h
       ·exact Aa HI j u h hu
       ·obtain rfl:j=i2:=by omega
        obtain rfl:v=u:=Option.some.inj (hv2.symm.trans hu)
        exact hk)
      go_wp2_with (first|go_skip|((with_reducible show wpList ..);first|(refine rd rfl (Az 41 5 i2 Mf Mi rfl rfl rfl (Aa HL2)) ?_)|(refine rd rfl (By (vs:=v.cs) 36 5 rwV szV rfl rfl ((Aa HV2 _ (Aa SS))) rfl) ?_)|(refine zA 36 (Av.cs) (by rfl) rfl SS ?_;clear SS;intro X7 B7 SS;simp only[nn])|(refine zS (v.cs) 2 36 (by rfl) rfl rfl rfl rfl (Em v) szV SS rfl ?_;clear SS;intro X8 SS;simp only[nn])|(refine rd rfl (Ad 3 isAgg3 rfl rfl ((Aa SS).hold 2 rfl) rfl) ?_)|(refine rd rfl (Kk rfl rfl rfl hk) ?_)))
      replace SS:=Ab (Sy.left (L:= [Aq B3 (prC e),Aq B6 ([e.2.g,e.2.s].flatMap VV.cs)]) (M:= [_]) (Aa SS))
      go_wp2
      go_roundg (2 - (i2+1))
      case measure=>have:=Aa HL2;omega
      case rel=>exact⟨i2+1,by go_num,by have:=Aa HL2;omega,by omega,HD3,SS⟩
    ·obtain rfl:i2=2:=by omega
     have HD2:Hid (∀j u,j<i+1->l[j]? =some u->(u.2.g.k≠7/\u.2.s.k≠7)):=Ab (fun j u hj hu=>by
      rcases Nat.lt_or_ge j i with h|h
      ·exact Aa HD j u h hu
      ·obtain rfl:j=i:=by omega
       obtain rfl:e=u:=Option.some.inj (hv.symm.trans hu)
       exact⟨Aa HI 0 e.2.g (by omega) rfl,Aa HI 1 e.2.s (by omega) rfl⟩)
     clear HI
     go_wp2_with (go_skip)
     replace SS:=Ab (Sy.left (L:= []) (M:= [_,_]) (Aa SS))
     go_wp2
     go_roundg (l.length - (i+1))
     case measure=>have:=Aa HLT;omega
     case rel=>exact⟨i+1,by go_num,by have:=Aa HLT;omega,by omega,HD2,SS⟩
  ·obtain rfl:i=l.length:=by omega
   have HTA:=Ab (fun (e:KK×DD) (he:e∈l)=>by
    obtain⟨j,hj⟩:=List.getElem?_of_mem he
    exact Aa HD j e (List.getElem?_eq_some_iff.1 hj).1 hj)
   clear hlt hil HD
   go_wp2_with (go_skip)
   go_ret
   exact⟨0,rfl,fun _=>Aa HTA,(Aa SS).fr.below⟩
theorem oknown_h (h:HP) (A:Option Addr) (cp:Nat) (l:List (KK×DD)) (w:World) (H:h.Is w) (hT:Lib.Utf8Tabs 1 2 w) (hR:ReadsP w A l) (hz:l.length<=1000000):Calls prog 45 #[.pointer (some ⟨h.b,0,none⟩), .slice A l.length cp] w fun e w'=> ∃c:Int,e= .returned (.int .i64 c)/\(c=0-> ∀e∈l,True)/\Below w.heap.size w w':=by
 have SS:=Ab (Sy.nil w [])
 have HR:=Ab hR
 have HZ:=Ab hz
 clear hR hz
 go_enter func45,ntmps45
 go_wp2_with (first|go_skip|((with_reducible show wpList ..);(refine rd rfl (Bi 52 69 underlying52 rfl rfl) ?_)))
 go_loopg [11] l.length (fun gm s9 wr=> ∃i:Nat,s9= .int .i64 (i:Nat)/\i<=l.length/\l.length - i<=gm/\Hid (∀j e,j<i->l[j]? =some e->True)/\Hid (Sy w wr [] []))
 case atStart=>exact⟨0,rfl,by omega,by omega,Ab (fun j v hj=>by omega),SS⟩
 case round=>
  clear SS
  obtain⟨i,rfl,hil,hgm,HD,SS⟩:=hrel
  by_cases hlt:i<l.length
  ·have dlt:decide ((i:Int)<(l.length:Int))=true:=decide_eq_true (by omega)
   have hw1:IntKind.i64.wrap ((i:Int)+1)=(i:Int)+1:=by have:=Aa HZ;rw[IntKind.wrap_i64];omega
   obtain⟨e,hv⟩: ∃e,l[i]? =some e:=⟨_,List.getElem?_eq_getElem hlt⟩
   obtain⟨b,off,hA,hb,hrg⟩:=(Aa HR) i e hv
   subst hA
   have HA2:Hid (∀X,Below w.heap.size w X->X.rangeAt b (off+i * 20) (prC e)):=Ab (fun X hX=>Dj hrg hb hX)
   have HLT:=Ab hlt
   clear hb hrg hlt hil
   go_wp2_with (first|go_skip|((with_reducible show wpList ..);first|(refine rd rfl (Az 52 20 i Oz Pa rfl rfl rfl (Aa HLT)) ?_)|(refine rd rfl (By (vs:=prC e) 69 20 rwP szP rfl rfl (Aa HA2 _ (Aa SS).fr.below) rfl) ?_)|(refine zA 69 (prC Nt) (by rfl) rfl SS ?_;clear SS;intro X3 B3 SS;simp only[nn])|((refine stS (vs:=prC e) 0 69 (by rfl) rfl rfl rfl rfl (Qq _) szP (Aa SS) rfl (by simp[Bw,prC,Nt,KK.cs,DD.cs,VV.cs]) ?_);intro X4 S4 hf4 hs4;replace SS:=Ab S4;clear S4 hf4 hs4;simp only[nn])|(refine rd rfl (Af (vs:=e.2.v.cs) 36 5 rwV szV rfl rfl ((Aa SS).hold 0 rfl) rfl rfl) ?_)|(refine rd rfl (Af (vs:=e.2.g.cs) 36 5 rwV szV rfl rfl ((Aa SS).hold 0 rfl) rfl rfl) ?_)|(refine rd rfl (Af (vs:=e.2.s.cs) 36 5 rwV szV rfl rfl ((Aa SS).hold 0 rfl) rfl rfl) ?_)|((refine bsVn (cs:= [e.2.v,e.2.g,e.2.s].flatMap VV.cs) (n:=3) (t:=36) (by rfl) (fun w=>Ji rfl rfl rfl rfl) (Nat.succ_pos _) (Aa SS) ?_);intro X6 B6 S6;replace SS:=Ab S6;clear S6;simp only[nn])|(refine rd rfl (Bi 41 36 underlying41 rfl rfl) ?_)))
   have hq0:=Aa SS
   simp only[List.nil_append,List.set_cons_zero,Zc] at hq0
   replace SS:=Ab hq0
   clear hq0
   try rw[show decide (i<l.length)=true from decide_eq_true (Aa HLT)]
   obtain⟨wo,hwo⟩: ∃wo,wo=wr:=⟨_,rfl⟩
   go_loopg [26] 3 (fun gm2 s23 wr2=> ∃i2:Nat,s23= .int .i64 (i2:Nat)/\i2<=3/\3 - i2<=gm2/\Hid (∀j u,j<i2->([e.2.v,e.2.g,e.2.s]:List VV)[j]? =some u->True)/\Hid (Sy w wr2 [] [Aq B3 (prC e),Aq B6 ([e.2.v,e.2.g,e.2.s].flatMap VV.cs)]))
   case atStart=>exact⟨0,rfl,by omega,by omega,Ab (fun j v hj=>by omega),SS⟩
   case round=>
    clear SS
    obtain⟨i2,rfl,hi2,hg2,HI,SS⟩:=hrel
    by_cases hl2:i2<3
    ·have dl2:decide ((i2:Int)<3)=true:=decide_eq_true (by omega)
     have hw2:IntKind.i64.wrap ((i2:Int)+1)=(i2:Int)+1:=by rw[IntKind.wrap_i64];omega
     obtain⟨v,hv2⟩: ∃v,([e.2.v,e.2.g,e.2.s]:List VV)[i2]? =some v:=⟨_,List.getElem?_eq_getElem (by simpa using hl2)⟩
     have HV2:Hid (∀X,Sy w X [] [Aq B3 (prC e),Aq B6 ([e.2.v,e.2.g,e.2.s].flatMap VV.cs)]->X.rangeAt B6 (0+i2 * 5) v.cs):=Ab (fun X hX=>by
      obtain⟨b,off,h1, -,h3⟩:=Ey (hX.hold 1 rfl) i2 v hv2
      cases h1
      exact h3)
     have HL2:=Ab hl2
     clear hl2 hi2
     by_cases hk:v.k=7
     ·by_cases hc:En h.l.length v=0
      ·have HD3:Hid (∀j u,j<i2+1->([e.2.v,e.2.g,e.2.s]:List VV)[j]? =some u->True):=Ab (fun j u hj hu=>by
        rcases Nat.lt_or_ge j i2 with h|h
        ·exact Aa HI j u h hu
        ·obtain rfl:j=i2:=by omega
         obtain rfl:v=u:=Option.some.inj (hv2.symm.trans hu)
         exact trivial)
       go_wp2_with (first|go_skip|((with_reducible show wpList ..);first|(refine rd rfl (Az 41 5 i2 Mf Mi rfl rfl rfl (Aa HL2)) ?_)|(refine rd rfl (By (vs:=v.cs) 36 5 rwV szV rfl rfl ((Aa HV2 _ (Aa SS))) rfl) ?_)|(refine zA 36 (Av.cs) (by rfl) rfl SS ?_;clear SS;intro X7 B7 SS;simp only[nn])|(refine zS (v.cs) 2 36 (by rfl) rfl rfl rfl rfl (Em v) szV SS rfl ?_;clear SS;intro X8 SS;simp only[nn])|(refine rd rfl (Ad 3 isAgg3 rfl rfl ((Aa SS).hold 2 rfl) rfl) ?_)|(refine zL (v.cs) 36 5 2 rwV szV (by rfl) rfl rfl SS rfl rfl rfl ?_;simp only[nn])|(refine rd rfl (Jb rfl rfl rfl hk) ?_)))
       have HC:=Nj h v _ (H.on (Aa SS).fr.below) (Au hT (Aa SS).fr.below)
       rw[Db] at HC
       refine HC.mono ?_
       rintro _ Y9 ⟨rfl,hY9⟩
       replace SS:=Ab ((Aa SS).on hY9)
       clear hY9 HC
       go_wp2_with (go_skip)
       replace SS:=Ab (Sy.left (L:= [Aq B3 (prC e),Aq B6 ([e.2.v,e.2.g,e.2.s].flatMap VV.cs)]) (M:= [_]) (Aa SS))
       go_wp2
       go_roundg (3 - (i2+1))
       case measure=>have:=Aa HL2;omega
       case rel=>exact⟨i2+1,by go_num,by have:=Aa HL2;omega,by omega,HD3,SS⟩
      ·go_wp2_with (first|go_skip|((with_reducible show wpList ..);first|(refine rd rfl (Az 41 5 i2 Mf Mi rfl rfl rfl (Aa HL2)) ?_)|(refine rd rfl (By (vs:=v.cs) 36 5 rwV szV rfl rfl ((Aa HV2 _ (Aa SS))) rfl) ?_)|(refine zA 36 (Av.cs) (by rfl) rfl SS ?_;clear SS;intro X7 B7 SS;simp only[nn])|(refine zS (v.cs) 2 36 (by rfl) rfl rfl rfl rfl (Em v) szV SS rfl ?_;clear SS;intro X8 SS;simp only[nn])|(refine rd rfl (Ad 3 isAgg3 rfl rfl ((Aa SS).hold 2 rfl) rfl) ?_)|(refine zL (v.cs) 36 5 2 rwV szV (by rfl) rfl rfl SS rfl rfl rfl ?_;simp only[nn])|(refine rd rfl (Jb rfl rfl rfl hk) ?_)))
       have HC:=Nj h v _ (H.on (Aa SS).fr.below) (Au hT (Aa SS).fr.below)
       rw[Db] at HC
       refine HC.mono ?_
       rintro _ Y9 ⟨rfl,hY9⟩
       replace SS:=Ab ((Aa SS).on hY9)
       clear hY9 HC
       go_wp2_with (first|go_skip|((with_reducible show wpList ..);(refine rd rfl (Gx rfl rfl rfl hc) ?_)))
       go_ret
       exact⟨4,rfl,(fun h0=>absurd h0 (by decide)),(Aa SS).fr.below⟩
     ·have HD3:Hid (∀j u,j<i2+1->([e.2.v,e.2.g,e.2.s]:List VV)[j]? =some u->True):=Ab (fun j u hj hu=>by
       rcases Nat.lt_or_ge j i2 with h|h
       ·exact Aa HI j u h hu
       ·obtain rfl:j=i2:=by omega
        obtain rfl:v=u:=Option.some.inj (hv2.symm.trans hu)
        exact trivial)
      go_wp2_with (first|go_skip|((with_reducible show wpList ..);first|(refine rd rfl (Az 41 5 i2 Mf Mi rfl rfl rfl (Aa HL2)) ?_)|(refine rd rfl (By (vs:=v.cs) 36 5 rwV szV rfl rfl ((Aa HV2 _ (Aa SS))) rfl) ?_)|(refine zA 36 (Av.cs) (by rfl) rfl SS ?_;clear SS;intro X7 B7 SS;simp only[nn])|(refine zS (v.cs) 2 36 (by rfl) rfl rfl rfl rfl (Em v) szV SS rfl ?_;clear SS;intro X8 SS;simp only[nn])|(refine rd rfl (Ad 3 isAgg3 rfl rfl ((Aa SS).hold 2 rfl) rfl) ?_)|(refine rd rfl (Kk rfl rfl rfl hk) ?_)))
      replace SS:=Ab (Sy.left (L:= [Aq B3 (prC e),Aq B6 ([e.2.v,e.2.g,e.2.s].flatMap VV.cs)]) (M:= [_]) (Aa SS))
      go_wp2
      go_roundg (3 - (i2+1))
      case measure=>have:=Aa HL2;omega
      case rel=>exact⟨i2+1,by go_num,by have:=Aa HL2;omega,by omega,HD3,SS⟩
    ·obtain rfl:i2=3:=by omega
     have HD2:Hid (∀j u,j<i+1->l[j]? =some u->True):=Ab (fun j u hj hu=>by
      rcases Nat.lt_or_ge j i with h|h
      ·exact Aa HD j u h hu
      ·obtain rfl:j=i:=by omega
       obtain rfl:e=u:=Option.some.inj (hv.symm.trans hu)
       exact trivial)
     clear HI
     go_wp2_with (go_skip)
     replace SS:=Ab (Sy.left (L:= []) (M:= [_,_]) (Aa SS))
     go_wp2
     go_roundg (l.length - (i+1))
     case measure=>have:=Aa HLT;omega
     case rel=>exact⟨i+1,by go_num,by have:=Aa HLT;omega,by omega,HD2,SS⟩
  ·obtain rfl:i=l.length:=by omega
   have HTA:=Ab (fun (e:KK×DD) (he:e∈l)=>by
    obtain⟨j,hj⟩:=List.getElem?_of_mem he
    exact Aa HD j e (List.getElem?_eq_some_iff.1 hj).1 hj)
   clear hlt hil HD
   go_wp2_with (go_skip)
   go_ret
   exact⟨0,rfl,fun _=>Aa HTA,(Aa SS).fr.below⟩
