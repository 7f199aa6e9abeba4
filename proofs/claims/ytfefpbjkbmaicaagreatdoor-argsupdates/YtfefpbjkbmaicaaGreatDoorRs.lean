import Derived.Test.YtfefpbjkbmaicaaGreatDoorRp
import Derived.Test.YtfefpbjkbmaicaaGreatDoorRr
set_option linter.all false
namespace Go.Proofs.YtfefpbjkbmaicaaGreatDoor
set_option maxRecDepth 100000
set_option maxHeartbeats 0
section
open Go Go.Proofs Go.Maps Go.RowKit FM Tryz
attribute [local go_sem] Av Ap Dv Du De Au Ao Az Dd Gu Gt
def Ai (n:Nat):Int:=if n<=1024 then 0 else 6
theorem Yi {o:Oper} {a:Act} {w:World} {x y:Operand} {n m:Int} {r:Bool} (ho:o.op= .binOp .gtr 3 x y 3) (hx:a.eval x= .int .i64 n) (hc:a.eval y= .int .i64 m) (h:decide (m<n)=r):(execOp a.eval o).run prog w= .ok (.value (.bool r)) w:=by
 unfold execOp
 simp only[ho,hx,hc]
 simp[go_sem,eqGuard,h]
theorem Gk (B:Option Addr) (n c:Nat) (w:World):Calls prog 23 #[.slice B n c] w fun e w'=>e= .returned (.int .i64 (Ai n))/\w'=w:=by
 unfold Ai
 by_cases hn:n<=1024
 ·rw[if_pos hn]
  have hd:decide ((1024:Int)<(n:Int))=false:=decide_eq_false (by omega)
  go_enter func23,ntmps23
  go_wp2_with (first|go_skip|((with_reducible show wpList ..);first|(refine rd rfl (Dj 22 26 underlying22 rfl rfl) ?_)|(refine rd rfl (Yi rfl rfl rfl hd) ?_)))
  go_ret
  exact⟨rfl,rfl⟩
 ·rw[if_neg hn]
  have hd:decide ((1024:Int)<(n:Int))=true:=decide_eq_true (by omega)
  go_enter func23,ntmps23
  go_wp2_with (first|go_skip|((with_reducible show wpList ..);first|(refine rd rfl (Dj 22 26 underlying22 rfl rfl) ?_)|(refine rd rfl (Yi rfl rfl rfl hd) ?_)))
  go_ret
  exact⟨rfl,rfl⟩
theorem Eg (B:Option Addr) (n c:Nat) (w:World):Calls prog 24 #[.slice B n c] w fun e w'=>e= .returned (.int .i64 (Ai n))/\w'=w:=by
 unfold Ai
 by_cases hn:n<=1024
 ·rw[if_pos hn]
  have hd:decide ((1024:Int)<(n:Int))=false:=decide_eq_false (by omega)
  go_enter func24,ntmps24
  go_wp2_with (first|go_skip|((with_reducible show wpList ..);first|(refine rd rfl (Dj 23 9 underlying23 rfl rfl) ?_)|(refine rd rfl (Yi rfl rfl rfl hd) ?_)))
  go_ret
  exact⟨rfl,rfl⟩
 ·rw[if_neg hn]
  have hd:decide ((1024:Int)<(n:Int))=true:=decide_eq_true (by omega)
  go_enter func24,ntmps24
  go_wp2_with (first|go_skip|((with_reducible show wpList ..);first|(refine rd rfl (Dj 23 9 underlying23 rfl rfl) ?_)|(refine rd rfl (Yi rfl rfl rfl hd) ?_)))
  go_ret
  exact⟨rfl,rfl⟩
theorem Aw (B:Option Addr) (c:Nat) (vs:List VV) (w:World) (hT:Lib.Utf8Tabs 4 5 w) (hR:ReadsV w B vs) (hz:vs.length<=9223372036854775806):Calls prog 25 #[.slice B vs.length c] w fun e w'=>e= .returned (.int .i64 (Af vs))/\Below w.heap.size w w':=by
 have SS:=Ac (Sy.nil w [])
 have HT:=Ac hT
 clear hT
 have HR:=Ac hR
 have HZ:=Ac hz
 clear hR hz
 go_enter func25,ntmps25
 go_wp2_with (first|go_skip|((with_reducible show wpList ..);first|(refine rd rfl (Dj 22 26 underlying22 rfl rfl) ?_)))
 go_loopg [8] vs.length (fun gm s9 wr=> ∃i:Nat,s9= .int .i64 (i:Nat)/\i<=vs.length/\vs.length - i<=gm/\Hid (∀j v,j<i->vs[j]? =some v->VV.good v=true)/\Hid (Sy w wr [] []))
 case atStart=>exact⟨0,rfl,by omega,by omega,Ac (fun j v hj=>by omega),SS⟩
 case round=>
  clear SS
  obtain⟨i,rfl,hil,hgm,HD,SS⟩:=hrel
  by_cases hlt:i<vs.length
  ·have dlt:decide ((i:Int)<(vs.length:Int))=true:=decide_eq_true (by omega)
   have hw1:IntKind.i64.wrap ((i:Int)+1)=(i:Int)+1:=by have:=Aa HZ;rw[IntKind.wrap_i64];omega
   obtain⟨v,hv⟩: ∃v,vs[i]? =some v:=⟨_,List.getElem?_eq_getElem hlt⟩
   obtain⟨b,off,hA,hb,hrg⟩:=(Aa HR) i v hv
   subst hA
   have HA2:Hid (∀X,Below w.heap.size w X->X.rangeAt b (off+i * 5) v.cs):=Ac (fun X hX=>Kh hrg hb hX)
   have HLT:=Ac hlt
   clear hb hrg hlt hil
   obtain⟨z,hz⟩: ∃z,v.good=z:=⟨_,rfl⟩
   cases z
   ·have HFA:Hid (vs.all (VV.good)=false):=Ac (Ko hv hz)
    go_wp2_with (first|go_skip|((with_reducible show wpList ..);first|(refine rd rfl (Dj 22 26 underlying22 rfl rfl) ?_)|(refine rd rfl (Ds 22 5 i Oy Pq rfl rfl rfl (Aa HLT)) ?_)|(refine rd rfl (Ev (vs:=v.cs) 26 5 rwV szV rfl rfl (Aa HA2 _ (Aa SS).fr.below) rfl) ?_)|(refine zA 26 (Bz.cs) (by rfl) rfl SS ?_;clear SS;intro X3 B3 SS;simp only[nn])|(refine zS (v.cs) 0 26 (by rfl) rfl rfl rfl rfl (Eb v) szV SS rfl ?_;clear SS;intro X4 SS;simp only[nn])|(refine rd rfl (Aj 3 isAgg3 rfl rfl ((Aa SS).hold 0 rfl) rfl) ?_)|(refine zL (v.cs) 26 5 0 rwV szV (by rfl) rfl rfl SS rfl rfl rfl ?_;simp only[nn])))
    have HO:=Jf v _ (Bf (Aa HT) (Aa SS).fr.below)
    rw[Dk] at HO
    refine HO.mono ?_
    rintro e X5 ⟨rfl,hb5⟩
    replace SS:=Ac ((Aa SS).on hb5)
    clear hb5 HO
    rw[show Ql v.good=5 by rw[hz];rfl]
    go_wp2
    go_ret
    exact⟨by unfold Af;rw[Aa HFA];rfl,(Aa SS).fr.below⟩
   ·have HD2:Hid (∀j u,j<i+1->vs[j]? =some u->VV.good u=true):=Ac (fun j u hj hu=>by
     rcases Nat.lt_or_ge j i with h|h
     ·exact Aa HD j u h hu
     ·obtain rfl:j=i:=by omega
      obtain rfl:v=u:=Option.some.inj (hv.symm.trans hu)
      exact hz)
    clear HD
    go_wp2_with (first|go_skip|((with_reducible show wpList ..);first|(refine rd rfl (Dj 22 26 underlying22 rfl rfl) ?_)|(refine rd rfl (Ds 22 5 i Oy Pq rfl rfl rfl (Aa HLT)) ?_)|(refine rd rfl (Ev (vs:=v.cs) 26 5 rwV szV rfl rfl (Aa HA2 _ (Aa SS).fr.below) rfl) ?_)|(refine zA 26 (Bz.cs) (by rfl) rfl SS ?_;clear SS;intro X3 B3 SS;simp only[nn])|(refine zS (v.cs) 0 26 (by rfl) rfl rfl rfl rfl (Eb v) szV SS rfl ?_;clear SS;intro X4 SS;simp only[nn])|(refine rd rfl (Aj 3 isAgg3 rfl rfl ((Aa SS).hold 0 rfl) rfl) ?_)|(refine zL (v.cs) 26 5 0 rwV szV (by rfl) rfl rfl SS rfl rfl rfl ?_;simp only[nn])))
    have HO:=Jf v _ (Bf (Aa HT) (Aa SS).fr.below)
    rw[Dk] at HO
    refine HO.mono ?_
    rintro e X5 ⟨rfl,hb5⟩
    replace SS:=Ac ((Aa SS).on hb5)
    clear hb5 HO
    rw[show Ql v.good=0 by rw[hz];rfl]
    replace SS:=Ac (Sy.left (L:= []) (M:= [_]) (Aa SS))
    go_wp2
    go_roundg (vs.length - (i+1))
    case measure=>have:=Aa HLT;omega
    case rel=>exact⟨i+1,by go_num,by have:=Aa HLT;omega,by omega,HD2,SS⟩
  ·obtain rfl:i=vs.length:=by omega
   have HTA:Hid (vs.all (VV.good)=true):=Ac (Lu (fun j v hj hv=>Aa HD j v hj hv))
   clear hlt hil HD
   go_wp2_with (first|go_skip|((with_reducible show wpList ..);first|(refine rd rfl (Dj 22 26 underlying22 rfl rfl) ?_)))
   go_ret
   exact⟨by unfold Af;rw[Aa HTA];rfl,(Aa SS).fr.below⟩
def Ut (n:Nat) (v:VV):Bool:= !(v.k==7)||decide (Aq n v=0)
def Ay (n:Nat) (vs:List VV):Int:=if vs.all (Ut n) then 0 else 4
theorem Ak (h:HP) (B:Option Addr) (c:Nat) (vs:List VV) (w:World) (H:h.Is w) (hT:Lib.Utf8Tabs 4 5 w) (hR:ReadsV w B vs) (hz:vs.length<=9223372036854775806):Calls prog 27 #[.pointer (some ⟨h.b,0,none⟩), .slice B vs.length c] w fun e w'=>e= .returned (.int .i64 (Ay h.l.length vs))/\Below w.heap.size w w':=by
 have HT:=Ac hT
 clear hT
 have SS:=Ac (Sy.nil w [])
 have HH:=Ac H
 clear H
 have HR:=Ac hR
 have HZ:=Ac hz
 clear hR hz
 go_enter func27,ntmps27
 go_wp2_with (first|go_skip|((with_reducible show wpList ..);first|(refine rd rfl (Dj 22 26 underlying22 rfl rfl) ?_)))
 go_loopg [9] vs.length (fun gm s9 wr=> ∃i:Nat,s9= .int .i64 (i:Nat)/\i<=vs.length/\vs.length - i<=gm/\Hid (∀j v,j<i->vs[j]? =some v->Ut h.l.length v=true)/\Hid (Sy w wr [] []))
 case atStart=>exact⟨0,rfl,by omega,by omega,Ac (fun j v hj=>by omega),SS⟩
 case round=>
  clear SS
  obtain⟨i,rfl,hil,hgm,HD,SS⟩:=hrel
  by_cases hlt:i<vs.length
  ·have dlt:decide ((i:Int)<(vs.length:Int))=true:=decide_eq_true (by omega)
   have hw1:IntKind.i64.wrap ((i:Int)+1)=(i:Int)+1:=by have:=Aa HZ;rw[IntKind.wrap_i64];omega
   obtain⟨v,hv⟩: ∃v,vs[i]? =some v:=⟨_,List.getElem?_eq_getElem hlt⟩
   obtain⟨b,off,hA,hb,hrg⟩:=(Aa HR) i v hv
   subst hA
   have HA2:Hid (∀X,Below w.heap.size w X->X.rangeAt b (off+i * 5) v.cs):=Ac (fun X hX=>Kh hrg hb hX)
   have HLT:=Ac hlt
   clear hb hrg hlt hil
   by_cases hk:v.k=7
   ·by_cases hz0:Aq h.l.length v=0
    ·have HD2:Hid (∀j u,j<i+1->vs[j]? =some u->Ut h.l.length u=true):=Ac (fun j u hj hu=>by
      rcases Nat.lt_or_ge j i with h|h
      ·exact Aa HD j u h hu
      ·obtain rfl:j=i:=by omega
       obtain rfl:v=u:=Option.some.inj (hv.symm.trans hu)
       exact(by unfold Ut;rw[decide_eq_true hz0];simp))
     clear HD
     go_wp2_with (first|go_skip|((with_reducible show wpList ..);first|(refine rd rfl (Dj 22 26 underlying22 rfl rfl) ?_)|(refine rd rfl (Ds 22 5 i Oy Pq rfl rfl rfl (Aa HLT)) ?_)|(refine rd rfl (Ev (vs:=v.cs) 26 5 rwV szV rfl rfl (Aa HA2 _ (Aa SS).fr.below) rfl) ?_)|(refine zA 26 (Bz.cs) (by rfl) rfl SS ?_;clear SS;intro X3 B3 SS;simp only[nn])|(refine zS (v.cs) 0 26 (by rfl) rfl rfl rfl rfl (Eb v) szV SS rfl ?_;clear SS;intro X4 SS;simp only[nn])|(refine rd rfl (Aj 3 isAgg3 rfl rfl ((Aa SS).hold 0 rfl) rfl) ?_)|(refine zL (v.cs) 26 5 0 rwV szV (by rfl) rfl rfl SS rfl rfl rfl ?_;simp only[nn])|(refine rd rfl (Ng rfl rfl rfl hk) ?_)))
     have HO:=Jy h v _ ((Aa HH).on (Aa SS).fr.below) (Bf (Aa HT) (Aa SS).fr.below)
     rw[Dk] at HO
     refine HO.mono ?_
     clear HO
     rintro e X5 ⟨rfl,hb5⟩
     replace SS:=Ac ((Aa SS).on hb5)
     clear hb5
     go_wp2_with (first|go_skip|((with_reducible show wpList ..);first|(refine rd rfl (Kz rfl rfl rfl hz0) ?_)))
     replace SS:=Ac (Sy.left (L:= []) (M:= [_]) (Aa SS))
     go_wp2
     go_roundg (vs.length - (i+1))
     case measure=>have:=Aa HLT;omega
     case rel=>exact⟨i+1,by go_num,by have:=Aa HLT;omega,by omega,HD2,SS⟩
    ·have HFA:Hid (vs.all (Ut h.l.length)=false):=Ac (Ko hv (by unfold Ut;rw[decide_eq_false hz0];simp[hk]))
     go_wp2_with (first|go_skip|((with_reducible show wpList ..);first|(refine rd rfl (Dj 22 26 underlying22 rfl rfl) ?_)|(refine rd rfl (Ds 22 5 i Oy Pq rfl rfl rfl (Aa HLT)) ?_)|(refine rd rfl (Ev (vs:=v.cs) 26 5 rwV szV rfl rfl (Aa HA2 _ (Aa SS).fr.below) rfl) ?_)|(refine zA 26 (Bz.cs) (by rfl) rfl SS ?_;clear SS;intro X3 B3 SS;simp only[nn])|(refine zS (v.cs) 0 26 (by rfl) rfl rfl rfl rfl (Eb v) szV SS rfl ?_;clear SS;intro X4 SS;simp only[nn])|(refine rd rfl (Aj 3 isAgg3 rfl rfl ((Aa SS).hold 0 rfl) rfl) ?_)|(refine zL (v.cs) 26 5 0 rwV szV (by rfl) rfl rfl SS rfl rfl rfl ?_;simp only[nn])|(refine rd rfl (Ng rfl rfl rfl hk) ?_)))
     have HO:=Jy h v _ ((Aa HH).on (Aa SS).fr.below) (Bf (Aa HT) (Aa SS).fr.below)
     rw[Dk] at HO
     refine HO.mono ?_
     clear HO
     rintro e X5 ⟨rfl,hb5⟩
     replace SS:=Ac ((Aa SS).on hb5)
     clear hb5
     go_wp2_with (first|go_skip|((with_reducible show wpList ..);first|(refine rd rfl (Ky rfl rfl rfl hz0) ?_)))
     go_wp2
     go_ret
     exact⟨by unfold Ay;rw[Aa HFA];rfl,(Aa SS).fr.below⟩
   ·have HD2:Hid (∀j u,j<i+1->vs[j]? =some u->Ut h.l.length u=true):=Ac (fun j u hj hu=>by
     rcases Nat.lt_or_ge j i with h|h
     ·exact Aa HD j u h hu
     ·obtain rfl:j=i:=by omega
      obtain rfl:v=u:=Option.some.inj (hv.symm.trans hu)
      exact(by unfold Ut;simp[hk]))
    clear HD
    go_wp2_with (first|go_skip|((with_reducible show wpList ..);first|(refine rd rfl (Dj 22 26 underlying22 rfl rfl) ?_)|(refine rd rfl (Ds 22 5 i Oy Pq rfl rfl rfl (Aa HLT)) ?_)|(refine rd rfl (Ev (vs:=v.cs) 26 5 rwV szV rfl rfl (Aa HA2 _ (Aa SS).fr.below) rfl) ?_)|(refine zA 26 (Bz.cs) (by rfl) rfl SS ?_;clear SS;intro X3 B3 SS;simp only[nn])|(refine zS (v.cs) 0 26 (by rfl) rfl rfl rfl rfl (Eb v) szV SS rfl ?_;clear SS;intro X4 SS;simp only[nn])|(refine rd rfl (Aj 3 isAgg3 rfl rfl ((Aa SS).hold 0 rfl) rfl) ?_)|(refine zL (v.cs) 26 5 0 rwV szV (by rfl) rfl rfl SS rfl rfl rfl ?_;simp only[nn])|(refine rd rfl (Pw rfl rfl rfl hk) ?_)))
    replace SS:=Ac (Sy.left (L:= []) (M:= [_]) (Aa SS))
    go_wp2
    go_roundg (vs.length - (i+1))
    case measure=>have:=Aa HLT;omega
    case rel=>exact⟨i+1,by go_num,by have:=Aa HLT;omega,by omega,HD2,SS⟩
  ·obtain rfl:i=vs.length:=by omega
   have HTA:Hid (vs.all (Ut h.l.length)=true):=Ac (Lu (fun j v hj hv=>Aa HD j v hj hv))
   clear hlt hil HD
   go_wp2_with (first|go_skip|((with_reducible show wpList ..);first|(refine rd rfl (Dj 22 26 underlying22 rfl rfl) ?_)))
   go_ret
   exact⟨by unfold Ay;rw[Aa HTA];rfl,(Aa SS).fr.below⟩
def okN (s:ByteArray):Bool:=goodK ⟨s,0⟩
def Bw (ns:List ByteArray):Int:=if ns.all okN then 0 else 5
theorem Zbc {f:ByteArray->Bool} {l:List ByteArray} {i:Nat} {v:ByteArray} (hv:l[i]? =some v) (hf:f v=false):l.all f=false:=by
 rw[List.all_eq_false]
 exact⟨v,List.mem_of_getElem? hv,by simp[hf]⟩
theorem ZcA {f:ByteArray->Bool} {l:List ByteArray} (h: ∀j v,j<l.length->l[j]? =some v->f v=true):l.all f=true:=by
 rw[List.all_eq_true]
 intro v hv
 obtain⟨j,hj⟩:=List.getElem?_of_mem hv
 exact h j v (List.getElem?_eq_some_iff.1 hj).1 hj
theorem Za1 {o:Oper} {a:Act} {w:World} {x:Operand} {s:ByteArray} (ho:o.op= .build 42 #[(0,x)]) (hx:a.eval x= .string s):(execOp a.eval o).run prog w= .ok (.value (.agg (KK.cs ⟨s,0⟩).toArray)) w:=by
 have e:(Instr.build 42 #[(0, .string s)]).run prog w= .ok (.agg (KK.cs ⟨s,0⟩).toArray) w:=by kernel_rfl
 unfold execOp
 simp only[ho,List.map_toArray,List.map_cons,List.map_nil,hx]
 simp[e]
theorem Db (B:Option Addr) (c:Nat) (ns:List ByteArray) (w:World) (hT:Lib.Utf8Tabs 4 5 w) (hR:Lh w B ns) (hz:ns.length<=9223372036854775806):Calls prog 26 #[.slice B ns.length c] w fun e w'=>e= .returned (.int .i64 (Bw ns))/\Below w.heap.size w w':=by
 have SS:=Ac (Sy.nil w [])
 have HT:=Ac hT
 clear hT
 have HR:=Ac hR
 have HZ:=Ac hz
 clear hR hz
 go_enter func26,ntmps26
 go_wp2_with (first|go_skip|((with_reducible show wpList ..);first|(refine rd rfl (Dj 23 9 underlying23 rfl rfl) ?_)))
 go_loopg [8] ns.length (fun gm s8 wr=> ∃i:Nat,s8= .int .i64 (i:Nat)/\i<=ns.length/\ns.length - i<=gm/\Hid (∀j v,j<i->ns[j]? =some v->okN v=true)/\Hid (Sy w wr [] []))
 case atStart=>exact⟨0,rfl,by omega,by omega,Ac (fun j v hj=>by omega),SS⟩
 case round=>
  clear SS
  obtain⟨i,rfl,hil,hgm,HD,SS⟩:=hrel
  by_cases hlt:i<ns.length
  ·have dlt:decide ((i:Int)<(ns.length:Int))=true:=decide_eq_true (by omega)
   have hw1:IntKind.i64.wrap ((i:Int)+1)=(i:Int)+1:=by have:=Aa HZ;rw[IntKind.wrap_i64];omega
   obtain⟨s,hs⟩: ∃s,ns[i]? =some s:=⟨_,List.getElem?_eq_getElem hlt⟩
   obtain⟨b,off,hA,hb,hcell⟩:=(Aa HR) i s hs
   have HC:Hid (∀X:World,Fr w X []->X.cell? ⟨b,off+i * 1,none⟩=some (.string s)):=Ac (fun X k=>by rw[World.cell?_of_block (k.block b hb (by simp))];exact hcell)
   subst hA
   have HLT:=Ac hlt
   clear hb hcell hlt hil
   cases hz2:okN s
   ·have HFA:Hid (ns.all okN=false):=Ac (Zbc hs hz2)
    go_wp2_with (first|go_skip|((with_reducible show wpList ..);first|(refine rd rfl (Dj 23 9 underlying23 rfl rfl) ?_)|(refine rd rfl (Ds 23 1 i unSt idSt rfl rfl rfl (Aa HLT)) ?_)|(refine rd rfl (Ka 9 isAgg9 rfl rfl (Aa HC _ (Aa SS).fr)) ?_)|(refine rd rfl (Za1 rfl rfl) ?_)))
    have HO:=Qe ⟨s,0⟩ _ (Bf (Aa HT) (Aa SS).fr.below)
    rw[Ec,show Dh ⟨s,0⟩=5 by unfold Dh;rw[show goodK ⟨s,0⟩=_ from hz2];rfl] at HO
    refine HO.mono ?_
    clear HO
    rintro e X5 ⟨rfl,hb5⟩
    replace SS:=Ac ((Aa SS).on hb5)
    clear hb5
    go_wp2
    go_ret
    exact⟨by unfold Bw;rw[Aa HFA];rfl,(Aa SS).fr.below⟩
   ·have HD2:Hid (∀j u,j<i+1->ns[j]? =some u->okN u=true):=Ac (fun j u hj hu=>by
     rcases Nat.lt_or_ge j i with h|h
     ·exact Aa HD j u h hu
     ·obtain rfl:j=i:=by omega
      obtain rfl:s=u:=Option.some.inj (hs.symm.trans hu)
      exact hz2)
    clear HD
    go_wp2_with (first|go_skip|((with_reducible show wpList ..);first|(refine rd rfl (Dj 23 9 underlying23 rfl rfl) ?_)|(refine rd rfl (Ds 23 1 i unSt idSt rfl rfl rfl (Aa HLT)) ?_)|(refine rd rfl (Ka 9 isAgg9 rfl rfl (Aa HC _ (Aa SS).fr)) ?_)|(refine rd rfl (Za1 rfl rfl) ?_)))
    have HO:=Qe ⟨s,0⟩ _ (Bf (Aa HT) (Aa SS).fr.below)
    rw[Ec,show Dh ⟨s,0⟩=0 by unfold Dh;rw[show goodK ⟨s,0⟩=_ from hz2];rfl] at HO
    refine HO.mono ?_
    clear HO
    rintro e X5 ⟨rfl,hb5⟩
    replace SS:=Ac ((Aa SS).on hb5)
    clear hb5
    go_wp2
    go_roundg (ns.length - (i+1))
    case measure=>have:=Aa HLT;omega
    case rel=>exact⟨i+1,by go_num,by have:=Aa HLT;omega,by omega,HD2,SS⟩
  ·obtain rfl:i=ns.length:=by omega
   have HTA:Hid (ns.all okN=true):=Ac (ZcA (fun j v hj hv=>Aa HD j v hj hv))
   clear hlt hil HD
   go_wp2_with (first|go_skip|((with_reducible show wpList ..);first|(refine rd rfl (Dj 23 9 underlying23 rfl rfl) ?_)))
   go_ret
   exact⟨by unfold Bw;rw[Aa HTA];rfl,(Aa SS).fr.below⟩
def Ag:VV:=⟨2,false,0,ByteArray.empty,0⟩
theorem Eo (w:World):Calls prog 22 #[Ag.agg] w fun e w'=>e= .returned (.int .i64 0)/\Below w.heap.size w w':=by
 have SS:=Ac (Sy.nil w [])
 rw[Dk]
 go_enter func22,ntmps22
 go_wp2_with (first|go_skip|((with_reducible show wpList ..);first|(refine zB 26 (Ag.cs) (by rfl) rfl rfl rfl SS ?_;clear SS;intro Xa Ba SS;simp only[nn])|(refine rd rfl (Aj 3 isAgg3 rfl rfl ((Aa SS).hold 0 rfl) rfl) ?_)))
 go_ret
 exact⟨rfl,(Aa SS).fr.below⟩

theorem ex_bhid {o:Oper} {a:Act} {w:World} {x c1 c2 c3:Operand} (v:VV) (ho:o.op= .build 29 #[(0,x),(3,c1),(4,c2),(5,c3)]) (hx:a.eval x= .agg v.cs.toArray) (h1:a.eval c1= .int .i64 2) (h2:a.eval c2= .int .i64 1) (h3:a.eval c3= .int .i64 2):(execOp a.eval o).run prog w= .ok (.value (.agg (Jz v).cs.toArray)) w:=by
 have e:(Instr.build 29 #[(0, .agg v.cs.toArray),(3, .int .i64 2),(4, .int .i64 1),(5, .int .i64 2)]).run prog w= .ok (.agg (Jz v).cs.toArray) w:=by kernel_rfl
 unfold execOp
 simp only[ho,List.map_toArray,List.map_cons,List.map_nil,hx,h1,h2,h3]
 simp[e]
theorem Zag (v:VV) (w:World):Calls prog 31 #[v.agg] w fun e w'=>e= .returned ((Jz v).agg)/\Below w.heap.size w w':=by
 have SS:=Ac (Sy.nil w [])
 rw[Dk,Em]
 go_enter func31,ntmps31
 go_wp2_with (first|go_skip|((with_reducible show wpList ..);first|(refine zB 26 (v.cs) (by rfl) rfl rfl rfl SS ?_;clear SS;intro Xa Ba SS;simp only[nn])|(refine zA 29 (Bx.cs) (by rfl) rfl SS ?_;clear SS;intro Xb Bb SS;simp only[nn])|(refine zL (v.cs) 26 5 0 rwV szV (by rfl) rfl rfl SS rfl rfl rfl ?_;simp only[nn])|(refine rd rfl (ex_bhid v rfl rfl rfl rfl rfl) ?_)|(refine zS ((Jz v).cs) 1 29 (by rfl) rfl rfl rfl rfl (Jg _) szD SS rfl ?_;clear SS;intro Xz SS;simp only[nn])))
 refine Vi rwD szD rfl rfl rfl ((Aa SS).hold 1 rfl) rfl ?_
 exact⟨rfl,(Aa SS).fr.below⟩
def Yj (t B:Nat):Ob:=⟨[B],fun X=>X.heap[B]? =some (Obj.cells #[] t)⟩
theorem ZbI (t B:Nat):(Yj t B).Ok:=⟨fun h k=>(h B (List.mem_singleton.2 rfl)).trans k,fun h b hb=>by
 obtain rfl:=List.mem_singleton.1 hb
 exact(Array.getElem?_eq_some_iff.1 h).1⟩
theorem Sy.emp {w X:World} {E:List Nat} {L:List Ob} (h:Sy w X E L) (i:Nat) {t B:Nat} (hi:L[i]? =some (Yj t B)):X.heap[B]? =some (Obj.cells #[] t):=h.get i hi
theorem cellsM74:prog.cellsOf 74=0:=by kernel_rfl
theorem Vv {w:World} {B:Nat} (h:w.heap[B]? =some (Obj.cells #[] 74)):(byteOf ⟨B,0,none⟩).run prog w= .ok 0 w:=by
 have hs:w.shape? B=some (74,0):=by simp[World.shape?,h]
 have hv:(viewAt B).run prog w= .ok none w:=by simp[viewAt,go_sem,hs]
 unfold byteOf
 simp[go_sem,noView,cellsM74,hs,hv]
theorem Vw {ops:Array Oper} {rest:List Oper} {Q:Exit->Act->World->Prop} {w w0:World} {a:Act} {o:Oper} {E:List Nat} {L:List Ob} {x:Operand} (hw:Region.wanted o (yielded ops a.tmps)=true) (ho:o.op= .box 74 x) (hx:a.eval x= .agg #[]) (hL:Sy w0 w E L)
  (h: ∀X B,Sy w0 X E (L++ [Yj 74 B])->wpList prog ops Q rest (a.put o.dst (.pointer (some ⟨B,0,none⟩))) X):wpList prog ops Q (o::rest) a w:=by
 refine BigFrame.wpList_want hw fun K hK=> ?_
 have hP:=hK _ _ (h _ w.heap.size (hL.add (ZbI _ _) (show (w.alloc (Obj.cells #[] 74)).heap[w.heap.size]? =_ from Array.getElem?_push_size) ((Below.refl _ _).alloc (Nat.le_refl _) _) (fun b hb=>by rw[List.mem_singleton.1 hb];exact Nat.le_refl _)))
 have e2:(Instr.box 74 (.agg #[])).run prog w= .ok (.pointer (some ⟨w.heap.size,0,none⟩)) (w.alloc (Obj.cells #[] 74)):=rfl
 unfold Oper.wp execOp
 simp only[ho,hx]
 simp[e2]
 exact hP
theorem cellsM72:prog.cellsOf 72=0:=by kernel_rfl
theorem Zcw {w:World} {B:Nat} (h:w.heap[B]? =some (Obj.cells #[] 72)):(byteOf ⟨B,0,none⟩).run prog w= .ok 0 w:=by
 have hs:w.shape? B=some (72,0):=by simp[World.shape?,h]
 have hv:(viewAt B).run prog w= .ok none w:=by simp[viewAt,go_sem,hs]
 unfold byteOf
 simp[go_sem,noView,cellsM72,hs,hv]
theorem bxE72 {ops:Array Oper} {rest:List Oper} {Q:Exit->Act->World->Prop} {w w0:World} {a:Act} {o:Oper} {E:List Nat} {L:List Ob} {x:Operand} (hw:Region.wanted o (yielded ops a.tmps)=true) (ho:o.op= .box 72 x) (hx:a.eval x= .agg #[]) (hL:Sy w0 w E L)
  (h: ∀X B,Sy w0 X E (L++ [Yj 72 B])->wpList prog ops Q rest (a.put o.dst (.pointer (some ⟨B,0,none⟩))) X):wpList prog ops Q (o::rest) a w:=by
 refine BigFrame.wpList_want hw fun K hK=> ?_
 have hP:=hK _ _ (h _ w.heap.size (hL.add (ZbI _ _) (show (w.alloc (Obj.cells #[] 72)).heap[w.heap.size]? =_ from Array.getElem?_push_size) ((Below.refl _ _).alloc (Nat.le_refl _) _) (fun b hb=>by rw[List.mem_singleton.1 hb];exact Nat.le_refl _)))
 have e2:(Instr.box 72 (.agg #[])).run prog w= .ok (.pointer (some ⟨w.heap.size,0,none⟩)) (w.alloc (Obj.cells #[] 72)):=rfl
 unfold Oper.wp execOp
 simp only[ho,hx]
 simp[e2]
 exact hP
theorem Pu {o:Oper} {a:Act} {w:World} {x:Operand} {B:Nat} (ho:o.op= .fieldAddr 74 x 0) (hx:a.eval x= .pointer (some ⟨B,0,none⟩)) (h:w.heap[B]? =some (Obj.cells #[] 74)):(execOp a.eval o).run prog w= .ok (.value (.pointer (some ⟨B,0,none⟩))) w:=by
 unfold execOp
 simp only[ho,hx]
 simp[go_sem,partAt,Vv h]
theorem Pv {o:Oper} {a:Act} {w:World} {x:Operand} {B:Nat} (ho:o.op= .fieldAddr 72 x 0) (hx:a.eval x= .pointer (some ⟨B,0,none⟩)) (h:w.heap[B]? =some (Obj.cells #[] 74)):(execOp a.eval o).run prog w= .ok (.value (.pointer (some ⟨B,0,none⟩))) w:=by
 unfold execOp
 simp only[ho,hx]
 simp[go_sem,partAt,Vv h]
theorem fa72_72 {o:Oper} {a:Act} {w:World} {x:Operand} {B:Nat} (ho:o.op= .fieldAddr 72 x 0) (hx:a.eval x= .pointer (some ⟨B,0,none⟩)) (h:w.heap[B]? =some (Obj.cells #[] 72)):(execOp a.eval o).run prog w= .ok (.value (.pointer (some ⟨B,0,none⟩))) w:=by
 unfold execOp
 simp only[ho,hx]
 simp[go_sem,partAt,Zcw h]
theorem ldE {o:Oper} {a:Act} {w:World} {x:Operand} {B:Nat} (ho:o.op= .load 70 x) (hx:a.eval x= .pointer (some ⟨B,0,none⟩)):(execOp a.eval o).run prog w= .ok (.value (.agg #[])) w:=by
 unfold execOp
 simp only[ho,hx]
 simp[go_sem]
theorem ldU {o:Oper} {a:Act} {w:World} {x:Operand} {B:Nat} (ho:o.op= .load 72 x) (hx:a.eval x= .pointer (some ⟨B,0,none⟩)):(execOp a.eval o).run prog w= .ok (.value (.agg #[])) w:=by
 unfold execOp
 simp only[ho,hx]
 simp[go_sem]
theorem ldA {o:Oper} {a:Act} {w:World} {x:Operand} {B:Nat} (ho:o.op= .load 74 x) (hx:a.eval x= .pointer (some ⟨B,0,none⟩)):(execOp a.eval o).run prog w= .ok (.value (.agg #[])) w:=by
 unfold execOp
 simp only[ho,hx]
 simp[go_sem]
theorem Zbs (h:HP) (j:Nat) (q:OB) (k:KK) (d:DD) (w:World) (H:h.Is w) (hl:h.l.length<=65536) (hj:h.l[j]? =some q) (hT:Tabs w) (hk:OkK k) (hg:goodK k=true) (hFn:FD (getD q.T k)) (hFd:FD d) (hlast:q.T.last<4000000):Calls prog 57 #[.agg #[], .pointer (some ⟨h.b,0,none⟩), .int .i64 ((j:Int)+1),k.agg,d.agg] w fun e w'=> ∃(h1:HP) (y:Bool),e= .returned (.tuple #[])/\Vc h j q k d h1 y/\h.To h1 w w':=by
 have SS:=Ac H.start
 rw[Ec,Em]
 go_enter func57,ntmps57
 go_wp2_with (first|go_skip|((with_reducible show wpList ..);first|((refine bxE72 (by rfl) rfl rfl (Aa SS) ?_);intro X0 B0 S0;replace SS:=Ac S0;clear S0;simp only[nn])|(refine zB 42 (k.cs) (by rfl) rfl rfl rfl SS ?_;clear SS;intro Xa Ba SS;simp only[nn])|(refine zB 29 (d.cs) (by rfl) rfl rfl rfl SS ?_;clear SS;intro Xb Bb SS;simp only[nn])|(refine rd rfl (fa72_72 rfl rfl ((Aa SS).emp 1 rfl)) ?_)|(refine rd rfl (ldE rfl rfl) ?_)|(refine zL (k.cs) 42 2 2 rwK szK (by rfl) rfl rfl SS rfl rfl rfl ?_;simp only[nn])|(refine zL (d.cs) 29 18 3 rwD szD (by rfl) rfl rfl SS rfl rfl rfl ?_;simp only[nn])))
 have T0:h.To h w _:=HP.To.end H (Aa SS) rfl
 have HD:=Oi h j q k d _ ((Aa SS).hp 0 rfl) hl hj (T0.tabs H hT) hk hg hFn hFd hlast
 rw[Ec,Em] at HD
 refine HD.mono ?_
 rintro _ Y1 ⟨h1,y,rfl,hP,T1⟩
 replace SS:=Ac ((Aa SS).heap 0 rfl T1)
 have HP_:=Ac hP
 clear hP
 have hb1:h1.b=h.b:=T1.hb
 clear T1
 go_wp2
 refine bodyPost_end (results_none rfl _ _ _) rfl ?_
 exact⟨h1,y,rfl,Aa HP_,HP.To.end H (Aa SS) hb1⟩
