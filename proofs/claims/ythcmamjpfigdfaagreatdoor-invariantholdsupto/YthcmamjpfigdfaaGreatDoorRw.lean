import Derived.Test.YthcmamjpfigdfaaGreatDoorRv
set_option linter.all false
namespace Go.Proofs.YthcmamjpfigdfaaGreatDoor
set_option maxRecDepth 100000
set_option maxHeartbeats 0
section
open Go Go.Proofs Go.Maps Go.RowKit FM Tryz
theorem Zch {α:Type} (l:List α) (q:α->Bool):decide (0<=oI (l.findIdx? q))=l.any q:=by
 cases h:l.findIdx? q with
 |none=>
  rw[List.findIdx?_eq_none_iff] at h
  have:l.any q=false:=by
   rw[List.any_eq_false]
   intro x hx
   simp[h x hx]
  rw[this]
  simp[oI]
 |some j=>
  obtain⟨hj,hq,_⟩:=List.findIdx?_eq_some_iff_getElem.1 h
  have:l.any q=true:=by
   rw[List.any_eq_true]
   exact⟨_,List.getElem_mem hj,hq⟩
  rw[this]
  simp[oI]
theorem Ze4 {α:Type} {l:List α} {q:α->Bool} {i:Nat} {p:α} (hp:l[i]? =some p) (hq:q p=true) (hlt: ∀(j:Nat) (r:α),j<i->l[j]? =some r->q r=false):oI (l.findIdx? q)=(i:Int):=by
 obtain⟨hi,rfl⟩:=List.getElem?_eq_some_iff.1 hp
 have e:l.findIdx? q=some i:=by
  rw[List.findIdx?_eq_some_iff_getElem]
  exact⟨hi,hq,fun j hj=>by rw[hlt j _ hj (List.getElem?_eq_getElem (by omega))];simp⟩
 rw[e];rfl
theorem Ze3 {α:Type} {l:List α} {q:α->Bool} (hlt: ∀(j:Nat) (r:α),j<l.length->l[j]? =some r->q r=false):oI (l.findIdx? q)= -1:=by
 have e:l.findIdx? q=none:=by
  rw[List.findIdx?_eq_none_iff]
  intro x hx
  obtain⟨j,hj⟩:=List.getElem?_of_mem hx
  exact hlt j x (List.getElem?_eq_some_iff.1 hj).1 hj
 rw[e];rfl
def NoQ {α:Type} (l:List α) (q:α->Bool) (i:Nat):Prop:= ∀(j:Nat) (r:α),j<i->l[j]? =some r->q r=false
theorem NoQ.zero {α:Type} (l:List α) (q:α->Bool):NoQ l q 0:=fun j q hj=>absurd hj (Nat.not_lt_zero _)
theorem NoQ.step {α:Type} {l:List α} {q:α->Bool} {i:Nat} {p:α} (h:NoQ l q i) (hp:l[i]? =some p) (hk:q p=false):NoQ l q (i+1):=fun j r hj hq=>by
 rcases Nat.lt_succ_iff_lt_or_eq.1 hj with h1|h1
 ·exact h j r h1 hq
 ·subst h1
  rw[hp] at hq
  cases hq
  exact hk
theorem IxL (B:Option Addr) (cap:Nat) (ps:List PR) (q:PR->Bool) (w:World) (hR:ReadsP9 w B ps) (hz:ps.length<=733007751850) (HC: ∀(j:Nat) (p:PR),ps[j]? =some p-> ∀X,Fr w X []->Calls prog 116 #[p.agg] X fun e X'=>e= .returned (.bool (q p))/\Below X.heap.size X X'):Calls prog 117 #[.slice B ps.length cap, .func (.func 116) #[] #[]] w fun e w'=>e= .returned (.int .i64 (oI (ps.findIdx? q)))/\Below w.heap.size w w':=by
 have LL:=Ab (Hq.nil w [])
 have HR:=Ab hR
 have HZ:=Ab hz
 have HCC:=Ab HC
 clear hR hz HC
 go_enter func117,ntmps117
 go_wp2_with (first|go_skip|((with_reducible show wpList ..);(refine rd rfl (Bp 49 80 underlying49 rfl rfl) ?_)))
 go_loopg [8] ps.length (fun gm s8 wr=> ∃i:Nat,s8= .int .i64 (i:Nat)/\i<=ps.length/\ps.length - i<=gm/\Hid (NoQ ps q i)/\Hid (Hq w wr [] []))
 case atStart=>exact⟨0,rfl,by omega,by omega,Ab (NoQ.zero ps q),LL⟩
 case round=>
  clear LL
  obtain⟨i,rfl,hil,hgm,HD,LL⟩:=hrel
  by_cases hlt:i<ps.length
  ·have dlt:decide ((i:Int)<(ps.length:Int))=true:=decide_eq_true (by omega)
   have hw1:IntKind.i64.wrap ((i:Int)+1)=(i:Int)+1:=by have:=Aa HZ;rw[IntKind.wrap_i64];omega
   obtain⟨p,hp⟩: ∃p,ps[i]? =some p:=⟨_,List.getElem?_eq_getElem hlt⟩
   obtain⟨_,b,off,hA,hb,hrg⟩:=(Aa HR) i p hp
   subst hA
   have HA2:Hid (∀X,Fr w X []->X.rangeAt b (off+i * 20) p.cs):=Ab (fun X hX=>Dm hrg hb hX)
   have HC:=Ab ((Aa HCC) i p hp)
   simp only[Zao] at HC
   have HLT:=Ab hlt
   clear hil hlt hb hrg
   go_wp2_with (first|go_skip|((with_reducible show wpList ..);first|(refine rd rfl (Bw 49 20 i Mq Ms rfl rfl rfl (Aa HLT)) ?_)|(refine rd rfl (Br (vs:=p.cs) 80 20 rwP szP rfl rfl (Aa HA2 _ (Aa LL).fr) rfl) ?_)))
   refine(Aa HC _ (Aa LL).fr).mono ?_
   rintro e X5 ⟨rfl,hb5⟩
   replace LL:=Ab ((Aa LL).on hb5)
   clear hb5
   cases hqp:q p
   ·have HD2:=Ab ((Aa HD).step hp hqp)
    clear hqp hp HD
    go_wp2_with (go_skip)
    go_roundg (ps.length - (i+1))
    case measure=>have:=Aa HLT;omega
    case rel=>exact⟨i+1,by go_num,by have:=Aa HLT;omega,by omega,HD2,LL⟩
   ·have HF:=Ab (Ze4 hp hqp (Aa HD))
    clear hqp hp HD
    go_wp2_with (go_skip)
    go_ret
    exact⟨by rw[Aa HF];rfl,(Aa LL).fr.below⟩
  ·obtain rfl:i=ps.length:=by omega
   have HF:=Ab (Ze3 (Aa HD))
   clear hlt hil HD
   go_wp2_with (go_skip)
   go_ret
   exact⟨by rw[Aa HF];rfl,(Aa LL).fr.below⟩
theorem hasIxL (B:Option Addr) (cap:Nat) (ps:List PR) (q:PR->Bool) (w:World) (hR:ReadsP9 w B ps) (hz:ps.length<=733007751850) (HC: ∀(j:Nat) (p:PR),ps[j]? =some p-> ∀X,Fr w X []->Calls prog 116 #[p.agg] X fun e X'=>e= .returned (.bool (q p))/\Below X.heap.size X X'):Calls prog 66 #[.slice B ps.length cap, .func (.func 116) #[] #[]] w fun e w'=>e= .returned (.bool (ps.any q))/\Below w.heap.size w w':=by
 have HI:=Ab (IxL B cap ps q w hR hz HC)
 have hq:=Zch ps q
 clear HC hR hz
 generalize oI (ps.findIdx? q)=r at *
 generalize ps.any q=t at *
 go_enter func66,ntmps66
 go_wp2_with fail
 refine(Aa HI).mono ?_
 rintro e X5 ⟨rfl,hb5⟩
 have HB:=Ab hb5
 clear hb5
 go_wp2
 go_ret
 exact⟨by simp[←hq],Aa HB⟩
theorem IxC (B:Option Addr) (cap:Nat) (ps:List PR) (q:PR->Bool) (w:World) (hR:ReadsP9 w B ps) (hz:ps.length<=733007751850) (HC: ∀(j:Nat) (p:PR),ps[j]? =some p-> ∀X,Fr w X []->Calls prog 67 #[p.agg] X fun e X'=>e= .returned (.bool (q p))/\Below X.heap.size X X'):Calls prog 117 #[.slice B ps.length cap, .func (.func 67) #[] #[]] w fun e w'=>e= .returned (.int .i64 (oI (ps.findIdx? q)))/\Below w.heap.size w w':=by
 have LL:=Ab (Hq.nil w [])
 have HR:=Ab hR
 have HZ:=Ab hz
 have HCC:=Ab HC
 clear hR hz HC
 go_enter func117,ntmps117
 go_wp2_with (first|go_skip|((with_reducible show wpList ..);(refine rd rfl (Bp 49 80 underlying49 rfl rfl) ?_)))
 go_loopg [8] ps.length (fun gm s8 wr=> ∃i:Nat,s8= .int .i64 (i:Nat)/\i<=ps.length/\ps.length - i<=gm/\Hid (NoQ ps q i)/\Hid (Hq w wr [] []))
 case atStart=>exact⟨0,rfl,by omega,by omega,Ab (NoQ.zero ps q),LL⟩
 case round=>
  clear LL
  obtain⟨i,rfl,hil,hgm,HD,LL⟩:=hrel
  by_cases hlt:i<ps.length
  ·have dlt:decide ((i:Int)<(ps.length:Int))=true:=decide_eq_true (by omega)
   have hw1:IntKind.i64.wrap ((i:Int)+1)=(i:Int)+1:=by have:=Aa HZ;rw[IntKind.wrap_i64];omega
   obtain⟨p,hp⟩: ∃p,ps[i]? =some p:=⟨_,List.getElem?_eq_getElem hlt⟩
   obtain⟨_,b,off,hA,hb,hrg⟩:=(Aa HR) i p hp
   subst hA
   have HA2:Hid (∀X,Fr w X []->X.rangeAt b (off+i * 20) p.cs):=Ab (fun X hX=>Dm hrg hb hX)
   have HC:=Ab ((Aa HCC) i p hp)
   simp only[Zao] at HC
   have HLT:=Ab hlt
   clear hil hlt hb hrg
   go_wp2_with (first|go_skip|((with_reducible show wpList ..);first|(refine rd rfl (Bw 49 20 i Mq Ms rfl rfl rfl (Aa HLT)) ?_)|(refine rd rfl (Br (vs:=p.cs) 80 20 rwP szP rfl rfl (Aa HA2 _ (Aa LL).fr) rfl) ?_)))
   refine(Aa HC _ (Aa LL).fr).mono ?_
   rintro e X5 ⟨rfl,hb5⟩
   replace LL:=Ab ((Aa LL).on hb5)
   clear hb5
   cases hqp:q p
   ·have HD2:=Ab ((Aa HD).step hp hqp)
    clear hqp hp HD
    go_wp2_with (go_skip)
    go_roundg (ps.length - (i+1))
    case measure=>have:=Aa HLT;omega
    case rel=>exact⟨i+1,by go_num,by have:=Aa HLT;omega,by omega,HD2,LL⟩
   ·have HF:=Ab (Ze4 hp hqp (Aa HD))
    clear hqp hp HD
    go_wp2_with (go_skip)
    go_ret
    exact⟨by rw[Aa HF];rfl,(Aa LL).fr.below⟩
  ·obtain rfl:i=ps.length:=by omega
   have HF:=Ab (Ze3 (Aa HD))
   clear hlt hil HD
   go_wp2_with (go_skip)
   go_ret
   exact⟨by rw[Aa HF];rfl,(Aa LL).fr.below⟩
theorem hasIxC (B:Option Addr) (cap:Nat) (ps:List PR) (q:PR->Bool) (w:World) (hR:ReadsP9 w B ps) (hz:ps.length<=733007751850) (HC: ∀(j:Nat) (p:PR),ps[j]? =some p-> ∀X,Fr w X []->Calls prog 67 #[p.agg] X fun e X'=>e= .returned (.bool (q p))/\Below X.heap.size X X'):Calls prog 66 #[.slice B ps.length cap, .func (.func 67) #[] #[]] w fun e w'=>e= .returned (.bool (ps.any q))/\Below w.heap.size w w':=by
 have HI:=Ab (IxC B cap ps q w hR hz HC)
 have hq:=Zch ps q
 clear HC hR hz
 generalize oI (ps.findIdx? q)=r at *
 generalize ps.any q=t at *
 go_enter func66,ntmps66
 go_wp2_with fail
 refine(Aa HI).mono ?_
 rintro e X5 ⟨rfl,hb5⟩
 have HB:=Ab hb5
 clear hb5
 go_wp2
 go_ret
 exact⟨by simp[←hq],Aa HB⟩
theorem IxM (B:Option Addr) (cap:Nat) (ps:List PR) (cv:Value) (q:PR->Bool) (w:World) (hR:ReadsP9 w B ps) (hz:ps.length<=733007751850) (HC: ∀(j:Nat) (p:PR),ps[j]? =some p-> ∀X,Fr w X []->Calls prog 132 #[p.agg,cv] X fun e X'=>e= .returned (.bool (q p))/\Below X.heap.size X X'):Calls prog 117 #[.slice B ps.length cap, .func (.func 132) #[] #[cv]] w fun e w'=>e= .returned (.int .i64 (oI (ps.findIdx? q)))/\Below w.heap.size w w':=by
 have LL:=Ab (Hq.nil w [])
 have HR:=Ab hR
 have HZ:=Ab hz
 have HCC:=Ab HC
 clear hR hz HC
 go_enter func117,ntmps117
 go_wp2_with (first|go_skip|((with_reducible show wpList ..);(refine rd rfl (Bp 49 80 underlying49 rfl rfl) ?_)))
 go_loopg [8] ps.length (fun gm s8 wr=> ∃i:Nat,s8= .int .i64 (i:Nat)/\i<=ps.length/\ps.length - i<=gm/\Hid (NoQ ps q i)/\Hid (Hq w wr [] []))
 case atStart=>exact⟨0,rfl,by omega,by omega,Ab (NoQ.zero ps q),LL⟩
 case round=>
  clear LL
  obtain⟨i,rfl,hil,hgm,HD,LL⟩:=hrel
  by_cases hlt:i<ps.length
  ·have dlt:decide ((i:Int)<(ps.length:Int))=true:=decide_eq_true (by omega)
   have hw1:IntKind.i64.wrap ((i:Int)+1)=(i:Int)+1:=by have:=Aa HZ;rw[IntKind.wrap_i64];omega
   obtain⟨p,hp⟩: ∃p,ps[i]? =some p:=⟨_,List.getElem?_eq_getElem hlt⟩
   obtain⟨_,b,off,hA,hb,hrg⟩:=(Aa HR) i p hp
   subst hA
   have HA2:Hid (∀X,Fr w X []->X.rangeAt b (off+i * 20) p.cs):=Ab (fun X hX=>Dm hrg hb hX)
   have HC:=Ab ((Aa HCC) i p hp)
   simp only[Zao] at HC
   have HLT:=Ab hlt
   clear hil hlt hb hrg
   go_wp2_with (first|go_skip|((with_reducible show wpList ..);first|(refine rd rfl (Bw 49 20 i Mq Ms rfl rfl rfl (Aa HLT)) ?_)|(refine rd rfl (Br (vs:=p.cs) 80 20 rwP szP rfl rfl (Aa HA2 _ (Aa LL).fr) rfl) ?_)))
   refine(Aa HC _ (Aa LL).fr).mono ?_
   rintro e X5 ⟨rfl,hb5⟩
   replace LL:=Ab ((Aa LL).on hb5)
   clear hb5
   cases hqp:q p
   ·have HD2:=Ab ((Aa HD).step hp hqp)
    clear hqp hp HD
    go_wp2_with (go_skip)
    go_roundg (ps.length - (i+1))
    case measure=>have:=Aa HLT;omega
    case rel=>exact⟨i+1,by go_num,by have:=Aa HLT;omega,by omega,HD2,LL⟩
   ·have HF:=Ab (Ze4 hp hqp (Aa HD))
    clear hqp hp HD
    go_wp2_with (go_skip)
    go_ret
    exact⟨by rw[Aa HF];rfl,(Aa LL).fr.below⟩
  ·obtain rfl:i=ps.length:=by omega
   have HF:=Ab (Ze3 (Aa HD))
   clear hlt hil HD
   go_wp2_with (go_skip)
   go_ret
   exact⟨by rw[Aa HF];rfl,(Aa LL).fr.below⟩
theorem hasIxM (B:Option Addr) (cap:Nat) (ps:List PR) (cv:Value) (q:PR->Bool) (w:World) (hR:ReadsP9 w B ps) (hz:ps.length<=733007751850) (HC: ∀(j:Nat) (p:PR),ps[j]? =some p-> ∀X,Fr w X []->Calls prog 132 #[p.agg,cv] X fun e X'=>e= .returned (.bool (q p))/\Below X.heap.size X X'):Calls prog 66 #[.slice B ps.length cap, .func (.func 132) #[] #[cv]] w fun e w'=>e= .returned (.bool (ps.any q))/\Below w.heap.size w w':=by
 have HI:=Ab (IxM B cap ps cv q w hR hz HC)
 have hq:=Zch ps q
 clear HC hR hz
 generalize oI (ps.findIdx? q)=r at *
 generalize ps.any q=t at *
 go_enter func66,ntmps66
 go_wp2_with fail
 refine(Aa HI).mono ?_
 rintro e X5 ⟨rfl,hb5⟩
 have HB:=Ab hb5
 clear hb5
 go_wp2
 go_ret
 exact⟨by simp[←hq],Aa HB⟩
theorem IxD (B:Option Addr) (cap:Nat) (ps:List SH) (q:SH->Bool) (w:World) (hR:ReadsS9 w B ps) (hz:ps.length<=733007751850) (HC: ∀(j:Nat) (p:SH) (SA:Option Addr) (sc:Nat),ps[j]? =some p->ReadsP9 w SA p.ps-> ∀X,Fr w X []->Calls prog 62 #[p.agg SA sc] X fun e X'=>e= .returned (.bool (q p))/\Below X.heap.size X X'):Calls prog 109 #[.slice B ps.length cap, .func (.func 62) #[] #[]] w fun e w'=>e= .returned (.int .i64 (oI (ps.findIdx? q)))/\Below w.heap.size w w':=by
 have LL:=Ab (Hq.nil w [])
 have HR:=Ab hR
 have HZ:=Ab hz
 have HCC:=Ab HC
 clear hR hz HC
 go_enter func109,ntmps109
 go_wp2_with (first|go_skip|((with_reducible show wpList ..);(refine rd rfl (Bp 61 85 underlying61 rfl rfl) ?_)))
 go_loopg [8] ps.length (fun gm s8 wr=> ∃i:Nat,s8= .int .i64 (i:Nat)/\i<=ps.length/\ps.length - i<=gm/\Hid (NoQ ps q i)/\Hid (Hq w wr [] []))
 case atStart=>exact⟨0,rfl,by omega,by omega,Ab (NoQ.zero ps q),LL⟩
 case round=>
  clear LL
  obtain⟨i,rfl,hil,hgm,HD,LL⟩:=hrel
  by_cases hlt:i<ps.length
  ·have dlt:decide ((i:Int)<(ps.length:Int))=true:=decide_eq_true (by omega)
   have hw1:IntKind.i64.wrap ((i:Int)+1)=(i:Int)+1:=by have:=Aa HZ;rw[IntKind.wrap_i64];omega
   obtain⟨p,hp⟩: ∃p,ps[i]? =some p:=⟨_,List.getElem?_eq_getElem hlt⟩
   obtain⟨_,_,b,off,SA,sc,hA,hb,hrp,hrg⟩:=(Aa HR) i p hp
   subst hA
   have HA2:Hid (∀X,Fr w X []->X.rangeAt b (off+i * 8) (p.cs SA sc)):=Ab (fun X hX=>Dm hrg hb hX)
   have HC:=Ab ((Aa HCC) i p SA sc hp hrp)
   simp only[sagg] at HC
   have HLT:=Ab hlt
   clear hil hlt hb hrg
   go_wp2_with (first|go_skip|((with_reducible show wpList ..);first|(refine rd rfl (Bw 61 8 i ZcR Zdr rfl rfl rfl (Aa HLT)) ?_)|(refine rd rfl (Br (vs:=p.cs SA sc) 85 8 rwS szS rfl rfl (Aa HA2 _ (Aa LL).fr) rfl) ?_)))
   refine(Aa HC _ (Aa LL).fr).mono ?_
   rintro e X5 ⟨rfl,hb5⟩
   replace LL:=Ab ((Aa LL).on hb5)
   clear hb5
   cases hqp:q p
   ·have HD2:=Ab ((Aa HD).step hp hqp)
    clear hqp hp HD
    go_wp2_with (go_skip)
    go_roundg (ps.length - (i+1))
    case measure=>have:=Aa HLT;omega
    case rel=>exact⟨i+1,by go_num,by have:=Aa HLT;omega,by omega,HD2,LL⟩
   ·have HF:=Ab (Ze4 hp hqp (Aa HD))
    clear hqp hp HD
    go_wp2_with (go_skip)
    go_ret
    exact⟨by rw[Aa HF];rfl,(Aa LL).fr.below⟩
  ·obtain rfl:i=ps.length:=by omega
   have HF:=Ab (Ze3 (Aa HD))
   clear hlt hil HD
   go_wp2_with (go_skip)
   go_ret
   exact⟨by rw[Aa HF];rfl,(Aa LL).fr.below⟩
theorem hasIxD (B:Option Addr) (cap:Nat) (ps:List SH) (q:SH->Bool) (w:World) (hR:ReadsS9 w B ps) (hz:ps.length<=733007751850) (HC: ∀(j:Nat) (p:SH) (SA:Option Addr) (sc:Nat),ps[j]? =some p->ReadsP9 w SA p.ps-> ∀X,Fr w X []->Calls prog 62 #[p.agg SA sc] X fun e X'=>e= .returned (.bool (q p))/\Below X.heap.size X X'):Calls prog 61 #[.slice B ps.length cap, .func (.func 62) #[] #[]] w fun e w'=>e= .returned (.bool (ps.any q))/\Below w.heap.size w w':=by
 have HI:=Ab (IxD B cap ps q w hR hz HC)
 have hq:=Zch ps q
 clear HC hR hz
 generalize oI (ps.findIdx? q)=r at *
 generalize ps.any q=t at *
 go_enter func61,ntmps61
 go_wp2_with fail
 refine(Aa HI).mono ?_
 rintro e X5 ⟨rfl,hb5⟩
 have HB:=Ab hb5
 clear hb5
 go_wp2
 go_ret
 exact⟨by simp[←hq],Aa HB⟩
theorem alV {ops:Array Oper} {rest:List Oper} {Q:Exit->Act->World->Prop} {w w0:World} {a:Act} {o:Oper} {E:List Nat} {L:List (Nat×List Value)} {v:Value} (t:TypeId) (cs:List Value) (hw:Region.wanted o (yielded ops a.tmps)=true) (ho:o.op= .alloc t) (hz: ∀w,(zeroValue t).run prog w= .ok v w) (hv:v.cells=cs.toArray) (hc:0<cs.length) (hL:Hq w0 w E L)
  (h: ∀X B,B=w.heap.size->Hq w0 X E (L++ [(B,cs)])->Below w.heap.size w X->wpList prog ops Q rest (a.put o.dst (.pointer (some ⟨B,0,none⟩))) X):wpList prog ops Q (o::rest) a w:=by
 refine BigFrame.wpList_want hw fun K hK=> ?_
 have hP:=hK _ _ (h _ _ rfl (hL.new cs t hc) ((Below.refl _ _).alloc (Nat.le_refl _) _))
 unfold Oper.wp execOp
 simp only[ho]
 unfold Value.cells at hv
 simp[go_sem,hz,hv]
 exact hP
theorem MapI.fr {w X:World} {b n sz:Nat} {F:KK->Option Nat} (h:MapI w b n sz F) (hf:Fr w X []):MapI X b n sz F:=h.block (hf.block b h.lt (by simp))
theorem Holds.fr {w X:World} {b:Nat} {cs:List Value} (h:Holds w b cs) (hl:0<cs.length) (hf:Fr w X []):Holds X b cs:=h.block (hf.block b (h.lt hl) (by simp))
theorem Zbh (p:PR) (BM M n sz:Nat) (G:KK->Option Nat) (w:World) (hk:OkK p.k) (hB:Holds w BM [.map (some M)]) (hM:MapI w M n sz G):Calls prog 132 #[p.agg, .pointer (some ⟨BM,0,none⟩)] w fun e w'=>e= .returned (.bool (!(G p.k).isSome))/\Below w.heap.size w w':=by
 have LL:=Ab (Hq.nil w [])
 have HB:=Ab (fun X hX=>hB.fr (X:=X) (Nat.succ_pos _) hX)
 have HM:=Ab (fun X hX=>hM.fr (X:=X) hX)
 have HOK:=Ab hk
 clear hB hM hk
 rw[Zao]
 go_enter func132,ntmps132
 go_wp2_with (first|go_skip|((with_reducible show wpList ..);first|((refine bx 80 (p.cs) (by rfl) rfl rfl rfl (Nat.succ_pos _) (Aa LL) ?_);intro X1 B1 hE1 L1 hb1;have hB1:=Ab (Nat.le_trans (Aa LL).fr.size (Nat.le_of_eq hE1.symm));replace LL:=Ab L1;clear L1 hb1 hE1;simp only[nn])|(refine rd rfl (Ad 178 isAgg178 rfl rfl (Aa HB _ (Aa LL).fr) rfl) ?_)|(refine rd rfl (Af (vs:=p.k.cs) 37 2 rwK szK rfl rfl ((Aa LL).get 0 rfl) rfl rfl) ?_)|(refine rd rfl (Nw rfl rfl rfl (Aa HM _ (Aa LL).fr) (Aa HOK) rfl) ?_)))
 go_ret
 exact⟨by simp,(Aa LL).fr.below⟩
def mkV (c:CO):Bool:= !c.was.x && c.is.ps.any (fun p=> !(fO c.was.ps p.k).isSome)
theorem Zcj (c:CO) (w:World) (hW:ReadsP9 w c.wA c.was.ps) (hI:ReadsP9 w c.iA c.is.ps) (hz:c.was.ps.length<=733007751850) (hz2:c.is.ps.length<=733007751850):Calls prog 84 #[c.agg] w fun e w'=>e= .returned (.bool (mkV c))/\Below w.heap.size w w':=by
 have LL:=Ab (Hq.nil w [])
 have HPL:=Ab (fun w hR=>Om c.wA c.wc c.was.ps w hR hz)
 have HW:=Ab hW
 have HI:=Ab hI
 have HZ2:=Ab hz2
 clear hW hI hz hz2
 have H6:=Ab (co_at6 c)
 have H7:Hid (c.cs[7]? =some (.slice c.wA c.was.ps.length c.wc)):=Ab rfl
 have H15:Hid (c.cs[15]? =some (.slice c.iA c.is.ps.length c.ic)):=Ab rfl
 unfold mkV
 rw[Ny]
 have hl:0<c.cs.length:=Nat.succ_pos _
 generalize c.cs=cc at *
 generalize c.was.x=x at *
 have HL:=Ab hl
 clear hl
 cases x
 ·go_enter func84,ntmps84
  go_wp2_with (first|go_skip|((with_reducible show wpList ..);first|((refine bx 102 cc (by rfl) rfl rfl rfl (Aa HL) (Aa LL) ?_);intro X1 B1 hE1 L1 hb1;replace LL:=Ab L1;clear L1 hb1 hE1;simp only[nn])|(refine rd rfl (Ad 4 isAgg4 rfl rfl ((Aa LL).get 0 rfl) (Aa H6)) ?_)|(refine rd rfl (Ad 49 isAgg49 rfl rfl ((Aa LL).get 0 rfl) (Aa H7)) ?_)))
  refine(Aa HPL _ ((Aa HW).fr (Aa LL).fr)).mono ?_
  rintro e X4 ⟨M,n,rfl,hM0,hm,hb4⟩
  have HM:=Ab hm
  have hM1:=Ab (Nat.le_trans (Aa LL).fr.size hM0)
  replace LL:=Ab ((Aa LL).on hb4)
  clear hm hM0 hb4
  go_wp2_with (first|go_skip|((with_reducible show wpList ..);first|((refine alV (v:= .map none) 178 [.map none] (by rfl) rfl (fun w=>by kernel_rfl) rfl (Nat.succ_pos _) (Aa LL) ?_);intro X2 B2 hE2 L2 hb2;have hB2:=Ab (Nat.le_trans (Aa LL).fr.size (Nat.le_of_eq hE2.symm));have hNE:Hid (M≠B2):=Ab (Nat.ne_of_lt (Nat.lt_of_lt_of_le (Aa HM).lt (Nat.le_of_eq hE2.symm)));replace HM:=Ab ((Aa HM).on hb2);replace LL:=Ab L2;clear L2 hb2 hE2;simp only[nn])|((refine st (vs:= [.map (some M)]) 1 178 (by rfl) rfl rfl rfl rfl (by simp[Value.oneCell']) szM (Aa LL) rfl (by simp[Bt]) (Or.inr (Aa hB2)) ?_);intro X3 L3 hf3 hs3;replace HM:=Ab ((Aa HM).far hf3 (Aa hNE));replace LL:=Ab L3;clear L3 hf3 hs3;simp only[nn])|(refine rd rfl (Ad 49 isAgg49 rfl rfl ((Aa LL).get 0 rfl) (Aa H15)) ?_)))
  refine(hasIxM c.iA c.ic c.is.ps (.pointer (some ⟨B2,0,none⟩)) (fun p=> !(fO c.was.ps p.k).isSome) _ ((Aa HI).fr (Aa LL).fr) (Aa HZ2) (fun j p hp X hX=>Zbh p B2 M n _ (fO c.was.ps) X ((Aa HI) j p hp).1.2 (((Aa LL).get 1 rfl).fr (Nat.succ_pos _) hX) ((Aa HM).fr hX))).mono ?_
  rintro e X5 ⟨rfl,hb5⟩
  replace LL:=Ab ((Aa LL).on hb5)
  clear hb5
  go_wp2_with (go_skip)
  go_ret
  exact⟨by simp,(Aa LL).fr.below⟩
 ·go_enter func84,ntmps84
  go_wp2_with (first|go_skip|((with_reducible show wpList ..);first|((refine bx 102 cc (by rfl) rfl rfl rfl (Aa HL) (Aa LL) ?_);intro X1 B1 hE1 L1 hb1;replace LL:=Ab L1;clear L1 hb1 hE1;simp only[nn])|(refine rd rfl (Ad 4 isAgg4 rfl rfl ((Aa LL).get 0 rfl) (Aa H6)) ?_)))
  go_ret
  exact⟨by simp,(Aa LL).fr.below⟩
def seV (s:SH):Bool:= !s.x && !s.ps.any Lr
def frV (s:SH):Bool:=seV s && !s.ps.any chgP
theorem Zd0 (s:SH) (SA:Option Addr) (sc:Nat) (w:World) (hW:ReadsP9 w SA s.ps) (hz:s.ps.length<=733007751850):Calls prog 65 #[s.agg SA sc] w fun e w'=>e= .returned (.bool (seV s))/\Below w.heap.size w w':=by
 have LL:=Ab (Hq.nil w [])
 have HW:=Ab hW
 have HZ:=Ab hz
 clear hW hz
 have H6:Hid ((s.cs SA sc)[6]? =some (.bool s.x)):=Ab rfl
 unfold seV
 rw[sagg]
 generalize s.x=x at *
 cases x
 ·go_enter func65,ntmps65
  go_wp2_with (first|go_skip|((with_reducible show wpList ..);first|((refine bx 85 (s.cs SA sc) (by rfl) rfl rfl rfl (Nat.succ_pos _) (Aa LL) ?_);intro X1 B1 hE1 L1 hb1;replace LL:=Ab L1;clear L1 hb1 hE1;simp only[nn])|(refine rd rfl (Ad 4 isAgg4 rfl rfl ((Aa LL).get 0 rfl) (Aa H6)) ?_)|(refine rd rfl (Ad 49 isAgg49 rfl rfl ((Aa LL).get 0 rfl) rfl) ?_)))
  refine(hasIxL SA sc s.ps Lr _ ((Aa HW).fr (Aa LL).fr) (Aa HZ) (fun j p hp X hX=>ZbD p X)).mono ?_
  rintro e X5 ⟨rfl,hb5⟩
  replace LL:=Ab ((Aa LL).on hb5)
  clear hb5
  go_wp2_with (go_skip)
  go_ret
  exact⟨by simp,(Aa LL).fr.below⟩
 ·go_enter func65,ntmps65
  go_wp2_with (first|go_skip|((with_reducible show wpList ..);first|((refine bx 85 (s.cs SA sc) (by rfl) rfl rfl rfl (Nat.succ_pos _) (Aa LL) ?_);intro X1 B1 hE1 L1 hb1;replace LL:=Ab L1;clear L1 hb1 hE1;simp only[nn])|(refine rd rfl (Ad 4 isAgg4 rfl rfl ((Aa LL).get 0 rfl) (Aa H6)) ?_)))
  go_ret
  exact⟨by simp,(Aa LL).fr.below⟩
theorem Zer (s:SH) (SA:Option Addr) (sc:Nat) (w:World) (hW:ReadsP9 w SA s.ps) (hz:s.ps.length<=733007751850):Calls prog 28 #[s.agg SA sc] w fun e w'=>e= .returned (.bool (frV s))/\Below w.heap.size w w':=by
 have LL:=Ab (Hq.nil w [])
 have HW:=Ab hW
 have HZ:=Ab hz
 have HS:=Ab (fun w hW=>Zd0 s SA sc w hW hz)
 clear hW hz
 unfold frV
 simp only[sagg] at HS ⊢
 generalize seV s=q at *
 go_enter func28,ntmps28
 go_wp2_with (first|go_skip|((with_reducible show wpList ..);first|((refine bx 85 (s.cs SA sc) (by rfl) rfl rfl rfl (Nat.succ_pos _) (Aa LL) ?_);intro X1 B1 hE1 L1 hb1;replace LL:=Ab L1;clear L1 hb1 hE1;simp only[nn])|(refine rd rfl (Af (vs:=s.cs SA sc) 85 8 rwS szS rfl rfl ((Aa LL).get 0 rfl) rfl rfl) ?_)))
 refine(Aa HS _ ((Aa HW).fr (Aa LL).fr)).mono ?_
 rintro e X5 ⟨rfl,hb5⟩
 replace LL:=Ab ((Aa LL).on hb5)
 clear hb5
 cases q
 ·go_wp2_with (go_skip)
  go_ret
  exact⟨by simp,(Aa LL).fr.below⟩
 ·go_wp2_with (first|go_skip|((with_reducible show wpList ..);(refine rd rfl (Ad 49 isAgg49 rfl rfl ((Aa LL).get 0 rfl) rfl) ?_)))
  refine(hasIxC SA sc s.ps chgP _ ((Aa HW).fr (Aa LL).fr) (Aa HZ) (fun j p hp X hX=>Za2 p X)).mono ?_
  rintro e X6 ⟨rfl,hb6⟩
  replace LL:=Ab ((Aa LL).on hb6)
  clear hb6
  go_wp2_with (go_skip)
  go_ret
  exact⟨by simp,(Aa LL).fr.below⟩
theorem Dh {o:Oper} {a:Act} {w:World} {x ix:Operand} {g off n cap:Nat} {A:Option Addr} (t:TypeId) (sz j:Nat) (hk:prog.underlying t=some (.slice (prog.elem t))) (he: ∀w,(sizeOf (prog.elem t)).run prog w= .ok sz w) (ho:o.op= .indexAddr t x ix) (hx:a.eval x= .slice A n cap) (hA:A=some ⟨g,off,none⟩) (hix:a.eval ix= .int .i64 (j:Nat)) (hj:j<n):(execOp a.eval o).run prog w= .ok (.value (.pointer (some ⟨g,off+j * sz,none⟩))) w:=by
 subst hA
 exact Bw t sz j hk he ho hx hix hj
def kept (is:List PR) (p:PR):Bool:=match fO is p.k with
 |none=>false
 |some a=>match is[a]? with
  |none=>false
  |some r=>keepB p.d r.d
def Nc (was is:List PR) (i:Nat):Bool:=match was[i]? with
 |none=>false
 |some p=>decide (fO was p.k=some i) && !Lr p && !kept is p
def prV (c:CO):Bool:=(List.range c.was.ps.length).any (Nc c.was.ps c.is.ps)
theorem Ze6 {c:CO} {i:Nat} (hi:i<c.was.ps.length) (h:Nc c.was.ps c.is.ps i=true):prV c=true:=by
 unfold prV
 rw[List.any_eq_true]
 exact⟨i,List.mem_range.2 hi,h⟩
theorem prV_no {c:CO} (h: ∀j,j<c.was.ps.length->Nc c.was.ps c.is.ps j=false):prV c=false:=by
 unfold prV
 rw[List.any_eq_false]
 intro j hj
 rw[h j (List.mem_range.1 hj)]
 simp
def NoB (was is:List PR) (i:Nat):Prop:= ∀j,j<i->Nc was is j=false
theorem NoB.zero (was is:List PR):NoB was is 0:=fun j hj=>absurd hj (Nat.not_lt_zero _)
theorem NoB.step {was is:List PR} {i:Nat} (h:NoB was is i) (hk:Nc was is i=false):NoB was is (i+1):=fun j hj=>by
 rcases Nat.lt_succ_iff_lt_or_eq.1 hj with h1|h1
 ·exact h j h1
 ·subst h1
  exact hk
theorem fO_mem {l:List PR} {i:Nat} {p:PR} (hp:l[i]? =some p): ∃j,fO l p.k=some j/\j<=i:=by
 obtain⟨hi,rfl⟩:=List.getElem?_eq_some_iff.1 hp
 cases h:fO l l[i].k with
 |none=>
  exfalso
  unfold fO at h
  rw[List.findIdx?_eq_none_iff] at h
  have:=h l[i] (List.getElem_mem hi)
  simp at this
 |some j=>
  refine⟨j,rfl, ?_⟩
  unfold fO at h
  obtain⟨hj,_,h3⟩:=List.findIdx?_eq_some_iff_getElem.1 h
  rcases Nat.lt_or_ge i j with h4|h4
  ·exfalso
   have:=h3 i h4
   simp at this
  ·exact h4
theorem fO_get {l:List PR} {k:KK} {a:Nat} (h:fO l k=some a): ∃r,l[a]? =some r/\r.k=k:=by
 unfold fO at h
 obtain⟨hj,h2,_⟩:=List.findIdx?_eq_some_iff_getElem.1 h
 exact⟨_,List.getElem?_eq_getElem hj,by simpa using h2⟩
theorem ZgJ {was is:List PR} {i j:Nat} {p:PR} (hp:was[i]? =some p) (hj:fO was p.k=some j) (hn:j≠i):Nc was is i=false:=by
 simp[Nc,hp,hj,hn]
theorem ZgK {was is:List PR} {i:Nat} {p:PR} (hp:was[i]? =some p) (hl:Lr p=true):Nc was is i=false:=by
 simp[Nc,hp,hl]
theorem bad_kept {was is:List PR} {i:Nat} {p:PR} (hp:was[i]? =some p) (hl:kept is p=true):Nc was is i=false:=by
 simp[Nc,hp,hl]
theorem ZfD {was is:List PR} {i:Nat} {p:PR} (hp:was[i]? =some p) (hj:fO was p.k=some i) (hl:Lr p=false) (hk:kept is p=false):Nc was is i=true:=by
 simp[Nc,hp,hj,hl,hk]
theorem Zbe (c:CO) (w:World) (hW:ReadsP9 w c.wA c.was.ps) (hI:ReadsP9 w c.iA c.is.ps) (hz:c.was.ps.length<=733007751850) (hz2:c.is.ps.length<=733007751850) (hT:Lib.Utf8Tabs 1 2 w):Calls prog 85 #[c.agg] w fun e w'=>e= .returned (.bool (prV c))/\Below w.heap.size w w':=by
 have LL:=Ab (Hq.nil w [])
 have HW:=Ab hW
 have HI:=Ab hI
 have HZ:=Ab hz
 have HZ2:=Ab hz2
 have HT:=Ab hT
 clear hW hI hz hz2 hT
 have H7:Hid (c.cs[7]? =some (.slice c.wA c.was.ps.length c.wc)):=Ab rfl
 rw[Ny]
 go_enter func85,ntmps85
 go_wp2_with (first|go_skip|((with_reducible show wpList ..);((refine bx 102 c.cs (by rfl) rfl rfl rfl (Nat.succ_pos _) (Aa LL) ?_);intro X1 B1 hE1 L1 hb1;replace LL:=Ab L1;clear L1 hb1 hE1;simp only[nn])))
 have hq0:Hq w _ [] [(B1,c.cs)]:=(Aa LL).drew
 refine wp_region_held_drew (P:=prog) (S:=fun X=>Hq w X [] [(B1,c.cs)]) (by kernel_rfl) hq0 (fun hS0=> ?_)
 refine y0 0 (some 9) (.pointer (some ⟨B1,0,none⟩)) rfl hq0 ?_
 refine y0 1 (some 10) (.pointer (some ⟨B1,7,none⟩)) rfl hq0 ?_
 refine y1 2 (some 11) (.slice c.wA c.was.ps.length c.wc) rfl (fun X hX=>Ad 49 isAgg49 rfl rfl (hX.get 0 rfl) rfl) hq0 ?_
 refine y0 4 (some 13) (.pointer (some ⟨B1,8,none⟩)) rfl hq0 ?_
 refine y0 5 (some 14) (.pointer (some ⟨B1,15,none⟩)) rfl hq0 ?_
 refine y1 6 (some 15) (.slice c.iA c.is.ps.length c.ic) rfl (fun X hX=>Ad 49 isAgg49 rfl rfl (hX.get 0 rfl) rfl) hq0 ?_
 refine wpAnyH_ready (rs:= [3]) (by kernel_rfl) (by simp) (Jm 3 (some 12) rfl (by kernel_rfl) (by kernel_rfl) (by kernel_rfl) (Om c.wA c.wc c.was.ps _ ((Aa HW).fr hq0.fr) (Aa HZ)) ?_ AllReadyH.nil)
 rintro e Y1 ⟨M1,n1,rfl,hM1,hm1,hY1⟩
 have hq1:=Hq.on hq0 hY1
 replace hM1:=Nat.le_trans hq0.fr.size hM1
 refine⟨_,rfl,hq1, ?_⟩
 simp only[nn]
 refine wpAnyH_ready (rs:= [7]) (by kernel_rfl) (by simp) (Jm 7 (some 16) rfl (by kernel_rfl) (by kernel_rfl) (by kernel_rfl) (Om c.iA c.ic c.is.ps _ ((Aa HI).fr hq1.fr) (Aa HZ2)) ?_ AllReadyH.nil)
 rintro e Y2 ⟨M2,n2,rfl,hM2,hm2,hY2⟩
 have hq2:=Hq.on hq1 hY2
 replace hM2:=Nat.le_trans hq1.fr.size hM2
 replace hm1:=hm1.on hY2
 refine⟨_,rfl,hq2, ?_⟩
 simp only[nn]
 refine y0 8 (some 3) (.map (some M1)) rfl hq2 ?_
 refine y0 9 (some 4) (.map (some M2)) rfl hq2 ?_
 refine dn ?_
 try simp only[nn]
 replace LL:=Ab hq2
 have HM:=Ab (And.intro hm1 (And.intro hM1 (And.intro hm2 hM2)))
 clear hq0 hq1 hq2 hm1 hm2 hM1 hM2 hY1 hY2 hS0
 go_wp2_with (first|go_skip|((with_reducible show wpList ..);first|(refine rd rfl (Ad 49 isAgg49 rfl rfl ((Aa LL).get 0 rfl) (Aa H7)) ?_)|(refine rd rfl (Bp 49 80 underlying49 rfl rfl) ?_)))
 go_loopg [21] c.was.ps.length (fun gm s21 wr=> ∃i:Nat,s21= .int .i64 (i:Nat)/\i<=c.was.ps.length/\c.was.ps.length - i<=gm/\Hid (NoB c.was.ps c.is.ps i)/\Hid (MapI wr M1 n1 (Ph c.was.ps c.was.ps.length) (fO c.was.ps)/\w.heap.size<=M1/\MapI wr M2 n2 (Ph c.is.ps c.is.ps.length) (fO c.is.ps)/\w.heap.size<=M2)/\Hid (Hq w wr [] [(B1,c.cs)]))
 case atStart=>exact⟨0,rfl,by omega,by omega,Ab (NoB.zero _ _),HM,LL⟩
 case round=>
  clear LL HM
  obtain⟨i,rfl,hil,hgm,HD,HM,LL⟩:=hrel
  by_cases hlt:i<c.was.ps.length
  ·have dlt:decide ((i:Int)<(c.was.ps.length:Int))=true:=decide_eq_true (by omega)
   have hw1:IntKind.i64.wrap ((i:Int)+1)=(i:Int)+1:=by have:=Aa HZ;rw[IntKind.wrap_i64];omega
   obtain⟨p,hp⟩: ∃p,c.was.ps[i]? =some p:=⟨_,List.getElem?_eq_getElem hlt⟩
   obtain⟨hok,b,off,hA,hb,hrg⟩:=(Aa HW) i p hp
   have HA:=Ab hA
   have HA2:Hid (∀X,Fr w X []->X.rangeAt b (off+i * 20) p.cs):=Ab (fun X hX=>Dm hrg hb hX)
   have HLT:=Ab hlt
   have HOK:=Ab hok.2
   obtain⟨j,hfj,hji⟩:=fO_mem hp
   have HFJ:=Ab hfj
   by_cases hij:i=j
   ·subst hij
    have HNJ:Hid (((i:Int) !=(i:Int))=false):=Ab (by simp)
    have HLO:=Ab (ZbD p)
    simp only[Zao] at HLO
    clear hb hrg hlt hil hA
    cases hlo:Lr p
    ·cases hfi:fO c.is.ps p.k
     ·have HFI:=Ab hfi
      have HF:=Ab (Ze6 (c:=c) (Aa HLT) (ZfD hp hfj hlo (by unfold kept;rw[hfi])))
      simp only[hlo] at HLO
      clear hp hfj hlo hfi HD hok hji
      go_wp2_with (first|go_skip|((with_reducible show wpList ..);first|(refine rd rfl (Dh 49 20 i Mq Ms rfl rfl (Aa HA) rfl (Aa HLT)) ?_)|(refine rd rfl (Br (vs:=p.cs) 80 20 rwP szP rfl rfl (Aa HA2 _ (Aa LL).fr) rfl) ?_)|((refine alG 80 (Es.cs) rfl (fun w=>by kernel_rfl) (Aa LL) ?_);intro X3 B3 hE3 L3 hb3;have hB3:=Ab (Nat.le_trans (Aa LL).fr.size (Nat.le_of_eq hE3.symm));have hNE:Hid (M1≠B3/\M2≠B3):=Ab ⟨Nat.ne_of_lt (Nat.lt_of_lt_of_le (Aa HM).1.lt (Nat.le_of_eq hE3.symm)),Nat.ne_of_lt (Nat.lt_of_lt_of_le (Aa HM).2.2.1.lt (Nat.le_of_eq hE3.symm))⟩;replace HM:=Ab (And.intro ((Aa HM).1.on hb3) (And.intro (Aa HM).2.1 (And.intro ((Aa HM).2.2.1.on hb3) (Aa HM).2.2.2)));replace LL:=Ab L3;clear L3 hb3 hE3;simp only[nn])|((refine st (vs:=p.cs) 1 80 (by rfl) rfl rfl rfl rfl (Jf p) (szP) (Aa LL) rfl (by simp[Bt,PR.cs,SH.cs,VV.cs,KK.cs,DD.cs,CO.cs,DL.cs,Es,Dr,zeroD,Aq]) (Or.inr (Aa hB3)) ?_);intro X4 L4 hf4 hs4;replace HM:=Ab (And.intro ((Aa HM).1.far hf4 (Aa hNE).1) (And.intro (Aa HM).2.1 (And.intro ((Aa HM).2.2.1.far hf4 (Aa hNE).2) (Aa HM).2.2.2)));replace LL:=Ab L4;clear L4 hf4 hs4;simp only[nn])|(refine rd rfl (Af (vs:=p.k.cs) 37 2 rwK szK rfl rfl ((Aa LL).get 1 rfl) rfl rfl) ?_)|(refine rd rfl (Af (vs:=p.cs) 80 20 rwP szP rfl rfl ((Aa LL).get 1 rfl) rfl rfl) ?_)|(refine rd rfl (Qf rfl rfl rfl (Aa HM).1 (Aa HOK) (Aa HFJ)) ?_)|(refine rd rfl (Na rfl rfl rfl (Aa HNJ)) ?_)))
      refine(Aa HLO _).mono ?_
      rintro e X5 ⟨rfl,hb5⟩
      replace HM:=Ab (And.intro ((Aa HM).1.on hb5) (And.intro (Aa HM).2.1 (And.intro ((Aa HM).2.2.1.on hb5) (Aa HM).2.2.2)))
      replace LL:=Ab ((Aa LL).on hb5)
      clear hb5
      go_wp2_with (first|go_skip|((with_reducible show wpList ..);first|(refine rd rfl (Af (vs:=p.k.cs) 37 2 rwK szK rfl rfl ((Aa LL).get 1 rfl) rfl rfl) ?_)|(refine rd rfl (Nw rfl rfl rfl (Aa HM).2.2.1 (Aa HOK) (Aa HFI)) ?_)))
      have hq0:Hq w _ [] [(B1,c.cs),(B3,p.cs)]:=(Aa LL).drew
      refine wp_region_held_drew (P:=prog) (S:=fun X=>Hq w X [] [(B1,c.cs),(B3,p.cs)]) (by kernel_rfl) hq0 (fun hS0=> ?_)
      refine y0 0 (some 43) (.bool false) rfl hq0 ?_
      refine y0 1 (some 44) (.bool true) rfl hq0 ?_
      refine y0 2 (some 45) (.bool true) rfl hq0 ?_
      refine Gs 3 (some 46) rfl (by kernel_rfl) (by kernel_rfl) (by kernel_rfl) (fun _ _ _ h=>h) (by kernel_rfl) (by kernel_rfl) hq0 ?_
      simp only[nn]
      refine Gs 4 (some 47) rfl (by kernel_rfl) (by kernel_rfl) (by kernel_rfl) (fun _ _ _ h=>h) (by kernel_rfl) (by kernel_rfl) hq0 ?_
      simp only[nn]
      refine Gs 5 (some 48) rfl (by kernel_rfl) (by kernel_rfl) (by kernel_rfl) (fun _ _ _ h=>h) (by kernel_rfl) (by kernel_rfl) hq0 ?_
      simp only[nn]
      refine Gs 6 (some 49) rfl (by kernel_rfl) (by kernel_rfl) (by kernel_rfl) (fun _ _ _ h=>h) (by kernel_rfl) (by kernel_rfl) hq0 ?_
      simp only[nn]
      refine Gs 7 (some 50) rfl (by kernel_rfl) (by kernel_rfl) (by kernel_rfl) (fun _ _ _ h=>h) (by kernel_rfl) (by kernel_rfl) hq0 ?_
      simp only[nn]
      refine Gs 8 (some 51) rfl (by kernel_rfl) (by kernel_rfl) (by kernel_rfl) (fun _ _ _ h=>h) (by kernel_rfl) (by kernel_rfl) hq0 ?_
      simp only[nn]
      refine Gs 9 (some 52) rfl (by kernel_rfl) (by kernel_rfl) (by kernel_rfl) (fun _ _ _ h=>h) (by kernel_rfl) (by kernel_rfl) hq0 ?_
      simp only[nn]
      refine Gs 10 (some 53) rfl (by kernel_rfl) (by kernel_rfl) (by kernel_rfl) (fun _ _ _ h=>h) (by kernel_rfl) (by kernel_rfl) hq0 ?_
      simp only[nn]
      refine Gs 11 (some 54) rfl (by kernel_rfl) (by kernel_rfl) (by kernel_rfl) (fun _ _ _ h=>h) (by kernel_rfl) (by kernel_rfl) hq0 ?_
      simp only[nn]
      refine Gs 12 (some 55) rfl (by kernel_rfl) (by kernel_rfl) (by kernel_rfl) (fun _ _ _ h=>h) (by kernel_rfl) (by kernel_rfl) hq0 ?_
      simp only[nn]
      refine Gs 13 (some 56) rfl (by kernel_rfl) (by kernel_rfl) (by kernel_rfl) (fun _ _ _ h=>h) (by kernel_rfl) (by kernel_rfl) hq0 ?_
      simp only[nn]
      refine y0 14 (some 57) (.bool true) rfl hq0 ?_
      refine dn ?_
      try simp only[nn]
      replace LL:=Ab hq0
      clear hq0 hS0
      go_wp2_with (go_skip)
      go_ret
      exact⟨by rw[Aa HF];rfl,(Aa LL).fr.below⟩
     ·rename_i a
      have HFI:=Ab hfi
      obtain⟨r,hr,hrk⟩:=fO_get hfi
      obtain⟨hokr,b2,off2,hA2,hb2,hrg2⟩:=(Aa HI) a r hr
      have halt:a<c.is.ps.length:=(List.getElem?_eq_some_iff.1 hr).1
      have hKP:=keeps65 p.d r.d hok.1 hokr.1
      simp only[ZaZ] at hKP
      have hkr:kept c.is.ps p=keepB p.d r.d:=by unfold kept;rw[hfi];simp only[hr]
      generalize keepB p.d r.d=kb at *
      simp only[hlo] at HLO
      cases kb
      ·have HH:=Ab (And.intro hA2 (And.intro hb2 (And.intro hrg2 (And.intro halt hKP))))
       have HF:=Ab (Ze6 (c:=c) (Aa HLT) (ZfD hp hfj hlo hkr))
       clear hA2 hb2 hrg2 halt hKP hp hfj hlo hfi hr hrk hok hokr hkr hji HD
       go_wp2_with (first|go_skip|((with_reducible show wpList ..);first|(refine rd rfl (Dh 49 20 i Mq Ms rfl rfl (Aa HA) rfl (Aa HLT)) ?_)|(refine rd rfl (Br (vs:=p.cs) 80 20 rwP szP rfl rfl (Aa HA2 _ (Aa LL).fr) rfl) ?_)|((refine alG 80 (Es.cs) rfl (fun w=>by kernel_rfl) (Aa LL) ?_);intro X3 B3 hE3 L3 hb3;have hB3:=Ab (Nat.le_trans (Aa LL).fr.size (Nat.le_of_eq hE3.symm));have hNE:Hid (M1≠B3/\M2≠B3):=Ab ⟨Nat.ne_of_lt (Nat.lt_of_lt_of_le (Aa HM).1.lt (Nat.le_of_eq hE3.symm)),Nat.ne_of_lt (Nat.lt_of_lt_of_le (Aa HM).2.2.1.lt (Nat.le_of_eq hE3.symm))⟩;replace HM:=Ab (And.intro ((Aa HM).1.on hb3) (And.intro (Aa HM).2.1 (And.intro ((Aa HM).2.2.1.on hb3) (Aa HM).2.2.2)));replace LL:=Ab L3;clear L3 hb3 hE3;simp only[nn])|((refine st (vs:=p.cs) 1 80 (by rfl) rfl rfl rfl rfl (Jf p) (szP) (Aa LL) rfl (by simp[Bt,PR.cs,SH.cs,VV.cs,KK.cs,DD.cs,CO.cs,DL.cs,Es,Dr,zeroD,Aq]) (Or.inr (Aa hB3)) ?_);intro X4 L4 hf4 hs4;replace HM:=Ab (And.intro ((Aa HM).1.far hf4 (Aa hNE).1) (And.intro (Aa HM).2.1 (And.intro ((Aa HM).2.2.1.far hf4 (Aa hNE).2) (Aa HM).2.2.2)));replace LL:=Ab L4;clear L4 hf4 hs4;simp only[nn])|(refine rd rfl (Af (vs:=p.k.cs) 37 2 rwK szK rfl rfl ((Aa LL).get 1 rfl) rfl rfl) ?_)|(refine rd rfl (Af (vs:=p.cs) 80 20 rwP szP rfl rfl ((Aa LL).get 1 rfl) rfl rfl) ?_)|(refine rd rfl (Qf rfl rfl rfl (Aa HM).1 (Aa HOK) (Aa HFJ)) ?_)|(refine rd rfl (Na rfl rfl rfl (Aa HNJ)) ?_)))
       refine(Aa HLO _).mono ?_
       rintro e X5 ⟨rfl,hb5⟩
       replace HM:=Ab (And.intro ((Aa HM).1.on hb5) (And.intro (Aa HM).2.1 (And.intro ((Aa HM).2.2.1.on hb5) (Aa HM).2.2.2)))
       replace LL:=Ab ((Aa LL).on hb5)
       clear hb5
       go_wp2_with (first|go_skip|((with_reducible show wpList ..);first|(refine rd rfl (Af (vs:=p.k.cs) 37 2 rwK szK rfl rfl ((Aa LL).get 1 rfl) rfl rfl) ?_)|(refine rd rfl (Nw rfl rfl rfl (Aa HM).2.2.1 (Aa HOK) (Aa HFI)) ?_)))
       simp only[nz]
       try go_wp2_with (go_skip)
       obtain⟨hA2,hb2,hrg2,halt,hKP⟩:=Aa HH
       have hq0:Hq w _ [] [(B1,c.cs),(B3,p.cs)]:=(Aa LL).drew
       refine wp_region_held_drew (P:=prog) (S:=fun X=>Hq w X [] [(B1,c.cs),(B3,p.cs)]) (by kernel_rfl) hq0 (fun hS0=> ?_)
       refine y0 0 (some 43) (.bool true) rfl hq0 ?_
       refine y0 1 (some 44) (.bool false) rfl hq0 ?_
       refine y0 2 (some 45) (.bool false) rfl hq0 ?_
       refine y0 3 (some 46) (.pointer (some ⟨B3,2,none⟩)) rfl hq0 ?_
       refine y1 4 (some 47) (.agg p.d.cs.toArray) rfl (fun X hX=>Af (vs:=p.d.cs) 43 18 rwD szD rfl rfl (hX.get 1 rfl) rfl rfl) hq0 ?_
       refine y0 5 (some 48) (.pointer (some ⟨B1,8,none⟩)) rfl hq0 ?_
       refine y0 6 (some 49) (.pointer (some ⟨B1,15,none⟩)) rfl hq0 ?_
       refine y1 7 (some 50) (.slice c.iA c.is.ps.length c.ic) rfl (fun X hX=>Ad 49 isAgg49 rfl rfl (hX.get 0 rfl) rfl) hq0 ?_
       refine y0 8 (some 51) (.int .i64 (a:Nat)) rfl hq0 ?_
       refine y1 9 (some 52) (.pointer (some ⟨b2,off2+a * 20,none⟩)) rfl (fun X hX=>Dh 49 20 a Mq Ms rfl rfl hA2 rfl halt) hq0 ?_
       refine y0 10 (some 53) (.pointer (some ⟨b2,off2+a * 20+2,none⟩)) rfl hq0 ?_
       refine y1 11 (some 54) (.agg r.d.cs.toArray) rfl (fun X hX=>Br (vs:=r.d.cs) 43 18 rwD szD rfl rfl (Mx (a:=r.k.cs) (c:=r.d.cs) (Dm hrg2 hb2 hX.fr)) rfl) hq0 ?_
       refine wpAnyH_ready (rs:= [12]) (by kernel_rfl) (by simp) (Jm 12 (some 55) rfl (by kernel_rfl) (by kernel_rfl) (by kernel_rfl) (hKP _ (Ao (Aa HT) hq0.fr.below)) ?_ AllReadyH.nil)
       rintro e Y5 ⟨rfl,hY5⟩
       have hq05:=Hq.on hq0 hY5
       refine⟨_,rfl,hq05, ?_⟩
       simp only[nn]
       refine y0 13 (some 56) (.bool true) rfl hq05 ?_
       refine y0 14 (some 57) (.bool true) rfl hq05 ?_
       refine dn ?_
       try simp only[nn]
       replace LL:=Ab hq05
       replace HM:=Ab (And.intro ((Aa HM).1.block (hY5.block _ (Aa HM).1.lt)) (And.intro (Aa HM).2.1 (And.intro ((Aa HM).2.2.1.block (hY5.block _ (Aa HM).2.2.1.lt)) (Aa HM).2.2.2)))
       clear hA2 hb2 hrg2 halt hKP hq0 hq05 hY5 hS0
       go_wp2_with (go_skip)
       go_ret
       exact⟨by rw[Aa HF];rfl,(Aa LL).fr.below⟩
      ·have HH:=Ab (And.intro hA2 (And.intro hb2 (And.intro hrg2 (And.intro halt hKP))))
       have HD2:=Ab ((Aa HD).step (bad_kept hp hkr))
       clear hA2 hb2 hrg2 halt hKP hp hfj hlo hfi hr hrk hok hokr hkr hji HD
       go_wp2_with (first|go_skip|((with_reducible show wpList ..);first|(refine rd rfl (Dh 49 20 i Mq Ms rfl rfl (Aa HA) rfl (Aa HLT)) ?_)|(refine rd rfl (Br (vs:=p.cs) 80 20 rwP szP rfl rfl (Aa HA2 _ (Aa LL).fr) rfl) ?_)|((refine alG 80 (Es.cs) rfl (fun w=>by kernel_rfl) (Aa LL) ?_);intro X3 B3 hE3 L3 hb3;have hB3:=Ab (Nat.le_trans (Aa LL).fr.size (Nat.le_of_eq hE3.symm));have hNE:Hid (M1≠B3/\M2≠B3):=Ab ⟨Nat.ne_of_lt (Nat.lt_of_lt_of_le (Aa HM).1.lt (Nat.le_of_eq hE3.symm)),Nat.ne_of_lt (Nat.lt_of_lt_of_le (Aa HM).2.2.1.lt (Nat.le_of_eq hE3.symm))⟩;replace HM:=Ab (And.intro ((Aa HM).1.on hb3) (And.intro (Aa HM).2.1 (And.intro ((Aa HM).2.2.1.on hb3) (Aa HM).2.2.2)));replace LL:=Ab L3;clear L3 hb3 hE3;simp only[nn])|((refine st (vs:=p.cs) 1 80 (by rfl) rfl rfl rfl rfl (Jf p) (szP) (Aa LL) rfl (by simp[Bt,PR.cs,SH.cs,VV.cs,KK.cs,DD.cs,CO.cs,DL.cs,Es,Dr,zeroD,Aq]) (Or.inr (Aa hB3)) ?_);intro X4 L4 hf4 hs4;replace HM:=Ab (And.intro ((Aa HM).1.far hf4 (Aa hNE).1) (And.intro (Aa HM).2.1 (And.intro ((Aa HM).2.2.1.far hf4 (Aa hNE).2) (Aa HM).2.2.2)));replace LL:=Ab L4;clear L4 hf4 hs4;simp only[nn])|(refine rd rfl (Af (vs:=p.k.cs) 37 2 rwK szK rfl rfl ((Aa LL).get 1 rfl) rfl rfl) ?_)|(refine rd rfl (Af (vs:=p.cs) 80 20 rwP szP rfl rfl ((Aa LL).get 1 rfl) rfl rfl) ?_)|(refine rd rfl (Qf rfl rfl rfl (Aa HM).1 (Aa HOK) (Aa HFJ)) ?_)|(refine rd rfl (Na rfl rfl rfl (Aa HNJ)) ?_)))
       refine(Aa HLO _).mono ?_
       rintro e X5 ⟨rfl,hb5⟩
       replace HM:=Ab (And.intro ((Aa HM).1.on hb5) (And.intro (Aa HM).2.1 (And.intro ((Aa HM).2.2.1.on hb5) (Aa HM).2.2.2)))
       replace LL:=Ab ((Aa LL).on hb5)
       clear hb5
       go_wp2_with (first|go_skip|((with_reducible show wpList ..);first|(refine rd rfl (Af (vs:=p.k.cs) 37 2 rwK szK rfl rfl ((Aa LL).get 1 rfl) rfl rfl) ?_)|(refine rd rfl (Nw rfl rfl rfl (Aa HM).2.2.1 (Aa HOK) (Aa HFI)) ?_)))
       simp only[nz]
       try go_wp2_with (go_skip)
       obtain⟨hA2,hb2,hrg2,halt,hKP⟩:=Aa HH
       have hq0:Hq w _ [] [(B1,c.cs),(B3,p.cs)]:=(Aa LL).drew
       refine wp_region_held_drew (P:=prog) (S:=fun X=>Hq w X [] [(B1,c.cs),(B3,p.cs)]) (by kernel_rfl) hq0 (fun hS0=> ?_)
       refine y0 0 (some 43) (.bool true) rfl hq0 ?_
       refine y0 1 (some 44) (.bool false) rfl hq0 ?_
       refine y0 2 (some 45) (.bool false) rfl hq0 ?_
       refine y0 3 (some 46) (.pointer (some ⟨B3,2,none⟩)) rfl hq0 ?_
       refine y1 4 (some 47) (.agg p.d.cs.toArray) rfl (fun X hX=>Af (vs:=p.d.cs) 43 18 rwD szD rfl rfl (hX.get 1 rfl) rfl rfl) hq0 ?_
       refine y0 5 (some 48) (.pointer (some ⟨B1,8,none⟩)) rfl hq0 ?_
       refine y0 6 (some 49) (.pointer (some ⟨B1,15,none⟩)) rfl hq0 ?_
       refine y1 7 (some 50) (.slice c.iA c.is.ps.length c.ic) rfl (fun X hX=>Ad 49 isAgg49 rfl rfl (hX.get 0 rfl) rfl) hq0 ?_
       refine y0 8 (some 51) (.int .i64 (a:Nat)) rfl hq0 ?_
       refine y1 9 (some 52) (.pointer (some ⟨b2,off2+a * 20,none⟩)) rfl (fun X hX=>Dh 49 20 a Mq Ms rfl rfl hA2 rfl halt) hq0 ?_
       refine y0 10 (some 53) (.pointer (some ⟨b2,off2+a * 20+2,none⟩)) rfl hq0 ?_
       refine y1 11 (some 54) (.agg r.d.cs.toArray) rfl (fun X hX=>Br (vs:=r.d.cs) 43 18 rwD szD rfl rfl (Mx (a:=r.k.cs) (c:=r.d.cs) (Dm hrg2 hb2 hX.fr)) rfl) hq0 ?_
       refine wpAnyH_ready (rs:= [12]) (by kernel_rfl) (by simp) (Jm 12 (some 55) rfl (by kernel_rfl) (by kernel_rfl) (by kernel_rfl) (hKP _ (Ao (Aa HT) hq0.fr.below)) ?_ AllReadyH.nil)
       rintro e Y5 ⟨rfl,hY5⟩
       have hq05:=Hq.on hq0 hY5
       refine⟨_,rfl,hq05, ?_⟩
       simp only[nn]
       refine y0 13 (some 56) (.bool false) rfl hq05 ?_
       refine y0 14 (some 57) (.bool false) rfl hq05 ?_
       refine dn ?_
       try simp only[nn]
       replace LL:=Ab hq05
       replace HM:=Ab (And.intro ((Aa HM).1.block (hY5.block _ (Aa HM).1.lt)) (And.intro (Aa HM).2.1 (And.intro ((Aa HM).2.2.1.block (hY5.block _ (Aa HM).2.2.1.lt)) (Aa HM).2.2.2)))
       clear hA2 hb2 hrg2 halt hKP hq0 hq05 hY5 hS0
       go_wp2_with (go_skip)
       replace LL:=Ab (Hq.left (L:= [(B1,c.cs)]) (Aa LL))
       go_roundg (c.was.ps.length - (i+1))
       case measure=>have:=Aa HLT;omega
       case rel=>exact⟨i+1,by go_num,by have:=Aa HLT;omega,by omega,HD2,HM,LL⟩
    ·have HD2:=Ab ((Aa HD).step (ZgK hp hlo))
     simp only[hlo] at HLO
     clear hp hfj hlo HD hok hji
     go_wp2_with (first|go_skip|((with_reducible show wpList ..);first|(refine rd rfl (Dh 49 20 i Mq Ms rfl rfl (Aa HA) rfl (Aa HLT)) ?_)|(refine rd rfl (Br (vs:=p.cs) 80 20 rwP szP rfl rfl (Aa HA2 _ (Aa LL).fr) rfl) ?_)|((refine alG 80 (Es.cs) rfl (fun w=>by kernel_rfl) (Aa LL) ?_);intro X3 B3 hE3 L3 hb3;have hB3:=Ab (Nat.le_trans (Aa LL).fr.size (Nat.le_of_eq hE3.symm));have hNE:Hid (M1≠B3/\M2≠B3):=Ab ⟨Nat.ne_of_lt (Nat.lt_of_lt_of_le (Aa HM).1.lt (Nat.le_of_eq hE3.symm)),Nat.ne_of_lt (Nat.lt_of_lt_of_le (Aa HM).2.2.1.lt (Nat.le_of_eq hE3.symm))⟩;replace HM:=Ab (And.intro ((Aa HM).1.on hb3) (And.intro (Aa HM).2.1 (And.intro ((Aa HM).2.2.1.on hb3) (Aa HM).2.2.2)));replace LL:=Ab L3;clear L3 hb3 hE3;simp only[nn])|((refine st (vs:=p.cs) 1 80 (by rfl) rfl rfl rfl rfl (Jf p) (szP) (Aa LL) rfl (by simp[Bt,PR.cs,SH.cs,VV.cs,KK.cs,DD.cs,CO.cs,DL.cs,Es,Dr,zeroD,Aq]) (Or.inr (Aa hB3)) ?_);intro X4 L4 hf4 hs4;replace HM:=Ab (And.intro ((Aa HM).1.far hf4 (Aa hNE).1) (And.intro (Aa HM).2.1 (And.intro ((Aa HM).2.2.1.far hf4 (Aa hNE).2) (Aa HM).2.2.2)));replace LL:=Ab L4;clear L4 hf4 hs4;simp only[nn])|(refine rd rfl (Af (vs:=p.k.cs) 37 2 rwK szK rfl rfl ((Aa LL).get 1 rfl) rfl rfl) ?_)|(refine rd rfl (Af (vs:=p.cs) 80 20 rwP szP rfl rfl ((Aa LL).get 1 rfl) rfl rfl) ?_)|(refine rd rfl (Qf rfl rfl rfl (Aa HM).1 (Aa HOK) (Aa HFJ)) ?_)|(refine rd rfl (Na rfl rfl rfl (Aa HNJ)) ?_)))
     refine(Aa HLO _).mono ?_
     rintro e X5 ⟨rfl,hb5⟩
     replace HM:=Ab (And.intro ((Aa HM).1.on hb5) (And.intro (Aa HM).2.1 (And.intro ((Aa HM).2.2.1.on hb5) (Aa HM).2.2.2)))
     replace LL:=Ab ((Aa LL).on hb5)
     clear hb5
     go_wp2_with (go_skip)
     replace LL:=Ab (Hq.left (L:= [(B1,c.cs)]) (Aa LL))
     go_roundg (c.was.ps.length - (i+1))
     case measure=>have:=Aa HLT;omega
     case rel=>exact⟨i+1,by go_num,by have:=Aa HLT;omega,by omega,HD2,HM,LL⟩
   ·have HNJ:Hid (((j:Int) !=(i:Int))=true):=Ab (by simp;omega)
    have HD2:=Ab ((Aa HD).step (ZgJ hp hfj (fun h=>hij h.symm)))
    clear hp hfj HD hok hji hij hb hrg hlt hil hA
    go_wp2_with (first|go_skip|((with_reducible show wpList ..);first|(refine rd rfl (Dh 49 20 i Mq Ms rfl rfl (Aa HA) rfl (Aa HLT)) ?_)|(refine rd rfl (Br (vs:=p.cs) 80 20 rwP szP rfl rfl (Aa HA2 _ (Aa LL).fr) rfl) ?_)|((refine alG 80 (Es.cs) rfl (fun w=>by kernel_rfl) (Aa LL) ?_);intro X3 B3 hE3 L3 hb3;have hB3:=Ab (Nat.le_trans (Aa LL).fr.size (Nat.le_of_eq hE3.symm));have hNE:Hid (M1≠B3/\M2≠B3):=Ab ⟨Nat.ne_of_lt (Nat.lt_of_lt_of_le (Aa HM).1.lt (Nat.le_of_eq hE3.symm)),Nat.ne_of_lt (Nat.lt_of_lt_of_le (Aa HM).2.2.1.lt (Nat.le_of_eq hE3.symm))⟩;replace HM:=Ab (And.intro ((Aa HM).1.on hb3) (And.intro (Aa HM).2.1 (And.intro ((Aa HM).2.2.1.on hb3) (Aa HM).2.2.2)));replace LL:=Ab L3;clear L3 hb3 hE3;simp only[nn])|((refine st (vs:=p.cs) 1 80 (by rfl) rfl rfl rfl rfl (Jf p) (szP) (Aa LL) rfl (by simp[Bt,PR.cs,SH.cs,VV.cs,KK.cs,DD.cs,CO.cs,DL.cs,Es,Dr,zeroD,Aq]) (Or.inr (Aa hB3)) ?_);intro X4 L4 hf4 hs4;replace HM:=Ab (And.intro ((Aa HM).1.far hf4 (Aa hNE).1) (And.intro (Aa HM).2.1 (And.intro ((Aa HM).2.2.1.far hf4 (Aa hNE).2) (Aa HM).2.2.2)));replace LL:=Ab L4;clear L4 hf4 hs4;simp only[nn])|(refine rd rfl (Af (vs:=p.k.cs) 37 2 rwK szK rfl rfl ((Aa LL).get 1 rfl) rfl rfl) ?_)|(refine rd rfl (Qf rfl rfl rfl (Aa HM).1 (Aa HOK) (Aa HFJ)) ?_)|(refine rd rfl (Na rfl rfl rfl (Aa HNJ)) ?_)))
    replace LL:=Ab (Hq.left (L:= [(B1,c.cs)]) (Aa LL))
    go_roundg (c.was.ps.length - (i+1))
    case measure=>have:=Aa HLT;omega
    case rel=>exact⟨i+1,by go_num,by have:=Aa HLT;omega,by omega,HD2,HM,LL⟩
  ·obtain rfl:i=c.was.ps.length:=by omega
   have HF:=Ab (prV_no (Aa HD))
   clear hlt hil HD
   go_wp2_with (go_skip)
   go_ret
   exact⟨by rw[Aa HF];rfl,(Aa LL).fr.below⟩
theorem bC1 (s:SH) (A:Option Addr) (c:Nat) (w:World):(Instr.build 102 #[(0, .agg (s.cs A c).toArray),(2, .bool true)]).run prog w= .ok (.agg (CO.cs ⟨s,A,c,Dr,none,0,true⟩).toArray) w:=by kernel_rfl
theorem bC2 (s r:SH) (A B:Option Addr) (c d:Nat) (w:World):(Instr.build 102 #[(0, .agg (s.cs A c).toArray),(1, .agg (r.cs B d).toArray)]).run prog w= .ok (.agg (CO.cs ⟨s,A,c,r,B,d,false⟩).toArray) w:=by kernel_rfl
theorem ex_bC1 {o:Oper} {a:Act} {w:World} {x y:Operand} {s:SH} {A:Option Addr} {c:Nat} (ho:o.op= .build 102 #[(0,x),(2,y)]) (hx:a.eval x= .agg (s.cs A c).toArray) (hy:a.eval y= .bool true):(execOp a.eval o).run prog w= .ok (.value (.agg (CO.cs ⟨s,A,c,Dr,none,0,true⟩).toArray)) w:=by
 have e:=bC1 s A c w
 unfold execOp
 simp only[ho,List.map_toArray,List.map_cons,List.map_nil,hx,hy]
 simp[e]
theorem ex_bC2 {o:Oper} {a:Act} {w:World} {x y:Operand} {s r:SH} {A B:Option Addr} {c d:Nat} (ho:o.op= .build 102 #[(0,x),(1,y)]) (hx:a.eval x= .agg (s.cs A c).toArray) (hy:a.eval y= .agg (r.cs B d).toArray):(execOp a.eval o).run prog w= .ok (.value (.agg (CO.cs ⟨s,A,c,r,B,d,false⟩).toArray)) w:=by
 have e:=bC2 s r A B c d w
 unfold execOp
 simp only[ho,List.map_toArray,List.map_cons,List.map_nil,hx,hy]
 simp[e]
def Pk:CO:=⟨Dr,none,0,Dr,none,0,false⟩
def CoPost (w0 w:World) (bs ns:List SH) (i:Nat) (e:Ending) (X:World):Prop:= ∃c:CO,e= .returned c.agg/\bs[i]? =some c.was/\ReadsP9 w0 c.wA c.was.ps/\ReadsP9 w0 c.iA c.is.ps/\c.was.ps.length<=733007751850/\c.is.ps.length<=733007751850/\c.was.p.x<2^64/\c.is.p.x<2^64/\((c.gone=true/\ns[i]? =none/\c.is=Dr)∨(c.gone=false/\ns[i]? =some c.is))/\Below w.heap.size w X
theorem ZcK (A B:Option Addr) (cap cap2:Nat) (bs ns:List SH) (i:Nat) (w0 w:World) (hB:ReadsS9 w0 A bs) (hC:ReadsS9 w0 B ns) (hf:Fr w0 w []) (hi:i<bs.length) (hz:bs.length<=100000) (hz2:ns.length<=100000):Calls prog 34 #[.slice A bs.length cap, .slice B ns.length cap2, .int .i64 (i:Nat)] w (CoPost w0 w bs ns i):=by
 have LL:=Ab (Hq.nil w [])
 obtain⟨s,hs⟩: ∃s,bs[i]? =some s:=⟨_,List.getElem?_eq_getElem hi⟩
 obtain⟨hx,hl,b,off,SA,sc,hA,hb,hrp,hrg⟩:=hB i s hs
 have HA:=Ab hA
 have HA2:Hid (∀X,Fr w X []->X.rangeAt b (off+i * 8) (s.cs SA sc)):=Ab (fun X hX=>Dm hrg hb (hf.trans hX (by simp)))
 have HLT:=Ab hi
 by_cases hia:i<ns.length
 ·obtain⟨r,hr⟩: ∃r,ns[i]? =some r:=⟨_,List.getElem?_eq_getElem hia⟩
  obtain⟨hx2,hl2,b2,off2,RA,rc,hA3,hb2,hrp2,hrg2⟩:=hC i r hr
  have dge:decide ((ns.length:Int)<=(i:Int))=false:=decide_eq_false (by omega)
  go_enter func34,ntmps34
  go_wp2_with (first|go_skip|((with_reducible show wpList ..);first|((refine alG 102 (Pk.cs) rfl (fun w=>by kernel_rfl) (Aa LL) ?_);intro X1 B1 hE1 L1 hb1;have hB1:=Ab (Nat.le_trans (Aa LL).fr.size (Nat.le_of_eq hE1.symm));replace LL:=Ab L1;clear L1 hb1 hE1;simp only[nn])|(refine rd rfl (Bp 61 85 underlying61 rfl rfl) ?_)))
  have hq0:Hq w _ [] [(B1,Pk.cs)]:=(Aa LL).drew
  have hq1:=hq0.put 0 rfl 0 (CO.cs ⟨s,SA,sc,r,RA,rc,false⟩) (by simp[CO.cs,SH.cs,VV.cs,Pk,Dr,Aq]) (.inr (Aa hB1))
  have e1:Bt Pk.cs 0 (CO.cs ⟨s,SA,sc,r,RA,rc,false⟩)=CO.cs ⟨s,SA,sc,r,RA,rc,false⟩:=by simp[Bt,CO.cs,SH.cs,VV.cs,Pk,Dr,Aq]
  rw[e1] at hq1
  have hf0:Fr w _ []:=hq0.fr
  refine wp_region_held_drew (P:=prog) (S:=fun X=>Fr w X []) (by kernel_rfl) hf0 (fun hS0=> ?_)
  refine y0 0 (some 16) (.slice A bs.length cap) rfl hf0 ?_
  refine y0 1 (some 17) (.int .i64 (i:Nat)) rfl hf0 ?_
  refine y1 2 (some 18) (.pointer (some ⟨b,off+i * 8,none⟩)) rfl (fun X hX=>Dh 61 8 i ZcR Zdr rfl rfl hA rfl hi) hf0 ?_
  refine y1 3 (some 19) (.agg (s.cs SA sc).toArray) rfl (fun X hX=>Br (vs:=s.cs SA sc) 85 8 rwS szS rfl rfl (Dm hrg hb (hf.trans hX (by simp))) rfl) hf0 ?_
  refine y0 4 (some 20) (.slice B ns.length cap2) rfl hf0 ?_
  refine y0 5 (some 21) (.int .i64 (i:Nat)) rfl hf0 ?_
  refine y1 6 (some 22) (.pointer (some ⟨b2,off2+i * 8,none⟩)) rfl (fun X hX=>Dh 61 8 i ZcR Zdr rfl rfl hA3 rfl hia) hf0 ?_
  refine y1 7 (some 23) (.agg (r.cs RA rc).toArray) rfl (fun X hX=>Br (vs:=r.cs RA rc) 85 8 rwS szS rfl rfl (Dm hrg2 hb2 (hf.trans hX (by simp))) rfl) hf0 ?_
  refine y1 8 (some 24) (.agg (CO.cs ⟨s,SA,sc,r,RA,rc,false⟩).toArray) rfl (fun X hX=>ex_bC2 rfl rfl rfl) hf0 ?_
  refine wpAnyH_ready (rs:= [9]) (by kernel_rfl) (by simp) (Zbk 9 none rfl (by kernel_rfl) (by kernel_rfl) (Gi (t:=102) (vs:=CO.cs ⟨s,SA,sc,r,RA,rc,false⟩) rfl rfl rfl rfl (Za1 _) szC (hq0.get 0 rfl) (by simp[CO.cs,SH.cs,VV.cs,Pk,Dr,Aq])) (hq0.put 0 rfl 0 _ (by simp[CO.cs,SH.cs,VV.cs,Pk,Dr,Aq]) (.inr (Aa hB1))).fr ?_ AllReadyH.nil)
  simp only[nn]
  refine dn ?_
  try simp only[nn]
  go_wp2
  refine Lt (cs:=CO.cs ⟨s,SA,sc,r,RA,rc,false⟩) rwC szC rfl rfl rfl (hq1.get 0 rfl) rfl ?_
  exact⟨⟨s,SA,sc,r,RA,rc,false⟩,rfl,hs,hrp,hrp2,hl,hl2,hx,hx2, .inr ⟨rfl,hr⟩,hq1.fr.below⟩
 ·have dge:decide ((ns.length:Int)<=(i:Int))=true:=decide_eq_true (by omega)
  go_enter func34,ntmps34
  go_wp2_with (first|go_skip|((with_reducible show wpList ..);first|((refine alG 102 (Pk.cs) rfl (fun w=>by kernel_rfl) (Aa LL) ?_);intro X1 B1 hE1 L1 hb1;have hB1:=Ab (Nat.le_trans (Aa LL).fr.size (Nat.le_of_eq hE1.symm));replace LL:=Ab L1;clear L1 hb1 hE1;simp only[nn])|(refine rd rfl (Bp 61 85 underlying61 rfl rfl) ?_)|(refine rd rfl (Dh 61 8 i ZcR Zdr rfl rfl (Aa HA) rfl (Aa HLT)) ?_)|(refine rd rfl (Br (vs:=s.cs SA sc) 85 8 rwS szS rfl rfl (Aa HA2 _ (Aa LL).fr) rfl) ?_)|(refine rd rfl (ex_bC1 rfl rfl rfl) ?_)|((refine st (vs:=CO.cs ⟨s,SA,sc,Dr,none,0,true⟩) 0 102 (by rfl) rfl rfl rfl rfl (Za1 _) szC (Aa LL) rfl (by simp[Bt,CO.cs,SH.cs,VV.cs,Pk,Dr,Aq]) (Or.inr (Aa hB1)) ?_);intro X4 L4 hf4 hs4;replace LL:=Ab L4;clear L4 hf4 hs4;simp only[nn])))
  refine Lt (cs:=CO.cs ⟨s,SA,sc,Dr,none,0,true⟩) rwC szC rfl rfl rfl ((Aa LL).get 0 rfl) rfl ?_
  exact⟨⟨s,SA,sc,Dr,none,0,true⟩,rfl,hs,hrp,(fun j p hp=>by simp[Dr] at hp),hl,(by simp[Dr]),hx,(by simp[Dr,Aq]), .inl ⟨rfl,List.getElem?_eq_none (by omega),rfl⟩,(Aa LL).fr.below⟩
def El:List Value:= [.int .i64 1, .func (.func 80) #[] #[], .int .i64 2, .func (.func 81) #[] #[], .int .i64 3, .func (.func 82) #[] #[], .int .i64 4, .func (.func 83) #[] #[], .int .i64 5, .func (.func 84) #[] #[], .int .i64 6, .func (.func 85) #[] #[]]
theorem bR0 (w:World):(Instr.build 106 #[(0, .int .i64 1),(1, .func (.func 80) #[] #[])]).run prog w= .ok (.agg #[.int .i64 1, .func (.func 80) #[] #[]]) w:=by kernel_rfl
theorem bR1 (w:World):(Instr.build 106 #[(0, .int .i64 2),(1, .func (.func 81) #[] #[])]).run prog w= .ok (.agg #[.int .i64 2, .func (.func 81) #[] #[]]) w:=by kernel_rfl
theorem bR2 (w:World):(Instr.build 106 #[(0, .int .i64 3),(1, .func (.func 82) #[] #[])]).run prog w= .ok (.agg #[.int .i64 3, .func (.func 82) #[] #[]]) w:=by kernel_rfl
theorem bR3 (w:World):(Instr.build 106 #[(0, .int .i64 4),(1, .func (.func 83) #[] #[])]).run prog w= .ok (.agg #[.int .i64 4, .func (.func 83) #[] #[]]) w:=by kernel_rfl
theorem bR4 (w:World):(Instr.build 106 #[(0, .int .i64 5),(1, .func (.func 84) #[] #[])]).run prog w= .ok (.agg #[.int .i64 5, .func (.func 84) #[] #[]]) w:=by kernel_rfl
theorem bR5 (w:World):(Instr.build 106 #[(0, .int .i64 6),(1, .func (.func 85) #[] #[])]).run prog w= .ok (.agg #[.int .i64 6, .func (.func 85) #[] #[]]) w:=by kernel_rfl
theorem infR:(prog.info? 106).map (fun i=>(i.zero,i.size,i.bytes))=some (some (.agg #[.int .i64 0, .nilFunc]),2,16):=by kernel_rfl
theorem fill6:Instr.fill (fun i=>some (i * 2,2)) ((Array.range (6 * 2)).map ((Value.agg #[.int .i64 0, .nilFunc]).cells[· % (Value.agg #[.int .i64 0, .nilFunc]).cells.size]!)) [(0, .agg #[.int .i64 1, .func (.func 80) #[] #[]]),(1, .agg #[.int .i64 2, .func (.func 81) #[] #[]]),(2, .agg #[.int .i64 3, .func (.func 82) #[] #[]]),(3, .agg #[.int .i64 4, .func (.func 83) #[] #[]]),(4, .agg #[.int .i64 5, .func (.func 84) #[] #[]]),(5, .agg #[.int .i64 6, .func (.func 85) #[] #[]])]=some El.toArray:=by kernel_rfl
theorem build6 {ops:Array Oper} {rest:List Oper} {Q:Exit->Act->World->Prop} {w w0:World} {a:Act} {o:Oper} {x0 x1 x2 x3 x4 x5:Operand} {E:List Nat} {L:List (Nat×List Value)} (hw:Region.wanted o (yielded ops a.tmps)=true) (ho:o.op= .buildSlice 99 6 #[(0,x0),(1,x1),(2,x2),(3,x3),(4,x4),(5,x5)]) (h0:a.eval x0= .agg #[.int .i64 1, .func (.func 80) #[] #[]]) (h1:a.eval x1= .agg #[.int .i64 2, .func (.func 81) #[] #[]]) (h2:a.eval x2= .agg #[.int .i64 3, .func (.func 82) #[] #[]]) (h3:a.eval x3= .agg #[.int .i64 4, .func (.func 83) #[] #[]]) (h4:a.eval x4= .agg #[.int .i64 5, .func (.func 84) #[] #[]]) (h5:a.eval x5= .agg #[.int .i64 6, .func (.func 85) #[] #[]]) (hL:Hq w0 w E L)
  (h: ∀X B,B=w.heap.size->Hq w0 X E (L++ [(B,El)])->Below w.heap.size w X->wpList prog ops Q rest (a.put o.dst (.slice (some ⟨B,0,none⟩) 6 6)) X):wpList prog ops Q (o::rest) a w:=by
 refine BigFrame.wpList_want hw fun K hK=> ?_
 obtain⟨i0,hi,hz0,hz1,hz2⟩:=info_parts infR
 refine wp_buildSlice 99 106 6 _ ho El.toArray i0 _ underlying99 hi hz0 (by rw[hz1];omega) (by rw[hz1];omega) ?_ (hK _ _ (h _ _ rfl (hL.new _ 106 (by decide)) ((Below.refl _ _).alloc (Nat.le_refl _) _)))
 rw[hz1]
 simp only[List.map_toArray,List.map_cons,List.map_nil,h0,h1,h2,h3,h4,h5]
 exact fill6
def RuPost (w:World) (e:Ending) (X:World):Prop:= ∃B:Nat,e= .returned (.slice (some ⟨B,0,none⟩) 6 6)/\w.heap.size<=B/\Hq w X [] [(B,El)]
attribute [local go_sem] bR0 bR1 bR2 bR3 bR4 bR5
theorem ZfZ (w:World):Calls prog 33 #[] w (RuPost w):=by
 have LL:=Ab (Hq.nil w [])
 go_enter func33,ntmps33
 go_wp2_with (first|go_skip|((with_reducible show wpList ..);((refine build6 (by rfl) rfl rfl rfl rfl rfl rfl rfl (Aa LL) ?_);intro X1 B1 hE1 L1 hb1;have hB1:=Ab (Nat.le_trans (Aa LL).fr.size (Nat.le_of_eq hE1.symm));replace LL:=Ab L1;clear L1 hb1 hE1;simp only[nn])))
 go_ret
 exact⟨B1,rfl,Aa hB1,Aa LL⟩
