import Derived.Test.YtfefpbjkbmaicaaGreatDoorRd
set_option linter.all false
namespace Go.Proofs.YtfefpbjkbmaicaaGreatDoor
set_option maxRecDepth 100000
set_option maxHeartbeats 0
section
open Go Go.Proofs Go.Maps Go.RowKit FM Tryz
attribute [local go_sem] Av Ap Dv Du De Au Ao Az Dd Gu Gt
theorem Ev {o:Oper} {a:Act} {W:World} {x:Operand} {B p:Nat} {vs:List Value} (t:TypeId) (n:Nat) (hu: ∃d,prog.underlying t=some d/\d.isRow=true) (hi:(prog.info? t).map (·.size)=some n) (ho:o.op= .load t x) (hx:a.eval x= .pointer (some ⟨B,p,none⟩)) (h0:W.rangeAt B p vs) (hn:vs.length=n):(execOp a.eval o).run prog W= .ok (.value (.agg vs.toArray)) W:=by
 obtain⟨d,hu,hd⟩:=hu
 unfold execOp
 simp only[ho,hx,Instr.loadAt,Instr.sureAddr,Sem.run_bind,Sem.run_pure,Result.andThen_ok,run_loadVar_mid W B p t vs d h0 hu hd (by rw[hi,hn])]
theorem ZaN {w:World} {b p:Nat} {a c:List Value} (h:w.rangeAt b p (a++c)):w.rangeAt b p a:=fun j v hv=>h j v (by rw[List.getElem?_append_left (List.getElem?_eq_some_iff.1 hv).1];exact hv)
theorem Zk {w:World} {b p:Nat} {a c:List Value} (h:w.rangeAt b p (a++c)):w.rangeAt b (p+a.length) c:=fun j v hv=>by
 have:=h (a.length+j) v (by rw[List.getElem?_append_right (by omega)];simpa using hv)
 rwa [←Nat.add_assoc] at this
theorem Ds {o:Oper} {a:Act} {w:World} {x ix:Operand} {g off n cap:Nat} (t:TypeId) (sz j:Nat) (hk:prog.underlying t=some (.slice (prog.elem t))) (he: ∀w,(sizeOf (prog.elem t)).run prog w= .ok sz w) (ho:o.op= .indexAddr t x ix) (hx:a.eval x= .slice (some ⟨g,off,none⟩) n cap) (hix:a.eval ix= .int .i64 (j:Nat)) (hj:j<n):(execOp a.eval o).run prog w= .ok (.value (.pointer (some ⟨g,off+j * sz,none⟩))) w:=by
 have h1:(Instr.indexAt t (.slice (some ⟨g,off,none⟩) n cap) (.int .i64 (j:Nat))).run prog w= .ok (.pointer (some ⟨g,off+j * sz,none⟩)) w:=by
  rw[run_indexAt_slice (h:=hk),if_pos ⟨by omega,by omega⟩,he]
  have e2:(Addr.add ⟨g,off,none⟩ ((j:Int).toNat * sz))=⟨g,off+j * sz,none⟩:=by
   rw[Addr.add_mid]
   simp
  show Result.ok (Value.pointer (some (Addr.add ⟨g,off,none⟩ ((j:Int).toNat * sz)))) w=_
  rw[e2]
 unfold execOp
 simp only[ho,hx,hix]
 simp[h1]
def orE:List Int->Int
 | []=>0
 |e::l=>if e=0 then orE l else e
theorem Zbn: ∀(l:List Int) (i:Nat) (e:Int),(∀j u,j<i->l[j]? =some u->u=0)->l[i]? =some e->e≠0->orE l=e
 | [],i,e,_,h,_=>by simp at h
 |x::l,0,e,_,h,h0=>by
  obtain rfl:x=e:=by simpa using h
  simp[orE,h0]
 |x::l,i+1,e,ha,h,h0=>by
  have hx:x=0:=ha 0 x (by omega) rfl
  simp only[orE,hx,if_true]
  exact Zbn l i e (fun j u hj hu=>ha (j+1) u (by omega) (by simpa using hu)) (by simpa using h) h0
theorem Zu: ∀(l:List Int),(∀j u,j<l.length->l[j]? =some u->u=0)->orE l=0
 | [],_=>rfl
 |x::l,ha=>by
  have hx:x=0:=ha 0 x (by simp) rfl
  simp only[orE,hx,if_true]
  exact Zu l (fun j u hj hu=>ha (j+1) u (by simpa using hj) (by simpa using hu))
def Lq (l:List Int):List Value:=l.map (fun e=> .int .i64 e)
def ReadsV (w:World) (A:Option Addr) (l:List VV):Prop:= ∀(j:Nat) (v:VV),l[j]? =some v-> ∃b off,A=some ⟨b,off,none⟩/\b<w.heap.size/\w.rangeAt b (off+j * 5) v.cs
theorem Kh {w X:World} {b p:Nat} {cs:List Value} (h:w.rangeAt b p cs) (hb:b<w.heap.size) (k:Below w.heap.size w X):X.rangeAt b p cs:=fun j v hv=>by
 have e:=h j v hv
 have h1:=k.block b hb
 unfold World.cell? at e ⊢
 dsimp only at e ⊢
 rw[h1]
 exact e
theorem Zcv (h:HP) (o:Int) (w:World) (H:h.Is w) (hl:h.l.length<=65536):Calls prog 84 #[.pointer (some ⟨h.b,0,none⟩), .int .i64 o] w fun e w'=>e= .returned (.tuple #[.nilIface, .int .i64 8])/\w'=w:=by
 obtain⟨z,hz⟩: ∃z,Qw o h.l.length=z:=⟨_,rfl⟩
 have HA:=Zaj h o w H
 rw[hz] at HA
 cases z
 ·go_enter func84,ntmps84
  go_wp2_with fail
  refine HA.mono ?_
  rintro _ _ ⟨rfl,rfl⟩
  go_wp2
  go_ret2
  exact⟨rfl,rfl⟩
 ·obtain⟨j,q,ho,hj⟩:=Zai hz
  have HT:=Qn h j q w H hj hl
  rw[←ho] at HT
  have HO:=Ac (H.ob hj).1
  clear ho
  go_enter func84,ntmps84
  go_wp2_with fail
  refine HA.mono ?_
  rintro _ _ ⟨rfl,rfl⟩
  go_wp2_with fail
  refine HT.mono ?_
  rintro _ _ ⟨rfl,rfl⟩
  go_wp2_with (first|go_skip|((with_reducible show wpList ..);first|(refine rd rfl (Aj 102 isAgg102 rfl rfl (Aa HO) rfl) ?_)))
  go_ret2
  exact⟨rfl,rfl⟩
theorem ZaB (h:HP) (o:Int) (w:World) (H:h.Is w) (hl:h.l.length<=65536):Calls prog 66 #[.pointer (some ⟨h.b,0,none⟩), .int .i64 o] w fun e w'=>e= .returned (.int .i64 8)/\w'=w:=by
 have HA:=Zcv h o w H hl
 clear H
 go_enter func66,ntmps66
 go_wp2_with fail
 refine HA.mono ?_
 rintro _ _ ⟨rfl,rfl⟩
 go_wp2
 go_ret
 exact⟨rfl,rfl⟩
theorem Ky {o:Oper} {a:Act} {w:World} {x y:Operand} {n m:Int} (ho:o.op= .binOp .neq 32 x y 32) (hx:a.eval x= .int .i64 n) (hc:a.eval y= .int .i64 m) (h:n≠m):(execOp a.eval o).run prog w= .ok (.value (.bool true)) w:=by
 unfold execOp
 simp only[ho,hx,hc]
 simp[go_sem,eqGuard,h]
theorem Kz {o:Oper} {a:Act} {w:World} {x y:Operand} {n m:Int} (ho:o.op= .binOp .neq 32 x y 32) (hx:a.eval x= .int .i64 n) (hc:a.eval y= .int .i64 m) (h:n=m):(execOp a.eval o).run prog w= .ok (.value (.bool false)) w:=by
 unfold execOp
 simp only[ho,hx,hc]
 simp[go_sem,eqGuard,h]
theorem Dc (B c:Nat) (es:List Int) (w:World) (hR:Holds w B (Lq es)) (hz:es.length<=100):Calls prog 20 #[.slice (some ⟨B,0,none⟩) es.length c] w fun e w'=>e= .returned (.int .i64 (orE es))/\w'=w:=by
 have HR:=Ac hR
 have HZ:=Ac hz
 clear hR hz
 go_enter func20,ntmps20
 go_wp2_with (first|go_skip|((with_reducible show wpList ..);first|(refine rd rfl (Dj 100 32 underlying100 rfl rfl) ?_)))
 go_loopg [8] es.length (fun gm s8 wr=> ∃i:Nat,s8= .int .i64 (i:Nat)/\i<=es.length/\es.length - i<=gm/\Hid (∀j u,j<i->es[j]? =some u->u=0)/\wr=w)
 case atStart=>exact⟨0,rfl,by omega,by omega,Ac (fun j v hj=>by omega),rfl⟩
 case round=>
  obtain⟨i,rfl,hil,hgm,HD,rfl⟩:=hrel
  by_cases hlt:i<es.length
  ·have dlt:decide ((i:Int)<(es.length:Int))=true:=decide_eq_true (by omega)
   have hw1:IntKind.i64.wrap ((i:Int)+1)=(i:Int)+1:=by have:=Aa HZ;rw[IntKind.wrap_i64];omega
   obtain⟨e,he⟩: ∃e,es[i]? =some e:=⟨_,List.getElem?_eq_getElem hlt⟩
   have HC:Hid (wr.cell? ⟨B,0+i * 1,none⟩=some (.int .i64 e)):=Ac (by
    have:=(Aa HR).cell i (v:= .int .i64 e) (by unfold Lq;rw[List.getElem?_map,he];rfl)
    rw[Nat.zero_add,Nat.mul_one]
    exact this)
   have HLT:=Ac hlt
   clear hlt hil
   by_cases h0:e=0
   ·have HD2:Hid (∀j u,j<i+1->es[j]? =some u->u=0):=Ac (fun j u hj hu=>by
     rcases Nat.lt_or_ge j i with h|h
     ·exact Aa HD j u h hu
     ·obtain rfl:j=i:=by omega
      exact(Option.some.inj (he.symm.trans hu))▸h0)
    clear he HD
    go_wp2_with (first|go_skip|((with_reducible show wpList ..);first|(refine rd rfl (Dj 100 32 underlying100 rfl rfl) ?_)|(refine rd rfl (Ds 100 1 i unEs idEs rfl rfl rfl (Aa HLT)) ?_)|(refine rd rfl (Ka 32 isAgg32 rfl rfl (Aa HC)) ?_)|(refine rd rfl (Kz rfl rfl rfl h0) ?_)))
    go_roundg (es.length - (i+1))
    case measure=>have:=Aa HLT;omega
    case rel=>exact⟨i+1,by go_num,by have:=Aa HLT;omega,by omega,HD2,rfl⟩
   ·have HE:Hid (orE es=e):=Ac (Zbn es i e (Aa HD) he h0)
    clear he HD
    go_wp2_with (first|go_skip|((with_reducible show wpList ..);first|(refine rd rfl (Dj 100 32 underlying100 rfl rfl) ?_)|(refine rd rfl (Ds 100 1 i unEs idEs rfl rfl rfl (Aa HLT)) ?_)|(refine rd rfl (Ka 32 isAgg32 rfl rfl (Aa HC)) ?_)|(refine rd rfl (Ky rfl rfl rfl h0) ?_)))
    go_ret
    exact⟨by rw[Aa HE];rfl,rfl⟩
  ·obtain rfl:i=es.length:=by omega
   have HE:Hid (orE es=0):=Ac (Zu es (Aa HD))
   clear hlt hil HD
   go_wp2
   go_ret
   exact⟨by rw[Aa HE];rfl,rfl⟩
theorem Ko {f:VV->Bool} {l:List VV} {i:Nat} {v:VV} (hv:l[i]? =some v) (hf:f v=false):l.all f=false:=by
 rw[List.all_eq_false]
 exact⟨v,List.mem_of_getElem? hv,by simp[hf]⟩
theorem Lu {f:VV->Bool} {l:List VV} (h: ∀j v,j<l.length->l[j]? =some v->f v=true):l.all f=true:=by
 rw[List.all_eq_true]
 intro v hv
 obtain⟨j,hj⟩:=List.getElem?_of_mem hv
 exact h j v (List.getElem?_eq_some_iff.1 hj).1 hj
def Gz (n:Nat) (v:VV):Bool:= !(v.k==7)||Qw v.i n
def By (n:Nat) (vs:List VV):Int:=if vs.all (Gz n) then 0 else 4
def Af (vs:List VV):Int:=if vs.all VV.good then 0 else 5
def Ru (v:VV):Bool:= !(v.k==7)
def Gq (vs:List VV):Int:=if vs.all Ru then 0 else 8
theorem Rd (h:HP) (B:Option Addr) (c:Nat) (vs:List VV) (w:World) (H:h.Is w) (hR:ReadsV w B vs) (hz:vs.length<=1000000):Calls prog 39 #[.pointer (some ⟨h.b,0,none⟩), .slice B vs.length c] w fun e w'=>e= .returned (.int .i64 (By h.l.length vs))/\Below w.heap.size w w':=by
 have SS:=Ac (Sy.nil w [])
 have HH:=Ac H
 clear H
 have HR:=Ac hR
 have HZ:=Ac hz
 clear hR hz
 go_enter func39,ntmps39
 go_wp2_with (first|go_skip|((with_reducible show wpList ..);first|(refine rd rfl (Dj 22 26 underlying22 rfl rfl) ?_)))
 go_loopg [9] vs.length (fun gm s9 wr=> ∃i:Nat,s9= .int .i64 (i:Nat)/\i<=vs.length/\vs.length - i<=gm/\Hid (∀j v,j<i->vs[j]? =some v->Gz h.l.length v=true)/\Hid (Sy w wr [] []))
 case atStart=>exact⟨0,rfl,by omega,by omega,Ac (fun j v hj=>by omega),SS⟩
 case round=>
  clear SS
  obtain⟨i,rfl,hil,hgm,HD,SS⟩:=hrel
  by_cases hlt:i<vs.length
  ·have dlt:decide ((i:Int)<(vs.length:Int))=true:=decide_eq_true (by omega)
   have hw1:IntKind.i64.wrap ((i:Int)+1)=(i:Int)+1:=by have:=Aa HZ;rw[IntKind.wrap_i64];omega
   obtain⟨v,hv⟩: ∃v,vs[i]? =some v:=⟨_,List.getElem?_eq_getElem hlt⟩
   obtain⟨b,off,hA,hb,hrg⟩:=(Aa HR) i v hv
   subst hA
   have HA2:Hid (∀X,Below w.heap.size w X->X.rangeAt b (off+i * 5) v.cs):=Ac (fun X hX=>Kh hrg hb hX)
   have HLT:=Ac hlt
   clear hb hrg hlt hil
   by_cases hk:v.k=7
   ·obtain⟨z,hz⟩: ∃z,Qw v.i h.l.length=z:=⟨_,rfl⟩
    cases z
    ·have HFA:Hid (vs.all (Gz h.l.length)=false):=Ac (Ko hv (by unfold Gz;rw[hz];simp[hk]))
     go_wp2_with (first|go_skip|((with_reducible show wpList ..);first|(refine rd rfl (Dj 22 26 underlying22 rfl rfl) ?_)|(refine rd rfl (Ds 22 5 i Oy Pq rfl rfl rfl (Aa HLT)) ?_)|(refine rd rfl (Ev (vs:=v.cs) 26 5 rwV szV rfl rfl (Aa HA2 _ (Aa SS).fr.below) rfl) ?_)|(refine zA 26 (Bz.cs) (by rfl) rfl SS ?_;clear SS;intro X3 B3 SS;simp only[nn])|(refine zS (v.cs) 0 26 (by rfl) rfl rfl rfl rfl (Eb v) szV SS rfl ?_;clear SS;intro X4 SS;simp only[nn])|(refine rd rfl (Aj 3 isAgg3 rfl rfl ((Aa SS).hold 0 rfl) rfl) ?_)|(refine zL (v.cs) 26 5 0 rwV szV (by rfl) rfl rfl SS rfl rfl rfl ?_;simp only[nn])|(refine rd rfl (Ng rfl rfl rfl hk) ?_)))
     have HO:=Zaj h v.i _ ((Aa HH).on (Aa SS).fr.below)
     rw[hz] at HO
     refine HO.mono ?_
     rintro e X5 ⟨rfl,rfl⟩
     go_wp2
     go_ret
     exact⟨by unfold By;rw[Aa HFA];rfl,(Aa SS).fr.below⟩
    ·have HD2:Hid (∀j u,j<i+1->vs[j]? =some u->Gz h.l.length u=true):=Ac (fun j u hj hu=>by
      rcases Nat.lt_or_ge j i with h|h
      ·exact Aa HD j u h hu
      ·obtain rfl:j=i:=by omega
       obtain rfl:v=u:=Option.some.inj (hv.symm.trans hu)
       exact(by unfold Gz;rw[hz];simp))
     clear HD
     go_wp2_with (first|go_skip|((with_reducible show wpList ..);first|(refine rd rfl (Dj 22 26 underlying22 rfl rfl) ?_)|(refine rd rfl (Ds 22 5 i Oy Pq rfl rfl rfl (Aa HLT)) ?_)|(refine rd rfl (Ev (vs:=v.cs) 26 5 rwV szV rfl rfl (Aa HA2 _ (Aa SS).fr.below) rfl) ?_)|(refine zA 26 (Bz.cs) (by rfl) rfl SS ?_;clear SS;intro X3 B3 SS;simp only[nn])|(refine zS (v.cs) 0 26 (by rfl) rfl rfl rfl rfl (Eb v) szV SS rfl ?_;clear SS;intro X4 SS;simp only[nn])|(refine rd rfl (Aj 3 isAgg3 rfl rfl ((Aa SS).hold 0 rfl) rfl) ?_)|(refine zL (v.cs) 26 5 0 rwV szV (by rfl) rfl rfl SS rfl rfl rfl ?_;simp only[nn])|(refine rd rfl (Ng rfl rfl rfl hk) ?_)))
     have HO:=Zaj h v.i _ ((Aa HH).on (Aa SS).fr.below)
     rw[hz] at HO
     refine HO.mono ?_
     rintro e X5 ⟨rfl,rfl⟩
     replace SS:=Ac (Sy.left (L:= []) (M:= [_]) (Aa SS))
     go_wp2
     go_roundg (vs.length - (i+1))
     case measure=>have:=Aa HLT;omega
     case rel=>exact⟨i+1,by go_num,by have:=Aa HLT;omega,by omega,HD2,SS⟩
   ·have HD2:Hid (∀j u,j<i+1->vs[j]? =some u->Gz h.l.length u=true):=Ac (fun j u hj hu=>by
     rcases Nat.lt_or_ge j i with h|h
     ·exact Aa HD j u h hu
     ·obtain rfl:j=i:=by omega
      obtain rfl:v=u:=Option.some.inj (hv.symm.trans hu)
      exact(by unfold Gz;simp[hk]))
    clear HD
    go_wp2_with (first|go_skip|((with_reducible show wpList ..);first|(refine rd rfl (Dj 22 26 underlying22 rfl rfl) ?_)|(refine rd rfl (Ds 22 5 i Oy Pq rfl rfl rfl (Aa HLT)) ?_)|(refine rd rfl (Ev (vs:=v.cs) 26 5 rwV szV rfl rfl (Aa HA2 _ (Aa SS).fr.below) rfl) ?_)|(refine zA 26 (Bz.cs) (by rfl) rfl SS ?_;clear SS;intro X3 B3 SS;simp only[nn])|(refine zS (v.cs) 0 26 (by rfl) rfl rfl rfl rfl (Eb v) szV SS rfl ?_;clear SS;intro X4 SS;simp only[nn])|(refine rd rfl (Aj 3 isAgg3 rfl rfl ((Aa SS).hold 0 rfl) rfl) ?_)|(refine zL (v.cs) 26 5 0 rwV szV (by rfl) rfl rfl SS rfl rfl rfl ?_;simp only[nn])|(refine rd rfl (Pw rfl rfl rfl hk) ?_)))
    replace SS:=Ac (Sy.left (L:= []) (M:= [_]) (Aa SS))
    go_wp2
    go_roundg (vs.length - (i+1))
    case measure=>have:=Aa HLT;omega
    case rel=>exact⟨i+1,by go_num,by have:=Aa HLT;omega,by omega,HD2,SS⟩
  ·obtain rfl:i=vs.length:=by omega
   have HTA:Hid (vs.all (Gz h.l.length)=true):=Ac (Lu (fun j v hj hv=>Aa HD j v hj hv))
   clear hlt hil HD
   go_wp2_with (first|go_skip|((with_reducible show wpList ..);first|(refine rd rfl (Dj 22 26 underlying22 rfl rfl) ?_)))
   go_ret
   exact⟨by unfold By;rw[Aa HTA];rfl,(Aa SS).fr.below⟩
theorem Zbk (B:Option Addr) (c:Nat) (vs:List VV) (w:World) (hT:Lib.Utf8Tabs 4 5 w) (hR:ReadsV w B vs) (hz:vs.length<=1000000):Calls prog 44 #[.slice B vs.length c] w fun e w'=>e= .returned (.int .i64 (Af vs))/\Below w.heap.size w w':=by
 have SS:=Ac (Sy.nil w [])
 have HT:=Ac hT
 clear hT
 have HR:=Ac hR
 have HZ:=Ac hz
 clear hR hz
 go_enter func44,ntmps44
 go_wp2_with (first|go_skip|((with_reducible show wpList ..);first|(refine rd rfl (Dj 22 26 underlying22 rfl rfl) ?_)))
 go_loopg [8] vs.length (fun gm s9 wr=> ∃i:Nat,s9= .int .i64 (i:Nat)/\i<=vs.length/\vs.length - i<=gm/\Hid (∀j v,j<i->vs[j]? =some v->VV.good v=true)/\Hid (Sy w wr [] []))
 case atStart=>exact⟨0,rfl,by omega,by omega,Ac (fun j v hj=>by omega),SS⟩
 case round=>
  clear SS
  obtain⟨i,rfl,hil,hgm,HD,SS⟩:=hrel
  by_cases hlt:i<vs.length
  ·have dlt:decide ((i:Int)<(vs.length:Int))=true:=decide_eq_true (by omega)
   have hw1:IntKind.i64.wrap ((i:Int)+1)=(i:Int)+1:=by have:=Aa HZ;rw[IntKind.wrap_i64];omega
   obtain⟨v,hv⟩: ∃v,vs[i]? =some v:=⟨_,List.getElem?_eq_getElem hlt⟩
   obtain⟨b,off,hA,hb,hrg⟩:=(Aa HR) i v hv
   subst hA
   have HA2:Hid (∀X,Below w.heap.size w X->X.rangeAt b (off+i * 5) v.cs):=Ac (fun X hX=>Kh hrg hb hX)
   have HLT:=Ac hlt
   clear hb hrg hlt hil
   obtain⟨z,hz⟩: ∃z,v.good=z:=⟨_,rfl⟩
   cases z
   ·have HFA:Hid (vs.all (VV.good)=false):=Ac (Ko hv hz)
    go_wp2_with (first|go_skip|((with_reducible show wpList ..);first|(refine rd rfl (Dj 22 26 underlying22 rfl rfl) ?_)|(refine rd rfl (Ds 22 5 i Oy Pq rfl rfl rfl (Aa HLT)) ?_)|(refine rd rfl (Ev (vs:=v.cs) 26 5 rwV szV rfl rfl (Aa HA2 _ (Aa SS).fr.below) rfl) ?_)|(refine zA 26 (Bz.cs) (by rfl) rfl SS ?_;clear SS;intro X3 B3 SS;simp only[nn])|(refine zS (v.cs) 0 26 (by rfl) rfl rfl rfl rfl (Eb v) szV SS rfl ?_;clear SS;intro X4 SS;simp only[nn])|(refine rd rfl (Aj 3 isAgg3 rfl rfl ((Aa SS).hold 0 rfl) rfl) ?_)|(refine zL (v.cs) 26 5 0 rwV szV (by rfl) rfl rfl SS rfl rfl rfl ?_;simp only[nn])))
    have HO:=Jf v _ (Bf (Aa HT) (Aa SS).fr.below)
    rw[Dk] at HO
    refine HO.mono ?_
    rintro e X5 ⟨rfl,hb5⟩
    replace SS:=Ac ((Aa SS).on hb5)
    clear hb5 HO
    rw[show Ql v.good=5 by rw[hz];rfl]
    go_wp2
    go_ret
    exact⟨by unfold Af;rw[Aa HFA];rfl,(Aa SS).fr.below⟩
   ·have HD2:Hid (∀j u,j<i+1->vs[j]? =some u->VV.good u=true):=Ac (fun j u hj hu=>by
     rcases Nat.lt_or_ge j i with h|h
     ·exact Aa HD j u h hu
     ·obtain rfl:j=i:=by omega
      obtain rfl:v=u:=Option.some.inj (hv.symm.trans hu)
      exact hz)
    clear HD
    go_wp2_with (first|go_skip|((with_reducible show wpList ..);first|(refine rd rfl (Dj 22 26 underlying22 rfl rfl) ?_)|(refine rd rfl (Ds 22 5 i Oy Pq rfl rfl rfl (Aa HLT)) ?_)|(refine rd rfl (Ev (vs:=v.cs) 26 5 rwV szV rfl rfl (Aa HA2 _ (Aa SS).fr.below) rfl) ?_)|(refine zA 26 (Bz.cs) (by rfl) rfl SS ?_;clear SS;intro X3 B3 SS;simp only[nn])|(refine zS (v.cs) 0 26 (by rfl) rfl rfl rfl rfl (Eb v) szV SS rfl ?_;clear SS;intro X4 SS;simp only[nn])|(refine rd rfl (Aj 3 isAgg3 rfl rfl ((Aa SS).hold 0 rfl) rfl) ?_)|(refine zL (v.cs) 26 5 0 rwV szV (by rfl) rfl rfl SS rfl rfl rfl ?_;simp only[nn])))
    have HO:=Jf v _ (Bf (Aa HT) (Aa SS).fr.below)
    rw[Dk] at HO
    refine HO.mono ?_
    rintro e X5 ⟨rfl,hb5⟩
    replace SS:=Ac ((Aa SS).on hb5)
    clear hb5 HO
    rw[show Ql v.good=0 by rw[hz];rfl]
    replace SS:=Ac (Sy.left (L:= []) (M:= [_]) (Aa SS))
    go_wp2
    go_roundg (vs.length - (i+1))
    case measure=>have:=Aa HLT;omega
    case rel=>exact⟨i+1,by go_num,by have:=Aa HLT;omega,by omega,HD2,SS⟩
  ·obtain rfl:i=vs.length:=by omega
   have HTA:Hid (vs.all (VV.good)=true):=Ac (Lu (fun j v hj hv=>Aa HD j v hj hv))
   clear hlt hil HD
   go_wp2_with (first|go_skip|((with_reducible show wpList ..);first|(refine rd rfl (Dj 22 26 underlying22 rfl rfl) ?_)))
   go_ret
   exact⟨by unfold Af;rw[Aa HTA];rfl,(Aa SS).fr.below⟩
theorem acc_h (h:HP) (B:Option Addr) (c:Nat) (vs:List VV) (w:World) (H:h.Is w) (hl:h.l.length<=65536) (hR:ReadsV w B vs) (hz:vs.length<=1000000):Calls prog 40 #[.pointer (some ⟨h.b,0,none⟩), .slice B vs.length c] w fun e w'=>e= .returned (.int .i64 (Gq vs))/\Below w.heap.size w w':=by
 have SS:=Ac (Sy.nil w [])
 have HH:=Ac H
 clear H
 have HR:=Ac hR
 have HZ:=Ac hz
 clear hR hz
 go_enter func40,ntmps40
 go_wp2_with (first|go_skip|((with_reducible show wpList ..);first|(refine rd rfl (Dj 22 26 underlying22 rfl rfl) ?_)))
 go_loopg [9] vs.length (fun gm s9 wr=> ∃i:Nat,s9= .int .i64 (i:Nat)/\i<=vs.length/\vs.length - i<=gm/\Hid (∀j v,j<i->vs[j]? =some v->Ru v=true)/\Hid (Sy w wr [] []))
 case atStart=>exact⟨0,rfl,by omega,by omega,Ac (fun j v hj=>by omega),SS⟩
 case round=>
  clear SS
  obtain⟨i,rfl,hil,hgm,HD,SS⟩:=hrel
  by_cases hlt:i<vs.length
  ·have dlt:decide ((i:Int)<(vs.length:Int))=true:=decide_eq_true (by omega)
   have hw1:IntKind.i64.wrap ((i:Int)+1)=(i:Int)+1:=by have:=Aa HZ;rw[IntKind.wrap_i64];omega
   obtain⟨v,hv⟩: ∃v,vs[i]? =some v:=⟨_,List.getElem?_eq_getElem hlt⟩
   obtain⟨b,off,hA,hb,hrg⟩:=(Aa HR) i v hv
   subst hA
   have HA2:Hid (∀X,Below w.heap.size w X->X.rangeAt b (off+i * 5) v.cs):=Ac (fun X hX=>Kh hrg hb hX)
   have HLT:=Ac hlt
   clear hb hrg hlt hil
   by_cases hk:v.k=7
   ·have HFA:Hid (vs.all (Ru)=false):=Ac (Ko hv (by unfold Ru;simp[hk]))
    go_wp2_with (first|go_skip|((with_reducible show wpList ..);first|(refine rd rfl (Dj 22 26 underlying22 rfl rfl) ?_)|(refine rd rfl (Ds 22 5 i Oy Pq rfl rfl rfl (Aa HLT)) ?_)|(refine rd rfl (Ev (vs:=v.cs) 26 5 rwV szV rfl rfl (Aa HA2 _ (Aa SS).fr.below) rfl) ?_)|(refine zA 26 (Bz.cs) (by rfl) rfl SS ?_;clear SS;intro X3 B3 SS;simp only[nn])|(refine zS (v.cs) 0 26 (by rfl) rfl rfl rfl rfl (Eb v) szV SS rfl ?_;clear SS;intro X4 SS;simp only[nn])|(refine rd rfl (Aj 3 isAgg3 rfl rfl ((Aa SS).hold 0 rfl) rfl) ?_)|(refine zL (v.cs) 26 5 0 rwV szV (by rfl) rfl rfl SS rfl rfl rfl ?_;simp only[nn])|(refine rd rfl (Ng rfl rfl rfl hk) ?_)))
    refine(ZaB h v.i _ ((Aa HH).on (Aa SS).fr.below) hl).mono ?_
    rintro e X5 ⟨rfl,rfl⟩
    go_wp2
    go_ret
    exact⟨by unfold Gq;rw[Aa HFA];rfl,(Aa SS).fr.below⟩
   ·have HD2:Hid (∀j u,j<i+1->vs[j]? =some u->Ru u=true):=Ac (fun j u hj hu=>by
     rcases Nat.lt_or_ge j i with h|h
     ·exact Aa HD j u h hu
     ·obtain rfl:j=i:=by omega
      obtain rfl:v=u:=Option.some.inj (hv.symm.trans hu)
      exact(by unfold Ru;simp[hk]))
    clear HD
    go_wp2_with (first|go_skip|((with_reducible show wpList ..);first|(refine rd rfl (Dj 22 26 underlying22 rfl rfl) ?_)|(refine rd rfl (Ds 22 5 i Oy Pq rfl rfl rfl (Aa HLT)) ?_)|(refine rd rfl (Ev (vs:=v.cs) 26 5 rwV szV rfl rfl (Aa HA2 _ (Aa SS).fr.below) rfl) ?_)|(refine zA 26 (Bz.cs) (by rfl) rfl SS ?_;clear SS;intro X3 B3 SS;simp only[nn])|(refine zS (v.cs) 0 26 (by rfl) rfl rfl rfl rfl (Eb v) szV SS rfl ?_;clear SS;intro X4 SS;simp only[nn])|(refine rd rfl (Aj 3 isAgg3 rfl rfl ((Aa SS).hold 0 rfl) rfl) ?_)|(refine zL (v.cs) 26 5 0 rwV szV (by rfl) rfl rfl SS rfl rfl rfl ?_;simp only[nn])|(refine rd rfl (Pw rfl rfl rfl hk) ?_)))
    replace SS:=Ac (Sy.left (L:= []) (M:= [_]) (Aa SS))
    go_wp2
    go_roundg (vs.length - (i+1))
    case measure=>have:=Aa HLT;omega
    case rel=>exact⟨i+1,by go_num,by have:=Aa HLT;omega,by omega,HD2,SS⟩
  ·obtain rfl:i=vs.length:=by omega
   have HTA:Hid (vs.all (Ru)=true):=Ac (Lu (fun j v hj hv=>Aa HD j v hj hv))
   clear hlt hil HD
   go_wp2_with (first|go_skip|((with_reducible show wpList ..);first|(refine rd rfl (Dj 22 26 underlying22 rfl rfl) ?_)))
   go_ret
   exact⟨by unfold Gq;rw[Aa HTA];rfl,(Aa SS).fr.below⟩
