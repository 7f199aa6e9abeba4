import Derived.Test.YtieahhciibdnaaaGreatDoorQz
set_option linter.all false
namespace Go.Proofs.YtieahhciibdnaaaGreatDoor
set_option maxRecDepth 100000
set_option maxHeartbeats 0
section
open Go Go.Proofs Go.Maps Go.RowKit FM Tryz
attribute [local go_sem] Ak Ae Aq Dl Dk Bl Af Aj Ad Bj Et Es
theorem Dy {o:Oper} {a:Act} {W:World} {x:Operand} {B p:Nat} {vs:List Value} (t:TypeId) (n:Nat) (hu: ∃d,prog.underlying t=some d/\d.isRow=true) (hi:(prog.info? t).map (·.size)=some n) (ho:o.op= .load t x) (hx:a.eval x= .pointer (some ⟨B,p,none⟩)) (h0:W.rangeAt B p vs) (hn:vs.length=n):(execOp a.eval o).run prog W= .ok (.value (.agg vs.toArray)) W:=by
 obtain⟨d,hu,hd⟩:=hu
 unfold execOp
 simp only[ho,hx,Instr.loadAt,Instr.sureAddr,Sem.run_bind,Sem.run_pure,Result.andThen_ok,run_loadVar_mid W B p t vs d h0 hu hd (by rw[hi,hn])]
theorem Zbe {w:World} {b p:Nat} {a c:List Value} (h:w.rangeAt b p (a++c)):w.rangeAt b (p+a.length) c:=fun j v hv=>by
 have:=h (a.length+j) v (by rw[List.getElem?_append_right (by omega)];simpa using hv)
 rwa [←Nat.add_assoc] at this
theorem Bp {o:Oper} {a:Act} {w:World} {x ix:Operand} {g off n cap:Nat} (t:TypeId) (sz j:Nat) (hk:prog.underlying t=some (.slice (prog.elem t))) (he: ∀w,(sizeOf (prog.elem t)).run prog w= .ok sz w) (ho:o.op= .indexAddr t x ix) (hx:a.eval x= .slice (some ⟨g,off,none⟩) n cap) (hix:a.eval ix= .int .i64 (j:Nat)) (hj:j<n):(execOp a.eval o).run prog w= .ok (.value (.pointer (some ⟨g,off+j * sz,none⟩))) w:=by
 have h1:(Instr.indexAt t (.slice (some ⟨g,off,none⟩) n cap) (.int .i64 (j:Nat))).run prog w= .ok (.pointer (some ⟨g,off+j * sz,none⟩)) w:=by
  rw[run_indexAt_slice (h:=hk),if_pos ⟨by omega,by omega⟩,he]
  have e2:(Addr.add ⟨g,off,none⟩ ((j:Int).toNat * sz))=⟨g,off+j * sz,none⟩:=by
   rw[Addr.add_mid]
   simp
  show Result.ok (Value.pointer (some (Addr.add ⟨g,off,none⟩ ((j:Int).toNat * sz)))) w=_
  rw[e2]
 unfold execOp
 simp only[ho,hx,hix]
 simp[h1]
def orE:List Int->Int
 | []=>0
 |e::l=>if e=0 then orE l else e
theorem Zc0: ∀(l:List Int) (i:Nat) (e:Int),(∀j u,j<i->l[j]? =some u->u=0)->l[i]? =some e->e≠0->orE l=e
 | [],i,e,_,h,_=>by simp at h
 |x::l,0,e,_,h,h0=>by
  obtain rfl:x=e:=by simpa using h
  simp[orE,h0]
 |x::l,i+1,e,ha,h,h0=>by
  have hx:x=0:=ha 0 x (by omega) rfl
  simp only[orE,hx,if_true]
  exact Zc0 l i e (fun j u hj hu=>ha (j+1) u (by omega) (by simpa using hu)) (by simpa using h) h0
theorem Zbn: ∀(l:List Int),(∀j u,j<l.length->l[j]? =some u->u=0)->orE l=0
 | [],_=>rfl
 |x::l,ha=>by
  have hx:x=0:=ha 0 x (by simp) rfl
  simp only[orE,hx,if_true]
  exact Zbn l (fun j u hj hu=>ha (j+1) u (by simpa using hj) (by simpa using hu))
def Md (l:List Int):List Value:=l.map (fun e=> .int .i64 e)
def ZaU (w:World) (A:Option Addr) (l:List VV):Prop:= ∀(j:Nat) (v:VV),l[j]? =some v-> ∃b off,A=some ⟨b,off,none⟩/\b<w.heap.size/\w.rangeAt b (off+j * 5) v.cs
theorem Ot {w X:World} {b p:Nat} {cs:List Value} (h:w.rangeAt b p cs) (hb:b<w.heap.size) (k:Below w.heap.size w X):X.rangeAt b p cs:=fun j v hv=>by
 have e:=h j v hv
 have h1:=k.block b hb
 unfold World.cell? at e ⊢
 dsimp only at e ⊢
 rw[h1]
 exact e
theorem Zej (h:HP) (o:Int) (w:World) (H:h.Is w) (hl:h.l.length<=65536):Calls prog 94 #[.pointer (some ⟨h.b,0,none⟩), .int .i64 o] w fun e w'=>e= .returned (.tuple #[.nilIface, .int .i64 8])/\w'=w:=by
 obtain⟨z,hz⟩: ∃z,Rj o h.l.length=z:=⟨_,rfl⟩
 have HA:=ZbF h o w H
 rw[hz] at HA
 cases z
 ·go_enter func94,ntmps94
  go_wp2_with fail
  refine HA.mono ?_
  rintro _ _ ⟨rfl,rfl⟩
  go_wp2
  go_ret2
  exact⟨rfl,rfl⟩
 ·obtain⟨j,q,ho,hj⟩:=ZbE hz
  have HT:=Pf h j q w H hj hl
  rw[←ho] at HT
  have HO:=Ab (H.ob hj).1
  clear ho
  go_enter func94,ntmps94
  go_wp2_with fail
  refine HA.mono ?_
  rintro _ _ ⟨rfl,rfl⟩
  go_wp2_with fail
  refine HT.mono ?_
  rintro _ _ ⟨rfl,rfl⟩
  go_wp2_with (first|go_skip|((with_reducible show wpList ..);first|(refine rd rfl (Ag 118 isAgg118 rfl rfl (Aa HO) rfl) ?_)))
  go_ret2
  exact⟨rfl,rfl⟩
theorem ZbZ (h:HP) (o:Int) (w:World) (H:h.Is w) (hl:h.l.length<=65536):Calls prog 73 #[.pointer (some ⟨h.b,0,none⟩), .int .i64 o] w fun e w'=>e= .returned (.int .i64 8)/\w'=w:=by
 have HA:=Zej h o w H hl
 clear H
 go_enter func73,ntmps73
 go_wp2_with fail
 refine HA.mono ?_
 rintro _ _ ⟨rfl,rfl⟩
 go_wp2
 go_ret
 exact⟨rfl,rfl⟩
theorem Jy {o:Oper} {a:Act} {w:World} {x y:Operand} {n m:Int} (ho:o.op= .binOp .neq 29 x y 29) (hx:a.eval x= .int .i64 n) (hc:a.eval y= .int .i64 m) (h:n≠m):(execOp a.eval o).run prog w= .ok (.value (.bool true)) w:=by
 unfold execOp
 simp only[ho,hx,hc]
 simp[go_sem,eqGuard,h]
theorem Jl {o:Oper} {a:Act} {w:World} {x y:Operand} {n m:Int} (ho:o.op= .binOp .neq 29 x y 29) (hx:a.eval x= .int .i64 n) (hc:a.eval y= .int .i64 m) (h:n=m):(execOp a.eval o).run prog w= .ok (.value (.bool false)) w:=by
 unfold execOp
 simp only[ho,hx,hc]
 simp[go_sem,eqGuard,h]
theorem Lt (B c:Nat) (es:List Int) (w:World) (hR:Holds w B (Md es)) (hz:es.length<=100):Calls prog 39 #[.slice (some ⟨B,0,none⟩) es.length c] w fun e w'=>e= .returned (.int .i64 (orE es))/\w'=w:=by
 have HR:=Ab hR
 have HZ:=Ab hz
 clear hR hz
 go_enter func39,ntmps39
 go_wp2_with (first|go_skip|((with_reducible show wpList ..);first|(refine rd rfl (Bo 144 29 underlying144 rfl rfl) ?_)))
 go_loopg [8] es.length (fun gm s8 wr=> ∃i:Nat,s8= .int .i64 (i:Nat)/\i<=es.length/\es.length - i<=gm/\Hid (∀j u,j<i->es[j]? =some u->u=0)/\wr=w)
 case atStart=>exact⟨0,rfl,by omega,by omega,Ab (fun j v hj=>by omega),rfl⟩
 case round=>
  obtain⟨i,rfl,hil,hgm,HD,rfl⟩:=hrel
  by_cases hlt:i<es.length
  ·have dlt:decide ((i:Int)<(es.length:Int))=true:=decide_eq_true (by omega)
   have hw1:IntKind.i64.wrap ((i:Int)+1)=(i:Int)+1:=by have:=Aa HZ;rw[IntKind.wrap_i64];omega
   obtain⟨e,he⟩: ∃e,es[i]? =some e:=⟨_,List.getElem?_eq_getElem hlt⟩
   have HC:Hid (wr.cell? ⟨B,0+i * 1,none⟩=some (.int .i64 e)):=Ab (by
    have:=(Aa HR).cell i (v:= .int .i64 e) (by unfold Md;rw[List.getElem?_map,he];rfl)
    rw[Nat.zero_add,Nat.mul_one]
    exact this)
   have HLT:=Ab hlt
   clear hlt hil
   by_cases h0:e=0
   ·have HD2:Hid (∀j u,j<i+1->es[j]? =some u->u=0):=Ab (fun j u hj hu=>by
     rcases Nat.lt_or_ge j i with h|h
     ·exact Aa HD j u h hu
     ·obtain rfl:j=i:=by omega
      exact(Option.some.inj (he.symm.trans hu))▸h0)
    clear he HD
    go_wp2_with (first|go_skip|((with_reducible show wpList ..);first|(refine rd rfl (Bo 144 29 underlying144 rfl rfl) ?_)|(refine rd rfl (Bp 144 1 i unEs idEs rfl rfl rfl (Aa HLT)) ?_)|(refine rd rfl (Dc 29 isAgg29 rfl rfl (Aa HC)) ?_)|(refine rd rfl (Jl rfl rfl rfl h0) ?_)))
    go_roundg (es.length - (i+1))
    case measure=>have:=Aa HLT;omega
    case rel=>exact⟨i+1,by go_num,by have:=Aa HLT;omega,by omega,HD2,rfl⟩
   ·have HE:Hid (orE es=e):=Ab (Zc0 es i e (Aa HD) he h0)
    clear he HD
    go_wp2_with (first|go_skip|((with_reducible show wpList ..);first|(refine rd rfl (Bo 144 29 underlying144 rfl rfl) ?_)|(refine rd rfl (Bp 144 1 i unEs idEs rfl rfl rfl (Aa HLT)) ?_)|(refine rd rfl (Dc 29 isAgg29 rfl rfl (Aa HC)) ?_)|(refine rd rfl (Jy rfl rfl rfl h0) ?_)))
    go_ret
    exact⟨by rw[Aa HE];rfl,rfl⟩
  ·obtain rfl:i=es.length:=by omega
   have HE:Hid (orE es=0):=Ab (Zbn es (Aa HD))
   clear hlt hil HD
   go_wp2
   go_ret
   exact⟨by rw[Aa HE];rfl,rfl⟩
theorem Ph {f:VV->Bool} {l:List VV} {i:Nat} {v:VV} (hv:l[i]? =some v) (hf:f v=false):l.all f=false:=by
 rw[List.all_eq_false]
 exact⟨v,List.mem_of_getElem? hv,by simp[hf]⟩
theorem Rx {f:VV->Bool} {l:List VV} (h: ∀j v,j<l.length->l[j]? =some v->f v=true):l.all f=true:=by
 rw[List.all_eq_true]
 intro v hv
 obtain⟨j,hj⟩:=List.getElem?_of_mem hv
 exact h j v (List.getElem?_eq_some_iff.1 hj).1 hj
def Lb (n:Nat) (v:VV):Bool:= !(v.k==7)||Rj v.i n
def Ap (n:Nat) (vs:List VV):Int:=if vs.all (Lb n) then 0 else 4
def Aw (vs:List VV):Int:=if vs.all VV.good then 0 else 5
def Vu (v:VV):Bool:= !(v.k==7)
def Gj (vs:List VV):Int:=if vs.all Vu then 0 else 8
theorem Ny (h:HP) (B:Option Addr) (c:Nat) (vs:List VV) (w:World) (H:h.Is w) (hR:ZaU w B vs) (hz:vs.length<=1000000):Calls prog 36 #[.pointer (some ⟨h.b,0,none⟩), .slice B vs.length c] w fun e w'=>e= .returned (.int .i64 (Ap h.l.length vs))/\Below w.heap.size w w':=by
 have SS:=Ab (Sy.nil w [])
 have HH:=Ab H
 clear H
 have HR:=Ab hR
 have HZ:=Ab hz
 clear hR hz
 go_enter func36,ntmps36
 go_wp2_with (first|go_skip|((with_reducible show wpList ..);first|(refine rd rfl (Bo 139 26 underlying139 rfl rfl) ?_)))
 go_loopg [9] vs.length (fun gm s9 wr=> ∃i:Nat,s9= .int .i64 (i:Nat)/\i<=vs.length/\vs.length - i<=gm/\Hid (∀j v,j<i->vs[j]? =some v->Lb h.l.length v=true)/\Hid (Sy w wr [] []))
 case atStart=>exact⟨0,rfl,by omega,by omega,Ab (fun j v hj=>by omega),SS⟩
 case round=>
  clear SS
  obtain⟨i,rfl,hil,hgm,HD,SS⟩:=hrel
  by_cases hlt:i<vs.length
  ·have dlt:decide ((i:Int)<(vs.length:Int))=true:=decide_eq_true (by omega)
   have hw1:IntKind.i64.wrap ((i:Int)+1)=(i:Int)+1:=by have:=Aa HZ;rw[IntKind.wrap_i64];omega
   obtain⟨v,hv⟩: ∃v,vs[i]? =some v:=⟨_,List.getElem?_eq_getElem hlt⟩
   obtain⟨b,off,hA,hb,hrg⟩:=(Aa HR) i v hv
   subst hA
   have HA2:Hid (∀X,Below w.heap.size w X->X.rangeAt b (off+i * 5) v.cs):=Ab (fun X hX=>Ot hrg hb hX)
   have HLT:=Ab hlt
   clear hb hrg hlt hil
   by_cases hk:v.k=7
   ·obtain⟨z,hz⟩: ∃z,Rj v.i h.l.length=z:=⟨_,rfl⟩
    cases z
    ·have HFA:Hid (vs.all (Lb h.l.length)=false):=Ab (Ph hv (by unfold Lb;rw[hz];simp[hk]))
     go_wp2_with (first|go_skip|((with_reducible show wpList ..);first|(refine rd rfl (Bo 139 26 underlying139 rfl rfl) ?_)|(refine rd rfl (Bp 139 5 i Zb6 Zcs rfl rfl rfl (Aa HLT)) ?_)|(refine rd rfl (Dy (vs:=v.cs) 26 5 rwV szV rfl rfl (Aa HA2 _ (Aa SS).fr.below) rfl) ?_)|(refine zA 26 (zeroV.cs) (by rfl) rfl SS ?_;clear SS;intro X3 B3 SS;simp only[nn])|(refine zS (v.cs) 0 26 (by rfl) rfl rfl rfl rfl (Ex v) szV SS rfl ?_;clear SS;intro X4 SS;simp only[nn])|(refine rd rfl (Ag 3 isAgg3 rfl rfl ((Aa SS).hold 0 rfl) rfl) ?_)|(refine zL (v.cs) 26 5 0 rwV szV (by rfl) rfl rfl SS rfl rfl rfl ?_;simp only[nn])|(refine rd rfl (Kg rfl rfl rfl hk) ?_)))
     have HO:=ZbF h v.i _ ((Aa HH).on (Aa SS).fr.below)
     rw[hz] at HO
     refine HO.mono ?_
     rintro e X5 ⟨rfl,rfl⟩
     go_wp2
     go_ret
     exact⟨by unfold Ap;rw[Aa HFA];rfl,(Aa SS).fr.below⟩
    ·have HD2:Hid (∀j u,j<i+1->vs[j]? =some u->Lb h.l.length u=true):=Ab (fun j u hj hu=>by
      rcases Nat.lt_or_ge j i with h|h
      ·exact Aa HD j u h hu
      ·obtain rfl:j=i:=by omega
       obtain rfl:v=u:=Option.some.inj (hv.symm.trans hu)
       exact(by unfold Lb;rw[hz];simp))
     clear HD
     go_wp2_with (first|go_skip|((with_reducible show wpList ..);first|(refine rd rfl (Bo 139 26 underlying139 rfl rfl) ?_)|(refine rd rfl (Bp 139 5 i Zb6 Zcs rfl rfl rfl (Aa HLT)) ?_)|(refine rd rfl (Dy (vs:=v.cs) 26 5 rwV szV rfl rfl (Aa HA2 _ (Aa SS).fr.below) rfl) ?_)|(refine zA 26 (zeroV.cs) (by rfl) rfl SS ?_;clear SS;intro X3 B3 SS;simp only[nn])|(refine zS (v.cs) 0 26 (by rfl) rfl rfl rfl rfl (Ex v) szV SS rfl ?_;clear SS;intro X4 SS;simp only[nn])|(refine rd rfl (Ag 3 isAgg3 rfl rfl ((Aa SS).hold 0 rfl) rfl) ?_)|(refine zL (v.cs) 26 5 0 rwV szV (by rfl) rfl rfl SS rfl rfl rfl ?_;simp only[nn])|(refine rd rfl (Kg rfl rfl rfl hk) ?_)))
     have HO:=ZbF h v.i _ ((Aa HH).on (Aa SS).fr.below)
     rw[hz] at HO
     refine HO.mono ?_
     rintro e X5 ⟨rfl,rfl⟩
     replace SS:=Ab (Sy.left (L:= []) (M:= [_]) (Aa SS))
     go_wp2
     go_roundg (vs.length - (i+1))
     case measure=>have:=Aa HLT;omega
     case rel=>exact⟨i+1,by go_num,by have:=Aa HLT;omega,by omega,HD2,SS⟩
   ·have HD2:Hid (∀j u,j<i+1->vs[j]? =some u->Lb h.l.length u=true):=Ab (fun j u hj hu=>by
     rcases Nat.lt_or_ge j i with h|h
     ·exact Aa HD j u h hu
     ·obtain rfl:j=i:=by omega
      obtain rfl:v=u:=Option.some.inj (hv.symm.trans hu)
      exact(by unfold Lb;simp[hk]))
    clear HD
    go_wp2_with (first|go_skip|((with_reducible show wpList ..);first|(refine rd rfl (Bo 139 26 underlying139 rfl rfl) ?_)|(refine rd rfl (Bp 139 5 i Zb6 Zcs rfl rfl rfl (Aa HLT)) ?_)|(refine rd rfl (Dy (vs:=v.cs) 26 5 rwV szV rfl rfl (Aa HA2 _ (Aa SS).fr.below) rfl) ?_)|(refine zA 26 (zeroV.cs) (by rfl) rfl SS ?_;clear SS;intro X3 B3 SS;simp only[nn])|(refine zS (v.cs) 0 26 (by rfl) rfl rfl rfl rfl (Ex v) szV SS rfl ?_;clear SS;intro X4 SS;simp only[nn])|(refine rd rfl (Ag 3 isAgg3 rfl rfl ((Aa SS).hold 0 rfl) rfl) ?_)|(refine zL (v.cs) 26 5 0 rwV szV (by rfl) rfl rfl SS rfl rfl rfl ?_;simp only[nn])|(refine rd rfl (Jz rfl rfl rfl hk) ?_)))
    replace SS:=Ab (Sy.left (L:= []) (M:= [_]) (Aa SS))
    go_wp2
    go_roundg (vs.length - (i+1))
    case measure=>have:=Aa HLT;omega
    case rel=>exact⟨i+1,by go_num,by have:=Aa HLT;omega,by omega,HD2,SS⟩
  ·obtain rfl:i=vs.length:=by omega
   have HTA:Hid (vs.all (Lb h.l.length)=true):=Ab (Rx (fun j v hj hv=>Aa HD j v hj hv))
   clear hlt hil HD
   go_wp2_with (first|go_skip|((with_reducible show wpList ..);first|(refine rd rfl (Bo 139 26 underlying139 rfl rfl) ?_)))
   go_ret
   exact⟨by unfold Ap;rw[Aa HTA];rfl,(Aa SS).fr.below⟩
theorem Ut (B:Option Addr) (c:Nat) (vs:List VV) (w:World) (hT:Lib.Utf8Tabs 1 2 w) (hR:ZaU w B vs) (hz:vs.length<=1000000):Calls prog 44 #[.slice B vs.length c] w fun e w'=>e= .returned (.int .i64 (Aw vs))/\Below w.heap.size w w':=by
 have SS:=Ab (Sy.nil w [])
 have HT:=Ab hT
 clear hT
 have HR:=Ab hR
 have HZ:=Ab hz
 clear hR hz
 go_enter func44,ntmps44
 go_wp2_with (first|go_skip|((with_reducible show wpList ..);first|(refine rd rfl (Bo 139 26 underlying139 rfl rfl) ?_)))
 go_loopg [8] vs.length (fun gm s9 wr=> ∃i:Nat,s9= .int .i64 (i:Nat)/\i<=vs.length/\vs.length - i<=gm/\Hid (∀j v,j<i->vs[j]? =some v->VV.good v=true)/\Hid (Sy w wr [] []))
 case atStart=>exact⟨0,rfl,by omega,by omega,Ab (fun j v hj=>by omega),SS⟩
 case round=>
  clear SS
  obtain⟨i,rfl,hil,hgm,HD,SS⟩:=hrel
  by_cases hlt:i<vs.length
  ·have dlt:decide ((i:Int)<(vs.length:Int))=true:=decide_eq_true (by omega)
   have hw1:IntKind.i64.wrap ((i:Int)+1)=(i:Int)+1:=by have:=Aa HZ;rw[IntKind.wrap_i64];omega
   obtain⟨v,hv⟩: ∃v,vs[i]? =some v:=⟨_,List.getElem?_eq_getElem hlt⟩
   obtain⟨b,off,hA,hb,hrg⟩:=(Aa HR) i v hv
   subst hA
   have HA2:Hid (∀X,Below w.heap.size w X->X.rangeAt b (off+i * 5) v.cs):=Ab (fun X hX=>Ot hrg hb hX)
   have HLT:=Ab hlt
   clear hb hrg hlt hil
   obtain⟨z,hz⟩: ∃z,v.good=z:=⟨_,rfl⟩
   cases z
   ·have HFA:Hid (vs.all (VV.good)=false):=Ab (Ph hv hz)
    go_wp2_with (first|go_skip|((with_reducible show wpList ..);first|(refine rd rfl (Bo 139 26 underlying139 rfl rfl) ?_)|(refine rd rfl (Bp 139 5 i Zb6 Zcs rfl rfl rfl (Aa HLT)) ?_)|(refine rd rfl (Dy (vs:=v.cs) 26 5 rwV szV rfl rfl (Aa HA2 _ (Aa SS).fr.below) rfl) ?_)|(refine zA 26 (zeroV.cs) (by rfl) rfl SS ?_;clear SS;intro X3 B3 SS;simp only[nn])|(refine zS (v.cs) 0 26 (by rfl) rfl rfl rfl rfl (Ex v) szV SS rfl ?_;clear SS;intro X4 SS;simp only[nn])|(refine rd rfl (Ag 3 isAgg3 rfl rfl ((Aa SS).hold 0 rfl) rfl) ?_)|(refine zL (v.cs) 26 5 0 rwV szV (by rfl) rfl rfl SS rfl rfl rfl ?_;simp only[nn])))
    have HO:=Eo v _ (Al (Aa HT) (Aa SS).fr.below)
    rw[Db] at HO
    refine HO.mono ?_
    rintro e X5 ⟨rfl,hb5⟩
    replace SS:=Ab ((Aa SS).on hb5)
    clear hb5 HO
    rw[show Nl v.good=5 by rw[hz];rfl]
    go_wp2
    go_ret
    exact⟨by unfold Aw;rw[Aa HFA];rfl,(Aa SS).fr.below⟩
   ·have HD2:Hid (∀j u,j<i+1->vs[j]? =some u->VV.good u=true):=Ab (fun j u hj hu=>by
     rcases Nat.lt_or_ge j i with h|h
     ·exact Aa HD j u h hu
     ·obtain rfl:j=i:=by omega
      obtain rfl:v=u:=Option.some.inj (hv.symm.trans hu)
      exact hz)
    clear HD
    go_wp2_with (first|go_skip|((with_reducible show wpList ..);first|(refine rd rfl (Bo 139 26 underlying139 rfl rfl) ?_)|(refine rd rfl (Bp 139 5 i Zb6 Zcs rfl rfl rfl (Aa HLT)) ?_)|(refine rd rfl (Dy (vs:=v.cs) 26 5 rwV szV rfl rfl (Aa HA2 _ (Aa SS).fr.below) rfl) ?_)|(refine zA 26 (zeroV.cs) (by rfl) rfl SS ?_;clear SS;intro X3 B3 SS;simp only[nn])|(refine zS (v.cs) 0 26 (by rfl) rfl rfl rfl rfl (Ex v) szV SS rfl ?_;clear SS;intro X4 SS;simp only[nn])|(refine rd rfl (Ag 3 isAgg3 rfl rfl ((Aa SS).hold 0 rfl) rfl) ?_)|(refine zL (v.cs) 26 5 0 rwV szV (by rfl) rfl rfl SS rfl rfl rfl ?_;simp only[nn])))
    have HO:=Eo v _ (Al (Aa HT) (Aa SS).fr.below)
    rw[Db] at HO
    refine HO.mono ?_
    rintro e X5 ⟨rfl,hb5⟩
    replace SS:=Ab ((Aa SS).on hb5)
    clear hb5 HO
    rw[show Nl v.good=0 by rw[hz];rfl]
    replace SS:=Ab (Sy.left (L:= []) (M:= [_]) (Aa SS))
    go_wp2
    go_roundg (vs.length - (i+1))
    case measure=>have:=Aa HLT;omega
    case rel=>exact⟨i+1,by go_num,by have:=Aa HLT;omega,by omega,HD2,SS⟩
  ·obtain rfl:i=vs.length:=by omega
   have HTA:Hid (vs.all (VV.good)=true):=Ab (Rx (fun j v hj hv=>Aa HD j v hj hv))
   clear hlt hil HD
   go_wp2_with (first|go_skip|((with_reducible show wpList ..);first|(refine rd rfl (Bo 139 26 underlying139 rfl rfl) ?_)))
   go_ret
   exact⟨by unfold Aw;rw[Aa HTA];rfl,(Aa SS).fr.below⟩
theorem acc_h (h:HP) (B:Option Addr) (c:Nat) (vs:List VV) (w:World) (H:h.Is w) (hl:h.l.length<=65536) (hR:ZaU w B vs) (hz:vs.length<=1000000):Calls prog 42 #[.pointer (some ⟨h.b,0,none⟩), .slice B vs.length c] w fun e w'=>e= .returned (.int .i64 (Gj vs))/\Below w.heap.size w w':=by
 have SS:=Ab (Sy.nil w [])
 have HH:=Ab H
 clear H
 have HR:=Ab hR
 have HZ:=Ab hz
 clear hR hz
 go_enter func42,ntmps42
 go_wp2_with (first|go_skip|((with_reducible show wpList ..);first|(refine rd rfl (Bo 139 26 underlying139 rfl rfl) ?_)))
 go_loopg [9] vs.length (fun gm s9 wr=> ∃i:Nat,s9= .int .i64 (i:Nat)/\i<=vs.length/\vs.length - i<=gm/\Hid (∀j v,j<i->vs[j]? =some v->Vu v=true)/\Hid (Sy w wr [] []))
 case atStart=>exact⟨0,rfl,by omega,by omega,Ab (fun j v hj=>by omega),SS⟩
 case round=>
  clear SS
  obtain⟨i,rfl,hil,hgm,HD,SS⟩:=hrel
  by_cases hlt:i<vs.length
  ·have dlt:decide ((i:Int)<(vs.length:Int))=true:=decide_eq_true (by omega)
   have hw1:IntKind.i64.wrap ((i:Int)+1)=(i:Int)+1:=by have:=Aa HZ;rw[IntKind.wrap_i64];omega
   obtain⟨v,hv⟩: ∃v,vs[i]? =some v:=⟨_,List.getElem?_eq_getElem hlt⟩
   obtain⟨b,off,hA,hb,hrg⟩:=(Aa HR) i v hv
   subst hA
   have HA2:Hid (∀X,Below w.heap.size w X->X.rangeAt b (off+i * 5) v.cs):=Ab (fun X hX=>Ot hrg hb hX)
   have HLT:=Ab hlt
   clear hb hrg hlt hil
   by_cases hk:v.k=7
   ·have HFA:Hid (vs.all (Vu)=false):=Ab (Ph hv (by unfold Vu;simp[hk]))
    go_wp2_with (first|go_skip|((with_reducible show wpList ..);first|(refine rd rfl (Bo 139 26 underlying139 rfl rfl) ?_)|(refine rd rfl (Bp 139 5 i Zb6 Zcs rfl rfl rfl (Aa HLT)) ?_)|(refine rd rfl (Dy (vs:=v.cs) 26 5 rwV szV rfl rfl (Aa HA2 _ (Aa SS).fr.below) rfl) ?_)|(refine zA 26 (zeroV.cs) (by rfl) rfl SS ?_;clear SS;intro X3 B3 SS;simp only[nn])|(refine zS (v.cs) 0 26 (by rfl) rfl rfl rfl rfl (Ex v) szV SS rfl ?_;clear SS;intro X4 SS;simp only[nn])|(refine rd rfl (Ag 3 isAgg3 rfl rfl ((Aa SS).hold 0 rfl) rfl) ?_)|(refine zL (v.cs) 26 5 0 rwV szV (by rfl) rfl rfl SS rfl rfl rfl ?_;simp only[nn])|(refine rd rfl (Kg rfl rfl rfl hk) ?_)))
    refine(ZbZ h v.i _ ((Aa HH).on (Aa SS).fr.below) hl).mono ?_
    rintro e X5 ⟨rfl,rfl⟩
    go_wp2
    go_ret
    exact⟨by unfold Gj;rw[Aa HFA];rfl,(Aa SS).fr.below⟩
   ·have HD2:Hid (∀j u,j<i+1->vs[j]? =some u->Vu u=true):=Ab (fun j u hj hu=>by
     rcases Nat.lt_or_ge j i with h|h
     ·exact Aa HD j u h hu
     ·obtain rfl:j=i:=by omega
      obtain rfl:v=u:=Option.some.inj (hv.symm.trans hu)
      exact(by unfold Vu;simp[hk]))
    clear HD
    go_wp2_with (first|go_skip|((with_reducible show wpList ..);first|(refine rd rfl (Bo 139 26 underlying139 rfl rfl) ?_)|(refine rd rfl (Bp 139 5 i Zb6 Zcs rfl rfl rfl (Aa HLT)) ?_)|(refine rd rfl (Dy (vs:=v.cs) 26 5 rwV szV rfl rfl (Aa HA2 _ (Aa SS).fr.below) rfl) ?_)|(refine zA 26 (zeroV.cs) (by rfl) rfl SS ?_;clear SS;intro X3 B3 SS;simp only[nn])|(refine zS (v.cs) 0 26 (by rfl) rfl rfl rfl rfl (Ex v) szV SS rfl ?_;clear SS;intro X4 SS;simp only[nn])|(refine rd rfl (Ag 3 isAgg3 rfl rfl ((Aa SS).hold 0 rfl) rfl) ?_)|(refine zL (v.cs) 26 5 0 rwV szV (by rfl) rfl rfl SS rfl rfl rfl ?_;simp only[nn])|(refine rd rfl (Jz rfl rfl rfl hk) ?_)))
    replace SS:=Ab (Sy.left (L:= []) (M:= [_]) (Aa SS))
    go_wp2
    go_roundg (vs.length - (i+1))
    case measure=>have:=Aa HLT;omega
    case rel=>exact⟨i+1,by go_num,by have:=Aa HLT;omega,by omega,HD2,SS⟩
  ·obtain rfl:i=vs.length:=by omega
   have HTA:Hid (vs.all (Vu)=true):=Ab (Rx (fun j v hj hv=>Aa HD j v hj hv))
   clear hlt hil HD
   go_wp2_with (first|go_skip|((with_reducible show wpList ..);first|(refine rd rfl (Bo 139 26 underlying139 rfl rfl) ?_)))
   go_ret
   exact⟨by unfold Gj;rw[Aa HTA];rfl,(Aa SS).fr.below⟩
