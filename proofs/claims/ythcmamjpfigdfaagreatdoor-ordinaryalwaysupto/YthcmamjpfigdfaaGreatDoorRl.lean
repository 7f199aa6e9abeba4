import Derived.Test.YthcmamjpfigdfaaGreatDoorRk
set_option linter.all false
namespace Go.Proofs.YthcmamjpfigdfaaGreatDoor
set_option maxRecDepth 100000
set_option maxHeartbeats 0
section
open Go Go.Proofs Go.Maps Go.RowKit FM Tryz
attribute [local go_sem] Am Al Ar Ah Ao Ai Au Dg Df Bh Ak Az
theorem Bp {o:Oper} {a:Act} {W:World} {x:Operand} {B p:Nat} {vs:List Value} (t:TypeId) (n:Nat) (hu: ∃d,prog.underlying t=some d/\d.isRow=true) (hi:(prog.info? t).map (·.size)=some n) (ho:o.op= .load t x) (hx:a.eval x= .pointer (some ⟨B,p,none⟩)) (h0:W.rangeAt B p vs) (hn:vs.length=n):(execOp a.eval o).run prog W= .ok (.value (.agg vs.toArray)) W:=by
 obtain⟨d,hu,hd⟩:=hu
 unfold execOp
 simp only[ho,hx,Instr.loadAt,Instr.sureAddr,Sem.run_bind,Sem.run_pure,Result.andThen_ok,run_loadVar_mid W B p t vs d h0 hu hd (by rw[hi,hn])]
theorem Ku {w:World} {b p:Nat} {a c:List Value} (h:w.rangeAt b p (a++c)):w.rangeAt b p a:=fun j v hv=>h j v (by rw[List.getElem?_append_left (List.getElem?_eq_some_iff.1 hv).1];exact hv)
theorem Ms {w:World} {b p:Nat} {a c:List Value} (h:w.rangeAt b p (a++c)):w.rangeAt b (p+a.length) c:=fun j v hv=>by
 have:=h (a.length+j) v (by rw[List.getElem?_append_right (by omega)];simpa using hv)
 rwa [←Nat.add_assoc] at this
theorem Ax {o:Oper} {a:Act} {w:World} {x ix:Operand} {g off n cap:Nat} (t:TypeId) (sz j:Nat) (hk:prog.underlying t=some (.slice (prog.elem t))) (he: ∀w,(sizeOf (prog.elem t)).run prog w= .ok sz w) (ho:o.op= .indexAddr t x ix) (hx:a.eval x= .slice (some ⟨g,off,none⟩) n cap) (hix:a.eval ix= .int .i64 (j:Nat)) (hj:j<n):(execOp a.eval o).run prog w= .ok (.value (.pointer (some ⟨g,off+j * sz,none⟩))) w:=by
 have h1:(Instr.indexAt t (.slice (some ⟨g,off,none⟩) n cap) (.int .i64 (j:Nat))).run prog w= .ok (.pointer (some ⟨g,off+j * sz,none⟩)) w:=by
  rw[run_indexAt_slice (h:=hk),if_pos ⟨by omega,by omega⟩,he]
  have e2:(Addr.add ⟨g,off,none⟩ ((j:Int).toNat * sz))=⟨g,off+j * sz,none⟩:=by
   rw[Addr.add_mid]
   simp
  show Result.ok (Value.pointer (some (Addr.add ⟨g,off,none⟩ ((j:Int).toNat * sz)))) w=_
  rw[e2]
 unfold execOp
 simp only[ho,hx,hix]
 simp[h1]
def orE:List Int->Int
 | []=>0
 |e::l=>if e=0 then orE l else e
theorem Ze8: ∀(l:List Int) (i:Nat) (e:Int),(∀j u,j<i->l[j]? =some u->u=0)->l[i]? =some e->e≠0->orE l=e
 | [],i,e,_,h,_=>by simp at h
 |x::l,0,e,_,h,h0=>by
  obtain rfl:x=e:=by simpa using h
  simp[orE,h0]
 |x::l,i+1,e,ha,h,h0=>by
  have hx:x=0:=ha 0 x (by omega) rfl
  simp only[orE,hx,if_true]
  exact Ze8 l i e (fun j u hj hu=>ha (j+1) u (by omega) (by simpa using hu)) (by simpa using h) h0
theorem Zda: ∀(l:List Int),(∀j u,j<l.length->l[j]? =some u->u=0)->orE l=0
 | [],_=>rfl
 |x::l,ha=>by
  have hx:x=0:=ha 0 x (by simp) rfl
  simp only[orE,hx,if_true]
  exact Zda l (fun j u hj hu=>ha (j+1) u (by simpa using hj) (by simpa using hu))
def Nt (l:List Int):List Value:=l.map (fun e=> .int .i64 e)
def Nk (w:World) (A:Option Addr) (l:List VV):Prop:= ∀(j:Nat) (v:VV),l[j]? =some v-> ∃b off,A=some ⟨b,off,none⟩/\b<w.heap.size/\w.rangeAt b (off+j * 5) v.cs
theorem Dn {w X:World} {b p:Nat} {cs:List Value} (h:w.rangeAt b p cs) (hb:b<w.heap.size) (k:Below w.heap.size w X):X.rangeAt b p cs:=fun j v hv=>by
 have e:=h j v hv
 have h1:=k.block b hb
 unfold World.cell? at e ⊢
 dsimp only at e ⊢
 rw[h1]
 exact e
theorem ZgE (h:HP) (o:Int) (w:World) (H:h.Is w) (hl:h.l.length<=65536):Calls prog 137 #[.pointer (some ⟨h.b,0,none⟩), .int .i64 o] w fun e w'=>e= .returned (.tuple #[.nilIface, .int .i64 8])/\w'=w:=by
 obtain⟨z,hz⟩: ∃z,Qx o h.l.length=z:=⟨_,rfl⟩
 have HA:=Zfs h o w H
 rw[hz] at HA
 cases z
 ·go_enter func137,ntmps137
  go_wp2_with fail
  refine HA.mono ?_
  rintro _ _ ⟨rfl,rfl⟩
  go_wp2
  go_ret2
  exact⟨rfl,rfl⟩
 ·obtain⟨j,q,ho,hj⟩:=Nv hz
  have HT:=Jq h j q w H hj hl
  rw[←ho] at HT
  have HO:=Ab (H.ob hj).1
  clear ho
  go_enter func137,ntmps137
  go_wp2_with fail
  refine HA.mono ?_
  rintro _ _ ⟨rfl,rfl⟩
  go_wp2_with fail
  refine HT.mono ?_
  rintro _ _ ⟨rfl,rfl⟩
  go_wp2_with (first|go_skip|((with_reducible show wpList ..);(refine rd rfl (Ad 153 isAgg153 rfl rfl (Aa HO) rfl) ?_)))
  go_ret2
  exact⟨rfl,rfl⟩
theorem Zd (h:HP) (o:Int) (w:World) (H:h.Is w) (hl:h.l.length<=65536):Calls prog 93 #[.pointer (some ⟨h.b,0,none⟩), .int .i64 o] w fun e w'=>e= .returned (.int .i64 8)/\w'=w:=by
 have HA:=ZgE h o w H hl
 clear H
 go_enter func93,ntmps93
 go_wp2_with fail
 refine HA.mono ?_
 rintro _ _ ⟨rfl,rfl⟩
 go_wp2
 go_ret
 exact⟨rfl,rfl⟩
theorem Gk {o:Oper} {a:Act} {w:World} {x y:Operand} {n m:Int} (ho:o.op= .binOp .neq 31 x y 31) (hx:a.eval x= .int .i64 n) (hc:a.eval y= .int .i64 m) (h:n≠m):(execOp a.eval o).run prog w= .ok (.value (.bool true)) w:=by
 unfold execOp
 simp only[ho,hx,hc]
 simp[go_sem,eqGuard,h]
theorem Gt {o:Oper} {a:Act} {w:World} {x y:Operand} {n m:Int} (ho:o.op= .binOp .neq 31 x y 31) (hx:a.eval x= .int .i64 n) (hc:a.eval y= .int .i64 m) (h:n=m):(execOp a.eval o).run prog w= .ok (.value (.bool false)) w:=by
 unfold execOp
 simp only[ho,hx,hc]
 simp[go_sem,eqGuard,h]
theorem Lk (B c:Nat) (es:List Int) (w:World) (hR:Holds w B (Nt es)) (hz:es.length<=100):Calls prog 36 #[.slice (some ⟨B,0,none⟩) es.length c] w fun e w'=>e= .returned (.int .i64 (orE es))/\w'=w:=by
 have HR:=Ab hR
 have HZ:=Ab hz
 clear hR hz
 go_enter func36,ntmps36
 go_wp2_with (first|go_skip|((with_reducible show wpList ..);(refine rd rfl (Bm 159 31 underlying159 rfl rfl) ?_)))
 go_loopg [8] es.length (fun gm s8 wr=> ∃i:Nat,s8= .int .i64 (i:Nat)/\i<=es.length/\es.length - i<=gm/\Hid (∀j u,j<i->es[j]? =some u->u=0)/\wr=w)
 case atStart=>exact⟨0,rfl,by omega,by omega,Ab (fun j v hj=>by omega),rfl⟩
 case round=>
  obtain⟨i,rfl,hil,hgm,HD,rfl⟩:=hrel
  by_cases hlt:i<es.length
  ·have dlt:decide ((i:Int)<(es.length:Int))=true:=decide_eq_true (by omega)
   have hw1:IntKind.i64.wrap ((i:Int)+1)=(i:Int)+1:=by have:=Aa HZ;rw[IntKind.wrap_i64];omega
   obtain⟨e,he⟩: ∃e,es[i]? =some e:=⟨_,List.getElem?_eq_getElem hlt⟩
   have HC:Hid (wr.cell? ⟨B,0+i * 1,none⟩=some (.int .i64 e)):=Ab (by
    have:=(Aa HR).cell i (v:= .int .i64 e) (by unfold Nt;rw[List.getElem?_map,he];rfl)
    rw[Nat.zero_add,Nat.mul_one]
    exact this)
   have HLT:=Ab hlt
   clear hlt hil
   by_cases h0:e=0
   ·have HD2:Hid (∀j u,j<i+1->es[j]? =some u->u=0):=Ab (fun j u hj hu=>by
     rcases Nat.lt_or_ge j i with h|h
     ·exact Aa HD j u h hu
     ·obtain rfl:j=i:=by omega
      exact(Option.some.inj (he.symm.trans hu))▸h0)
    clear he HD
    go_wp2_with (first|go_skip|((with_reducible show wpList ..);first|(refine rd rfl (Ax 159 1 i unEs idEs rfl rfl rfl (Aa HLT)) ?_)|(refine rd rfl (Vm 31 isAgg31 rfl rfl (Aa HC)) ?_)|(refine rd rfl (Gt rfl rfl rfl h0) ?_)))
    go_roundg (es.length - (i+1))
    case measure=>have:=Aa HLT;omega
    case rel=>exact⟨i+1,by go_num,by have:=Aa HLT;omega,by omega,HD2,rfl⟩
   ·have HE:Hid (orE es=e):=Ab (Ze8 es i e (Aa HD) he h0)
    clear he HD
    go_wp2_with (first|go_skip|((with_reducible show wpList ..);first|(refine rd rfl (Ax 159 1 i unEs idEs rfl rfl rfl (Aa HLT)) ?_)|(refine rd rfl (Vm 31 isAgg31 rfl rfl (Aa HC)) ?_)|(refine rd rfl (Gk rfl rfl rfl h0) ?_)))
    go_ret
    exact⟨by rw[Aa HE];rfl,rfl⟩
  ·obtain rfl:i=es.length:=by omega
   have HE:Hid (orE es=0):=Ab (Zda es (Aa HD))
   clear hlt hil HD
   go_wp2
   go_ret
   exact⟨by rw[Aa HE];rfl,rfl⟩
theorem Oq {f:VV->Bool} {l:List VV} {i:Nat} {v:VV} (hv:l[i]? =some v) (hf:f v=false):l.all f=false:=by
 rw[List.all_eq_false]
 exact⟨v,List.mem_of_getElem? hv,by simp[hf]⟩
theorem Qt {f:VV->Bool} {l:List VV} (h: ∀j v,j<l.length->l[j]? =some v->f v=true):l.all f=true:=by
 rw[List.all_eq_true]
 intro v hv
 obtain⟨j,hj⟩:=List.getElem?_of_mem hv
 exact h j v (List.getElem?_eq_some_iff.1 hj).1 hj
def Ll (n:Nat) (v:VV):Bool:= !(v.k==7)||Qx v.i n
def Bj (n:Nat) (vs:List VV):Int:=if vs.all (Ll n) then 0 else 4
def Bz (vs:List VV):Int:=if vs.all VV.good then 0 else 5
def Za (v:VV):Bool:= !(v.k==7)
def Ml (vs:List VV):Int:=if vs.all Za then 0 else 8
theorem Vg (h:HP) (B:Option Addr) (c:Nat) (vs:List VV) (w:World) (H:h.Is w) (hR:Nk w B vs) (hz:vs.length<=1000000):Calls prog 40 #[.pointer (some ⟨h.b,0,none⟩), .slice B vs.length c] w fun e w'=>e= .returned (.int .i64 (Bj h.l.length vs))/\Below w.heap.size w w':=by
 have SS:=Ab (Sy.nil w [])
 have HH:=Ab H
 clear H
 have HR:=Ab hR
 have HZ:=Ab hz
 clear hR hz
 go_enter func40,ntmps40
 go_wp2_with (first|go_skip|((with_reducible show wpList ..);(refine rd rfl (Bm 44 40 underlying44 rfl rfl) ?_)))
 go_loopg [9] vs.length (fun gm s9 wr=> ∃i:Nat,s9= .int .i64 (i:Nat)/\i<=vs.length/\vs.length - i<=gm/\Hid (∀j v,j<i->vs[j]? =some v->Ll h.l.length v=true)/\Hid (Sy w wr [] []))
 case atStart=>exact⟨0,rfl,by omega,by omega,Ab (fun j v hj=>by omega),SS⟩
 case round=>
  clear SS
  obtain⟨i,rfl,hil,hgm,HD,SS⟩:=hrel
  by_cases hlt:i<vs.length
  ·have dlt:decide ((i:Int)<(vs.length:Int))=true:=decide_eq_true (by omega)
   have hw1:IntKind.i64.wrap ((i:Int)+1)=(i:Int)+1:=by have:=Aa HZ;rw[IntKind.wrap_i64];omega
   obtain⟨v,hv⟩: ∃v,vs[i]? =some v:=⟨_,List.getElem?_eq_getElem hlt⟩
   obtain⟨b,off,hA,hb,hrg⟩:=(Aa HR) i v hv
   subst hA
   have HA2:Hid (∀X,Below w.heap.size w X->X.rangeAt b (off+i * 5) v.cs):=Ab (fun X hX=>Dn hrg hb hX)
   have HLT:=Ab hlt
   clear hb hrg hlt hil
   by_cases hk:v.k=7
   ·obtain⟨z,hz⟩: ∃z,Qx v.i h.l.length=z:=⟨_,rfl⟩
    cases z
    ·have HFA:Hid (vs.all (Ll h.l.length)=false):=Ab (Oq hv (by unfold Ll;rw[hz];simp[hk]))
     go_wp2_with (first|go_skip|((with_reducible show wpList ..);first|(refine rd rfl (Ax 44 5 i Rg Rr rfl rfl rfl (Aa HLT)) ?_)|(refine rd rfl (Bp (vs:=v.cs) 40 5 rwV szV rfl rfl (Aa HA2 _ (Aa SS).fr.below) rfl) ?_)|(refine zA 40 (Av.cs) (by rfl) rfl SS ?_;clear SS;intro X3 B3 SS;simp only[nn])|(refine zS (v.cs) 0 40 (by rfl) rfl rfl rfl rfl (Ea v) szV SS rfl ?_;clear SS;intro X4 SS;simp only[nn])|(refine rd rfl (Ad 3 isAgg3 rfl rfl ((Aa SS).hold 0 rfl) rfl) ?_)|(refine rd rfl (Gb rfl rfl rfl hk) ?_)))
     have HO:=Zfs h v.i _ ((Aa HH).on (Aa SS).fr.below)
     rw[hz] at HO
     refine HO.mono ?_
     rintro e X5 ⟨rfl,rfl⟩
     go_wp2
     go_ret
     exact⟨by unfold Bj;rw[Aa HFA];rfl,(Aa SS).fr.below⟩
    ·have HD2:Hid (∀j u,j<i+1->vs[j]? =some u->Ll h.l.length u=true):=Ab (fun j u hj hu=>by
      rcases Nat.lt_or_ge j i with h|h
      ·exact Aa HD j u h hu
      ·obtain rfl:j=i:=by omega
       obtain rfl:v=u:=Option.some.inj (hv.symm.trans hu)
       exact(by unfold Ll;rw[hz];simp))
     clear HD
     go_wp2_with (first|go_skip|((with_reducible show wpList ..);first|(refine rd rfl (Ax 44 5 i Rg Rr rfl rfl rfl (Aa HLT)) ?_)|(refine rd rfl (Bp (vs:=v.cs) 40 5 rwV szV rfl rfl (Aa HA2 _ (Aa SS).fr.below) rfl) ?_)|(refine zA 40 (Av.cs) (by rfl) rfl SS ?_;clear SS;intro X3 B3 SS;simp only[nn])|(refine zS (v.cs) 0 40 (by rfl) rfl rfl rfl rfl (Ea v) szV SS rfl ?_;clear SS;intro X4 SS;simp only[nn])|(refine rd rfl (Ad 3 isAgg3 rfl rfl ((Aa SS).hold 0 rfl) rfl) ?_)|(refine rd rfl (Gb rfl rfl rfl hk) ?_)))
     have HO:=Zfs h v.i _ ((Aa HH).on (Aa SS).fr.below)
     rw[hz] at HO
     refine HO.mono ?_
     rintro e X5 ⟨rfl,rfl⟩
     replace SS:=Ab (Sy.left (L:= []) (M:= [_]) (Aa SS))
     go_wp2
     go_roundg (vs.length - (i+1))
     case measure=>have:=Aa HLT;omega
     case rel=>exact⟨i+1,by go_num,by have:=Aa HLT;omega,by omega,HD2,SS⟩
   ·have HD2:Hid (∀j u,j<i+1->vs[j]? =some u->Ll h.l.length u=true):=Ab (fun j u hj hu=>by
     rcases Nat.lt_or_ge j i with h|h
     ·exact Aa HD j u h hu
     ·obtain rfl:j=i:=by omega
      obtain rfl:v=u:=Option.some.inj (hv.symm.trans hu)
      exact(by unfold Ll;simp[hk]))
    clear HD
    go_wp2_with (first|go_skip|((with_reducible show wpList ..);first|(refine rd rfl (Ax 44 5 i Rg Rr rfl rfl rfl (Aa HLT)) ?_)|(refine rd rfl (Bp (vs:=v.cs) 40 5 rwV szV rfl rfl (Aa HA2 _ (Aa SS).fr.below) rfl) ?_)|(refine zA 40 (Av.cs) (by rfl) rfl SS ?_;clear SS;intro X3 B3 SS;simp only[nn])|(refine zS (v.cs) 0 40 (by rfl) rfl rfl rfl rfl (Ea v) szV SS rfl ?_;clear SS;intro X4 SS;simp only[nn])|(refine rd rfl (Ad 3 isAgg3 rfl rfl ((Aa SS).hold 0 rfl) rfl) ?_)|(refine rd rfl (Ju rfl rfl rfl hk) ?_)))
    replace SS:=Ab (Sy.left (L:= []) (M:= [_]) (Aa SS))
    go_wp2
    go_roundg (vs.length - (i+1))
    case measure=>have:=Aa HLT;omega
    case rel=>exact⟨i+1,by go_num,by have:=Aa HLT;omega,by omega,HD2,SS⟩
  ·obtain rfl:i=vs.length:=by omega
   have HTA:Hid (vs.all (Ll h.l.length)=true):=Ab (Qt (fun j v hj hv=>Aa HD j v hj hv))
   clear hlt hil HD
   go_wp2_with (go_skip)
   go_ret
   exact⟨by unfold Bj;rw[Aa HTA];rfl,(Aa SS).fr.below⟩
theorem ZbW (B:Option Addr) (c:Nat) (vs:List VV) (w:World) (hT:Lib.Utf8Tabs 1 2 w) (hR:Nk w B vs) (hz:vs.length<=1000000):Calls prog 43 #[.slice B vs.length c] w fun e w'=>e= .returned (.int .i64 (Bz vs))/\Below w.heap.size w w':=by
 have SS:=Ab (Sy.nil w [])
 have HT:=Ab hT
 clear hT
 have HR:=Ab hR
 have HZ:=Ab hz
 clear hR hz
 go_enter func43,ntmps43
 go_wp2_with (first|go_skip|((with_reducible show wpList ..);(refine rd rfl (Bm 44 40 underlying44 rfl rfl) ?_)))
 go_loopg [8] vs.length (fun gm s9 wr=> ∃i:Nat,s9= .int .i64 (i:Nat)/\i<=vs.length/\vs.length - i<=gm/\Hid (∀j v,j<i->vs[j]? =some v->VV.good v=true)/\Hid (Sy w wr [] []))
 case atStart=>exact⟨0,rfl,by omega,by omega,Ab (fun j v hj=>by omega),SS⟩
 case round=>
  clear SS
  obtain⟨i,rfl,hil,hgm,HD,SS⟩:=hrel
  by_cases hlt:i<vs.length
  ·have dlt:decide ((i:Int)<(vs.length:Int))=true:=decide_eq_true (by omega)
   have hw1:IntKind.i64.wrap ((i:Int)+1)=(i:Int)+1:=by have:=Aa HZ;rw[IntKind.wrap_i64];omega
   obtain⟨v,hv⟩: ∃v,vs[i]? =some v:=⟨_,List.getElem?_eq_getElem hlt⟩
   obtain⟨b,off,hA,hb,hrg⟩:=(Aa HR) i v hv
   subst hA
   have HA2:Hid (∀X,Below w.heap.size w X->X.rangeAt b (off+i * 5) v.cs):=Ab (fun X hX=>Dn hrg hb hX)
   have HLT:=Ab hlt
   clear hb hrg hlt hil
   obtain⟨z,hz⟩: ∃z,v.good=z:=⟨_,rfl⟩
   cases z
   ·have HFA:Hid (vs.all (VV.good)=false):=Ab (Oq hv hz)
    go_wp2_with (first|go_skip|((with_reducible show wpList ..);first|(refine rd rfl (Ax 44 5 i Rg Rr rfl rfl rfl (Aa HLT)) ?_)|(refine rd rfl (Bp (vs:=v.cs) 40 5 rwV szV rfl rfl (Aa HA2 _ (Aa SS).fr.below) rfl) ?_)|(refine zA 40 (Av.cs) (by rfl) rfl SS ?_;clear SS;intro X3 B3 SS;simp only[nn])|(refine zS (v.cs) 0 40 (by rfl) rfl rfl rfl rfl (Ea v) szV SS rfl ?_;clear SS;intro X4 SS;simp only[nn])|(refine zL (v.cs) 40 5 0 rwV szV (by rfl) rfl rfl SS rfl rfl rfl ?_;simp only[nn])))
    have HO:=Jl v _ (Aj (Aa HT) (Aa SS).fr.below)
    rw[Bu] at HO
    refine HO.mono ?_
    rintro e X5 ⟨rfl,hb5⟩
    replace SS:=Ab ((Aa SS).on hb5)
    clear hb5 HO
    rw[show Vq v.good=5 by rw[hz];rfl]
    go_wp2
    go_ret
    exact⟨by unfold Bz;rw[Aa HFA];rfl,(Aa SS).fr.below⟩
   ·have HD2:Hid (∀j u,j<i+1->vs[j]? =some u->VV.good u=true):=Ab (fun j u hj hu=>by
     rcases Nat.lt_or_ge j i with h|h
     ·exact Aa HD j u h hu
     ·obtain rfl:j=i:=by omega
      obtain rfl:v=u:=Option.some.inj (hv.symm.trans hu)
      exact hz)
    clear HD
    go_wp2_with (first|go_skip|((with_reducible show wpList ..);first|(refine rd rfl (Ax 44 5 i Rg Rr rfl rfl rfl (Aa HLT)) ?_)|(refine rd rfl (Bp (vs:=v.cs) 40 5 rwV szV rfl rfl (Aa HA2 _ (Aa SS).fr.below) rfl) ?_)|(refine zA 40 (Av.cs) (by rfl) rfl SS ?_;clear SS;intro X3 B3 SS;simp only[nn])|(refine zS (v.cs) 0 40 (by rfl) rfl rfl rfl rfl (Ea v) szV SS rfl ?_;clear SS;intro X4 SS;simp only[nn])|(refine zL (v.cs) 40 5 0 rwV szV (by rfl) rfl rfl SS rfl rfl rfl ?_;simp only[nn])))
    have HO:=Jl v _ (Aj (Aa HT) (Aa SS).fr.below)
    rw[Bu] at HO
    refine HO.mono ?_
    rintro e X5 ⟨rfl,hb5⟩
    replace SS:=Ab ((Aa SS).on hb5)
    clear hb5 HO
    rw[show Vq v.good=0 by rw[hz];rfl]
    replace SS:=Ab (Sy.left (L:= []) (M:= [_]) (Aa SS))
    go_wp2
    go_roundg (vs.length - (i+1))
    case measure=>have:=Aa HLT;omega
    case rel=>exact⟨i+1,by go_num,by have:=Aa HLT;omega,by omega,HD2,SS⟩
  ·obtain rfl:i=vs.length:=by omega
   have HTA:Hid (vs.all (VV.good)=true):=Ab (Qt (fun j v hj hv=>Aa HD j v hj hv))
   clear hlt hil HD
   go_wp2_with (go_skip)
   go_ret
   exact⟨by unfold Bz;rw[Aa HTA];rfl,(Aa SS).fr.below⟩
theorem acc_h (h:HP) (B:Option Addr) (c:Nat) (vs:List VV) (w:World) (H:h.Is w) (hl:h.l.length<=65536) (hR:Nk w B vs) (hz:vs.length<=1000000):Calls prog 41 #[.pointer (some ⟨h.b,0,none⟩), .slice B vs.length c] w fun e w'=>e= .returned (.int .i64 (Ml vs))/\Below w.heap.size w w':=by
 have SS:=Ab (Sy.nil w [])
 have HH:=Ab H
 clear H
 have HR:=Ab hR
 have HZ:=Ab hz
 clear hR hz
 go_enter func41,ntmps41
 go_wp2_with (first|go_skip|((with_reducible show wpList ..);(refine rd rfl (Bm 44 40 underlying44 rfl rfl) ?_)))
 go_loopg [9] vs.length (fun gm s9 wr=> ∃i:Nat,s9= .int .i64 (i:Nat)/\i<=vs.length/\vs.length - i<=gm/\Hid (∀j v,j<i->vs[j]? =some v->Za v=true)/\Hid (Sy w wr [] []))
 case atStart=>exact⟨0,rfl,by omega,by omega,Ab (fun j v hj=>by omega),SS⟩
 case round=>
  clear SS
  obtain⟨i,rfl,hil,hgm,HD,SS⟩:=hrel
  by_cases hlt:i<vs.length
  ·have dlt:decide ((i:Int)<(vs.length:Int))=true:=decide_eq_true (by omega)
   have hw1:IntKind.i64.wrap ((i:Int)+1)=(i:Int)+1:=by have:=Aa HZ;rw[IntKind.wrap_i64];omega
   obtain⟨v,hv⟩: ∃v,vs[i]? =some v:=⟨_,List.getElem?_eq_getElem hlt⟩
   obtain⟨b,off,hA,hb,hrg⟩:=(Aa HR) i v hv
   subst hA
   have HA2:Hid (∀X,Below w.heap.size w X->X.rangeAt b (off+i * 5) v.cs):=Ab (fun X hX=>Dn hrg hb hX)
   have HLT:=Ab hlt
   clear hb hrg hlt hil
   by_cases hk:v.k=7
   ·have HFA:Hid (vs.all (Za)=false):=Ab (Oq hv (by unfold Za;simp[hk]))
    go_wp2_with (first|go_skip|((with_reducible show wpList ..);first|(refine rd rfl (Ax 44 5 i Rg Rr rfl rfl rfl (Aa HLT)) ?_)|(refine rd rfl (Bp (vs:=v.cs) 40 5 rwV szV rfl rfl (Aa HA2 _ (Aa SS).fr.below) rfl) ?_)|(refine zA 40 (Av.cs) (by rfl) rfl SS ?_;clear SS;intro X3 B3 SS;simp only[nn])|(refine zS (v.cs) 0 40 (by rfl) rfl rfl rfl rfl (Ea v) szV SS rfl ?_;clear SS;intro X4 SS;simp only[nn])|(refine rd rfl (Ad 3 isAgg3 rfl rfl ((Aa SS).hold 0 rfl) rfl) ?_)|(refine rd rfl (Gb rfl rfl rfl hk) ?_)))
    refine(Zd h v.i _ ((Aa HH).on (Aa SS).fr.below) hl).mono ?_
    rintro e X5 ⟨rfl,rfl⟩
    go_wp2
    go_ret
    exact⟨by unfold Ml;rw[Aa HFA];rfl,(Aa SS).fr.below⟩
   ·have HD2:Hid (∀j u,j<i+1->vs[j]? =some u->Za u=true):=Ab (fun j u hj hu=>by
     rcases Nat.lt_or_ge j i with h|h
     ·exact Aa HD j u h hu
     ·obtain rfl:j=i:=by omega
      obtain rfl:v=u:=Option.some.inj (hv.symm.trans hu)
      exact(by unfold Za;simp[hk]))
    clear HD
    go_wp2_with (first|go_skip|((with_reducible show wpList ..);first|(refine rd rfl (Ax 44 5 i Rg Rr rfl rfl rfl (Aa HLT)) ?_)|(refine rd rfl (Bp (vs:=v.cs) 40 5 rwV szV rfl rfl (Aa HA2 _ (Aa SS).fr.below) rfl) ?_)|(refine zA 40 (Av.cs) (by rfl) rfl SS ?_;clear SS;intro X3 B3 SS;simp only[nn])|(refine zS (v.cs) 0 40 (by rfl) rfl rfl rfl rfl (Ea v) szV SS rfl ?_;clear SS;intro X4 SS;simp only[nn])|(refine rd rfl (Ad 3 isAgg3 rfl rfl ((Aa SS).hold 0 rfl) rfl) ?_)|(refine rd rfl (Ju rfl rfl rfl hk) ?_)))
    replace SS:=Ab (Sy.left (L:= []) (M:= [_]) (Aa SS))
    go_wp2
    go_roundg (vs.length - (i+1))
    case measure=>have:=Aa HLT;omega
    case rel=>exact⟨i+1,by go_num,by have:=Aa HLT;omega,by omega,HD2,SS⟩
  ·obtain rfl:i=vs.length:=by omega
   have HTA:Hid (vs.all (Za)=true):=Ab (Qt (fun j v hj hv=>Aa HD j v hj hv))
   clear hlt hil HD
   go_wp2_with (go_skip)
   go_ret
   exact⟨by unfold Ml;rw[Aa HTA];rfl,(Aa SS).fr.below⟩
def Da (k:KK):Int:=if goodK k then 0 else 5
theorem Pv (k:KK) (w:World) (hT:Lib.Utf8Tabs 1 2 w):Calls prog 38 #[k.agg] w fun e w'=>e= .returned (.int .i64 (Da k))/\Below w.heap.size w w':=Zac k.s k.n w hT
theorem Ei {w:World} {B:Nat} {l:List VV} (h:Holds w B (l.flatMap VV.cs)):Nk w (some ⟨B,0,none⟩) l:=fun j v hj=>by
 have hlt:=(List.getElem?_eq_some_iff.1 hj).1
 have hv:=(List.getElem?_eq_some_iff.1 hj).2
 have hlen:(l.flatMap VV.cs).length=l.length * 5:=Nw VV.cs 5 (fun _=>rfl) l
 refine⟨B,0,rfl,h.lt (by omega),fun t u hu=> ?_⟩
 have ht:t<5:=by have:=(List.getElem?_eq_some_iff.1 hu).1;simpa [VV.cs] using this
 have h2:=Px VV.cs 5 (fun _=>rfl) l j t hlt ht
 rw[hv,hu] at h2
 have:=h.cell (j * 5+t) h2
 rw[Nat.zero_add]
 exact this
section
variable {md : Region.Mode} {ops : Array Oper} {Q : Exit → Act → World → Prop} {S : World → Prop} {w w0 : World} {fuel : Nat} {listed : Array Bool} {a : Act} {o : Oper} {E : List Nat} {L : List Ob}
theorem Kd {cs:List Value} {t n:Nat} (i:Nat) (dst:Option Tmp) {rs:List Nat} (hi:ops[i]? =some o) (hd:o.dst=dst) (hw:Region.wanted o (yielded ops a.tmps)=true) (he:(execOp a.eval o).run prog w= .ok (.value (.slice (some ⟨w.heap.size,0,none⟩) n n)) (w.alloc (Obj.cells cs.toArray t))) (hc:0<cs.length) (hL:Sy w0 w E L)
  (hS: ∀X,Sy w0 X E (L++ [Aq w.heap.size cs])->S X) (h: ∀X B,B=w.heap.size->Sy w0 X E (L++ [Aq B cs])->wpAnyH prog md ops Q S fuel (listed.setIfInBounds i true) (a.put dst (.slice (some ⟨B,0,none⟩) n n)) X) (hs:AllReadyH prog md ops Q S fuel listed a w rs):AllReadyH prog md ops Q S fuel listed a w (i::rs):=by
 have hb:=hL.box cs t hc
 exact Zej i dst hi hd hw he (hS _ hb) (h _ _ rfl hb) hs
end
theorem Vo {o:Oper} {a:Act} {w:World} {x0:Operand} {v0:VV} (ho:o.op= .buildSlice 44 1 #[(0,x0)]) (h0:a.eval x0= .agg v0.cs.toArray):(execOp a.eval o).run prog w= .ok (.value (.slice (some ⟨w.heap.size,0,none⟩) 1 1)) (w.alloc (Obj.cells ([v0].flatMap VV.cs).toArray 40)):=by
 have e:(Instr.buildSlice 44 1 #[(0, .agg v0.cs.toArray)]).run prog w= .ok (.slice (some ⟨w.heap.size,0,none⟩) 1 1) (w.alloc (Obj.cells ([v0].flatMap VV.cs).toArray 40)):=by kernel_rfl
 unfold execOp
 simp only[ho,List.map_toArray,List.map_cons,List.map_nil,h0]
 simp[e]
theorem Zaa {o:Oper} {a:Act} {w:World} {x0 x1:Operand} {v0 v1:VV} (ho:o.op= .buildSlice 44 2 #[(0,x0),(1,x1)]) (h0:a.eval x0= .agg v0.cs.toArray) (h1:a.eval x1= .agg v1.cs.toArray):(execOp a.eval o).run prog w= .ok (.value (.slice (some ⟨w.heap.size,0,none⟩) 2 2)) (w.alloc (Obj.cells ([v0,v1].flatMap VV.cs).toArray 40)):=by
 have e:(Instr.buildSlice 44 2 #[(0, .agg v0.cs.toArray),(1, .agg v1.cs.toArray)]).run prog w= .ok (.slice (some ⟨w.heap.size,0,none⟩) 2 2) (w.alloc (Obj.cells ([v0,v1].flatMap VV.cs).toArray 40)):=by kernel_rfl
 unfold execOp
 simp only[ho,List.map_toArray,List.map_cons,List.map_nil,h0,h1]
 simp[e]
theorem ZfA {o:Oper} {a:Act} {w:World} {x0 x1 x2:Operand} {v0 v1 v2:VV} (ho:o.op= .buildSlice 44 3 #[(0,x0),(1,x1),(2,x2)]) (h0:a.eval x0= .agg v0.cs.toArray) (h1:a.eval x1= .agg v1.cs.toArray) (h2:a.eval x2= .agg v2.cs.toArray):(execOp a.eval o).run prog w= .ok (.value (.slice (some ⟨w.heap.size,0,none⟩) 3 3)) (w.alloc (Obj.cells ([v0,v1,v2].flatMap VV.cs).toArray 40)):=by
 have e:(Instr.buildSlice 44 3 #[(0, .agg v0.cs.toArray),(1, .agg v1.cs.toArray),(2, .agg v2.cs.toArray)]).run prog w= .ok (.slice (some ⟨w.heap.size,0,none⟩) 3 3) (w.alloc (Obj.cells ([v0,v1,v2].flatMap VV.cs).toArray 40)):=by kernel_rfl
 unfold execOp
 simp only[ho,List.map_toArray,List.map_cons,List.map_nil,h0,h1,h2]
 simp[e]
theorem Vp {o:Oper} {a:Act} {w:World} {x0 x1:Operand} {e0 e1:Int} (ho:o.op= .buildSlice 159 2 #[(0,x0),(1,x1)]) (h0:a.eval x0= .int .i64 e0) (h1:a.eval x1= .int .i64 e1):(execOp a.eval o).run prog w= .ok (.value (.slice (some ⟨w.heap.size,0,none⟩) 2 2)) (w.alloc (Obj.cells (Nt [e0,e1]).toArray 31)):=by
 have e:(Instr.buildSlice 159 2 #[(0, .int .i64 e0),(1, .int .i64 e1)]).run prog w= .ok (.slice (some ⟨w.heap.size,0,none⟩) 2 2) (w.alloc (Obj.cells (Nt [e0,e1]).toArray 31)):=by kernel_rfl
 unfold execOp
 simp only[ho,List.map_toArray,List.map_cons,List.map_nil,h0,h1]
 simp[e]
theorem ZfC {o:Oper} {a:Act} {w:World} {x0 x1 x2:Operand} {e0 e1 e2:Int} (ho:o.op= .buildSlice 159 3 #[(0,x0),(1,x1),(2,x2)]) (h0:a.eval x0= .int .i64 e0) (h1:a.eval x1= .int .i64 e1) (h2:a.eval x2= .int .i64 e2):(execOp a.eval o).run prog w= .ok (.value (.slice (some ⟨w.heap.size,0,none⟩) 3 3)) (w.alloc (Obj.cells (Nt [e0,e1,e2]).toArray 31)):=by
 have e:(Instr.buildSlice 159 3 #[(0, .int .i64 e0),(1, .int .i64 e1),(2, .int .i64 e2)]).run prog w= .ok (.slice (some ⟨w.heap.size,0,none⟩) 3 3) (w.alloc (Obj.cells (Nt [e0,e1,e2]).toArray 31)):=by kernel_rfl
 unfold execOp
 simp only[ho,List.map_toArray,List.map_cons,List.map_nil,h0,h1,h2]
 simp[e]
theorem Zcw {o:Oper} {a:Act} {w:World} {x0 x1 x2 x3:Operand} {e0 e1 e2 e3:Int} (ho:o.op= .buildSlice 159 4 #[(0,x0),(1,x1),(2,x2),(3,x3)]) (h0:a.eval x0= .int .i64 e0) (h1:a.eval x1= .int .i64 e1) (h2:a.eval x2= .int .i64 e2) (h3:a.eval x3= .int .i64 e3):(execOp a.eval o).run prog w= .ok (.value (.slice (some ⟨w.heap.size,0,none⟩) 4 4)) (w.alloc (Obj.cells (Nt [e0,e1,e2,e3]).toArray 31)):=by
 have e:(Instr.buildSlice 159 4 #[(0, .int .i64 e0),(1, .int .i64 e1),(2, .int .i64 e2),(3, .int .i64 e3)]).run prog w= .ok (.slice (some ⟨w.heap.size,0,none⟩) 4 4) (w.alloc (Obj.cells (Nt [e0,e1,e2,e3]).toArray 31)):=by kernel_rfl
 unfold execOp
 simp only[ho,List.map_toArray,List.map_cons,List.map_nil,h0,h1,h2,h3]
 simp[e]
theorem ZfB {o:Oper} {a:Act} {w:World} {x0 x1 x2 x3 x4:Operand} {e0 e1 e2 e3 e4:Int} (ho:o.op= .buildSlice 159 5 #[(0,x0),(1,x1),(2,x2),(3,x3),(4,x4)]) (h0:a.eval x0= .int .i64 e0) (h1:a.eval x1= .int .i64 e1) (h2:a.eval x2= .int .i64 e2) (h3:a.eval x3= .int .i64 e3) (h4:a.eval x4= .int .i64 e4):(execOp a.eval o).run prog w= .ok (.value (.slice (some ⟨w.heap.size,0,none⟩) 5 5)) (w.alloc (Obj.cells (Nt [e0,e1,e2,e3,e4]).toArray 31)):=by
 have e:(Instr.buildSlice 159 5 #[(0, .int .i64 e0),(1, .int .i64 e1),(2, .int .i64 e2),(3, .int .i64 e3),(4, .int .i64 e4)]).run prog w= .ok (.slice (some ⟨w.heap.size,0,none⟩) 5 5) (w.alloc (Obj.cells (Nt [e0,e1,e2,e3,e4]).toArray 31)):=by kernel_rfl
 unfold execOp
 simp only[ho,List.map_toArray,List.map_cons,List.map_nil,h0,h1,h2,h3,h4]
 simp[e]
def Db (v:VV):Int:=if v.k=2∨v.k=7 then 0 else 5
theorem Nc (v:VV) (w:World):Calls prog 86 #[v.agg] w fun e w'=>e= .returned (.int .i64 (Db v))/\Below w.heap.size w w':=by
 unfold Db
 by_cases h2:v.k=2
 ·rw[if_pos (Or.inl h2)]
  have SS:=Ab (Sy.nil w [])
  rw[Bu]
  go_enter func86,ntmps86
  go_wp2_with (first|go_skip|((with_reducible show wpList ..);first|(refine zB 40 (v.cs) (by rfl) rfl rfl rfl SS ?_;clear SS;intro X1 B1 SS;simp only[nn])|(refine rd rfl (Ad 3 isAgg3 rfl rfl ((Aa SS).hold 0 rfl) rfl) ?_)|(refine rd rfl (Jb rfl rfl rfl h2) ?_)))
  go_ret
  exact⟨rfl,(Aa SS).fr.below⟩
 ·by_cases h7:v.k=7
  ·rw[if_pos (Or.inr h7)]
   have SS:=Ab (Sy.nil w [])
   rw[Bu]
   go_enter func86,ntmps86
   go_wp2_with (first|go_skip|((with_reducible show wpList ..);first|(refine zB 40 (v.cs) (by rfl) rfl rfl rfl SS ?_;clear SS;intro X1 B1 SS;simp only[nn])|(refine rd rfl (Ad 3 isAgg3 rfl rfl ((Aa SS).hold 0 rfl) rfl) ?_)|(refine rd rfl (Jp rfl rfl rfl h2) ?_)|(refine rd rfl (Jb rfl rfl rfl h7) ?_)))
   go_ret
   exact⟨rfl,(Aa SS).fr.below⟩
  ·rw[if_neg (by simp[h2,h7])]
   have SS:=Ab (Sy.nil w [])
   rw[Bu]
   go_enter func86,ntmps86
   go_wp2_with (first|go_skip|((with_reducible show wpList ..);first|(refine zB 40 (v.cs) (by rfl) rfl rfl rfl SS ?_;clear SS;intro X1 B1 SS;simp only[nn])|(refine rd rfl (Ad 3 isAgg3 rfl rfl ((Aa SS).hold 0 rfl) rfl) ?_)|(refine rd rfl (Jp rfl rfl rfl h2) ?_)|(refine rd rfl (Jp rfl rfl rfl h7) ?_)))
   go_ret
   exact⟨rfl,(Aa SS).fr.below⟩
