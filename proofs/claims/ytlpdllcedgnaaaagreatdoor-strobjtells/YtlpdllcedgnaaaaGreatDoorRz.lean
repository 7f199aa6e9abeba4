import Derived.Test.YtlpdllcedgnaaaaGreatDoorRy
import Derived.Deep.Slices
import Derived.SizedLaws
set_option linter.all false
namespace Go.Proofs.YtlpdllcedgnaaaaGreatDoor
set_option maxRecDepth 100000
set_option maxHeartbeats 0
section
open Go.WideShapes Go.ChangeShapes Go Go.Proofs Go.Maps Go.RowKit FM
theorem celO43:Tryz.prog.cellsOf 43=18:=by kernel_rfl
theorem celO41:Tryz.prog.cellsOf 41=1:=by kernel_rfl
theorem celO40:Tryz.prog.cellsOf 40=2:=by kernel_rfl
theorem celO45:Tryz.prog.cellsOf 45=20:=by kernel_rfl
section
variable {H : Type} {enc : TypeId × Value → H} {W : World} {base : Nat} {sp : Nat → Bool} {held : Bool} {m : Nat} {t : TypeId} {x : DataW H × List MemPlace}
theorem Za3 {f0 f1 f2 f3 f4 f5:Field} {cs:List Value} (hs:Tryz.prog.underlying t=some (.struct #[f0,f1,f2,f3,f4,f5])) (hC:Tryz.prog.cellsOf t=18)
  (o0:f0.offset=0) (o1:f1.offset=5) (o2:f2.offset=10) (o3:f3.offset=15) (o4:f4.offset=16) (o5:f5.offset=17)
  (t0:f0.type=36) (t1:f1.type=36) (t2:f2.type=36) (t3:f3.type=41) (t4:f4.type=41) (t5:f5.type=41)
  (h:DataW.trod enc Tryz.prog W base sp held m t cs=some x): ∃d:DD,cs=d.cs/\FD d:=by
 obtain⟨xs,n,_,rfl,hl,hlen,hf⟩:=DataW.trod_struct hs h
 rw[hC] at hl
 match cs,hl with
 | [c0,c1,c2,c3,c4,c5,c6,c7,c8,c9,c10,c11,c12,c13,c14,c15,c16,c17],_=>
  have h0:=hf 0 _ rfl
  have h1:=hf 1 _ rfl
  have h2:=hf 2 _ rfl
  have h3:=hf 3 _ rfl
  have h4:=hf 4 _ rfl
  have h5:=hf 5 _ rfl
  simp[t0,t1,t2,t3,t4,t5,o0,o1,o2,o3,o4,o5,Yg,celO41] at h0 h1 h2 h3 h4 h5 hlen
  have g: ∀j,j<6-> ∃y,xs[j]? =some y:=fun j hj=>⟨_,List.getElem?_eq_getElem (by omega)⟩
  obtain⟨y0,e0⟩:=g 0 (by omega)
  obtain⟨y1,e1⟩:=g 1 (by omega)
  obtain⟨y2,e2⟩:=g 2 (by omega)
  obtain⟨y3,e3⟩:=g 3 (by omega)
  obtain⟨y4,e4⟩:=g 4 (by omega)
  obtain⟨y5,e5⟩:=g 5 (by omega)
  rw[e0] at h0
  rw[e1] at h1
  rw[e2] at h2
  rw[e3] at h3
  rw[e4] at h4
  rw[e5] at h5
  obtain⟨v,q0,x0,z0, -⟩:=Mj h0
  obtain⟨g,q1,x1, -⟩:=Mj h1
  obtain⟨s,q2,x2, -⟩:=Mj h2
  obtain⟨a,q3, -⟩:=Lf Tryz.underlying41 h3
  obtain⟨e,q4, -⟩:=Lf Tryz.underlying41 h4
  obtain⟨c,q5, -⟩:=Lf Tryz.underlying41 h5
  simp only[List.cons.injEq] at q0 q1 q2
  obtain⟨rfl,rfl,rfl,rfl,rfl, -⟩:=q0
  obtain⟨rfl,rfl,rfl,rfl,rfl, -⟩:=q1
  obtain⟨rfl,rfl,rfl,rfl,rfl, -⟩:=q2
  subst q3 q4 q5
  exact⟨⟨v,g,s,a,e,c⟩,rfl,x0,x1,x2⟩
theorem ZbV {cs:List Value} (h:DataW.trod enc Tryz.prog W base sp held m 43 cs=some x): ∃d:DD,cs=d.cs/\FD d:=
 Za3 Tryz.underlying43 celO43 rfl rfl rfl rfl rfl rfl rfl rfl rfl rfl rfl rfl h
theorem ZbU {f0 f1:Field} {cs:List Value} (hs:Tryz.prog.underlying t=some (.struct #[f0,f1])) (hC:Tryz.prog.cellsOf t=2) (o0:f0.offset=0) (o1:f1.offset=1) (t0:f0.type=9) (t1:f1.type=3)
  (h:DataW.trod enc Tryz.prog W base sp held m t cs=some x): ∃k:KK,cs=k.cs/\OkK k:=by
 obtain⟨xs,n,_,rfl,hl,hlen,hf⟩:=DataW.trod_struct hs h
 rw[hC] at hl
 match cs,hl with
 | [c0,c1],_=>
  have h0:=hf 0 _ rfl
  have h1:=hf 1 _ rfl
  simp[t0,t1,o0,o1,Za4,Vd] at h0 h1 hlen
  have g: ∀j,j<2-> ∃y,xs[j]? =some y:=fun j hj=>⟨_,List.getElem?_eq_getElem (by omega)⟩
  obtain⟨y0,e0⟩:=g 0 (by omega)
  obtain⟨y1,e1⟩:=g 1 (by omega)
  rw[e0] at h0
  rw[e1] at h1
  obtain⟨s,rfl,hs1, -⟩:=Qi Tryz.underlying9 h0
  obtain⟨n,rfl,hn1, -⟩:=Lf Tryz.underlying3 h1
  exact⟨⟨s,n⟩,rfl,hs1,hn1⟩
theorem ZdC {cs:List Value} (h:DataW.trod enc Tryz.prog W base sp held m 40 cs=some x): ∃k:KK,cs=k.cs/\OkK k:=
 ZbU Tryz.underlying40 celO40 rfl rfl rfl rfl h
theorem ZbT {cs:List Value} (h:DataW.trod enc Tryz.prog W base sp held m 45 cs=some x): ∃p:KK×DD,cs=p.1.cs++p.2.cs/\FD p.2:=by
 obtain⟨y0,y1,n,rfl,hl,h0,h1⟩:=trod_struct2 Tryz.underlying45 h
 rw[celO45] at hl
 simp only[celO40,celO43,List.drop_zero] at h0 h1
 obtain⟨k,hk,hok⟩:=ZdC h0
 obtain⟨d,hd,hfd⟩:=ZbV h1
 refine⟨(k,d), ?_,hfd⟩
 show cs=k.cs++d.cs
 rw[←hk,←hd]
 have e:(cs.drop 2).take 18=cs.drop 2:=List.take_of_length_le (by simp[hl])
 rw[e,List.take_append_drop]
end
theorem ZbW {w:World} {b o:Nat} {sp:Option Nat} {v:Value} (h:w.cell? ⟨b,o,sp⟩=some v):sp=none/\b<w.heap.size:=by
 constructor
 ·cases sp with
  |none=>rfl
  |some s=>
   simp only[World.cell?] at h
   split at h<;>simp at h
 ·rcases Nat.lt_or_ge b w.heap.size with h'|h'
  ·exact h'
  ·simp[World.cell?,Array.getElem?_eq_none h'] at h
theorem rows_of {α:Type} {f:α->List Value} {k:Nat} (hk: ∀a,(f a).length=k) (h0:0<k) {Pr:α->Prop} {W:World} {a:Addr} {n:Nat} (each: ∀i,i<n-> ∃u:α,Pr u/\W.cells? 0 (a.add (i * k)) k=some (f u)):
  ∃l:List α,l.length=n/\ ∀(j:Nat) (u:α),l[j]? =some u->Pr u/\ ∃b off,a=⟨b,off,none⟩/\b<W.heap.size/\W.rangeAt b (off+j * k) (f u):=by
 have mk: ∀q,q<=n-> ∃l:List α,l.length=q/\ ∀(i:Nat) (u:α),l[i]? =some u->Pr u/\W.cells? 0 (a.add (i * k)) k=some (f u):=by
  intro q
  induction q with
  |zero=>exact fun _=>⟨[],rfl,fun i u hu=>by simp at hu⟩
  |succ q ih=>
   intro hq
   obtain⟨l,hl,hl2⟩:=ih (by omega)
   obtain⟨u,hu2⟩:=each q (by omega)
   refine⟨l++ [u],by simp[hl],fun i u' hu'=> ?_⟩
   rcases Nat.lt_or_ge i l.length with h1|h1
   ·rw[List.getElem?_append_left h1] at hu'
    exact hl2 i u' hu'
   ·rw[List.getElem?_append_right h1] at hu'
    have h3:=(List.getElem?_eq_some_iff.1 hu').1
    have h4:i=q:=by simp at h3;omega
    subst h4
    rw[hl,Nat.sub_self] at hu'
    obtain rfl:u=u':=by simpa using hu'
    exact hu2
 obtain⟨l,hll,hlc⟩:=mk n (Nat.le_refl _)
 refine⟨l,hll,fun j u hu=>⟨(hlc j u hu).1, ?_⟩⟩
 have h1:=(World.cells?_some (hlc j u hu).2).2.2
 obtain⟨b,off,sp⟩:=a
 have hl0:0<l.length:=Nat.lt_of_le_of_lt (Nat.zero_le _) (List.getElem?_eq_some_iff.1 hu).1
 have h00:=(World.cells?_some (hlc 0 l[0] (List.getElem?_eq_getElem hl0)).2).2.2 0 h0
 have e0:(Addr.add (Addr.add ⟨b,off,sp⟩ (0 * k)) 0)=⟨b,off,sp⟩:=by simp[Addr.add]
 have hlen:0<(f l[0]).length:=by rw[hk];exact h0
 rw[e0,List.getElem?_eq_getElem hlen] at h00
 obtain⟨rfl,hb⟩:=ZbW h00
 refine⟨b,off,rfl,hb,fun t v hv=> ?_⟩
 have ht:t<k:=by
  have:=(List.getElem?_eq_some_iff.1 hv).1
  rwa [hk] at this
 have h2:=h1 t ht
 rw[add_plain,add_plain] at h2
 rw[h2]
 exact hv
section
variable {H : Type} {enc : TypeId × Value → H} {W : World} {m : Nat} {x : DataW H × List MemPlace}
theorem Zdd {cs:List Value} (h:DataW.trod enc Tryz.prog W 0 (fun _=>true) true m 22 cs=some x):
  ∃(A:Option Addr) (cap:Nat) (l:List (KK×DD)),cs= [.slice A l.length cap]/\Qb W A l/\(∀e∈l,FD e.2):=by
 rcases Go.Deep.open_slice Tryz.underlying22 h with ⟨hcs,hx⟩|⟨a,len,cap,mm,k,D,Pl,hcs,_,hl,hm,hme,hx,hel⟩
 ·exact⟨none,0, [],hcs,fun j u hu=>by simp at hu,by simp⟩
 ·have hme':len<=mm:=by
   simp at hme
   omega
  have each: ∀i,i<len-> ∃u:KK×DD,FD u.2/\W.cells? 0 (a.add (i * 20)) 20=some (u.1.cs++u.2.cs):=by
   intro i hi
   obtain⟨cs',h1,h2⟩:=hel i (by omega)
   obtain⟨u,rfl,hu⟩:=ZbT h2
   rw[celO45] at h1
   exact⟨u,hu,h1⟩
  obtain⟨l,hll,hlr⟩:=rows_of (f:=fun u:KK×DD=>u.1.cs++u.2.cs) (fun _=>rfl) (by omega) each
  refine⟨some a,cap,l,by rw[hcs,hll],fun j p hp=> ?_,fun e he=> ?_⟩
  ·obtain⟨h1,b,off,rfl,h3,h4⟩:=hlr j p hp
   exact⟨b,off,rfl,h3,h4⟩
  ·obtain⟨j,hj,rfl⟩:=List.getElem_of_mem he
   exact(hlr j _ (List.getElem?_eq_getElem hj)).1
end
