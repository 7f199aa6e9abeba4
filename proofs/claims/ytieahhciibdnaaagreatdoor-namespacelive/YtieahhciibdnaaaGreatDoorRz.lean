import Derived.Test.YtieahhciibdnaaaGreatDoorRu
import Derived.ProofKit
import Derived.OpenShut
import Derived.Deep.Slices
set_option linter.all false
namespace Go.Proofs.YtieahhciibdnaaaGreatDoor
set_option maxRecDepth 100000
set_option maxHeartbeats 0
section
open Go.WideShapes Go.ChangeShapes Go Go.Proofs Go.Maps Go.RowKit FM
theorem Zae:Tryz.prog.cellsOf 26=5:=by kernel_rfl
theorem Yq:Tryz.prog.cellsOf 3=1:=by kernel_rfl
theorem cellsOf4:Tryz.prog.cellsOf 4=1:=by kernel_rfl
theorem Zeh:Tryz.prog.cellsOf 24=1:=by kernel_rfl
theorem Yp:Tryz.prog.cellsOf 9=1:=by kernel_rfl
theorem Zac:Tryz.prog.cellsOf 48=18:=by kernel_rfl
theorem Zeg:Tryz.prog.cellsOf 46=1:=by kernel_rfl
theorem Zad:Tryz.prog.cellsOf 45=2:=by kernel_rfl
theorem Zab:Tryz.prog.cellsOf 50=20:=by kernel_rfl
section
variable {H : Type} {enc : TypeId × Value → H} {P : Program} {W : World} {base : Nat} {sp : Nat → Bool} {held : Bool} {m : Nat} {c : Value} {x : DataW H × List MemPlace} {t : TypeId}
theorem Zei (hu:P.underlying t=some .bool) (h:DataW.trod enc P W base sp held m t [c]=some x): ∃b,c= .bool b/\x=(.lit (.bool b), []):=by
 cases m with
 |zero=>simp[DataW.trod] at h
 |succ m=>
  unfold DataW.trod at h
  rw[hu] at h
  split at h<;>simp_all
theorem wf64 {b:Nat} (h:(Lit.float .f64 b).wf=true):b<2^64:=by
 unfold Lit.wf at h
 exact of_decide_eq_true h
theorem ZcJ (hu:P.underlying t=some (.float .f64)) (h:DataW.trod enc P W base sp held m t [c]=some x): ∃b,c= .float .f64 b/\b<2^64/\x=(.lit (.float .f64 b), []):=by
 cases m with
 |zero=>simp[DataW.trod] at h
 |succ m=>
  unfold DataW.trod at h
  rw[hu] at h
  split at h<;>simp_all
  rename_i e
  subst e
  exact wf64 h.1.2
theorem Np (hu:P.underlying t=some .string) (h:DataW.trod enc P W base sp held m t [c]=some x): ∃s,c= .string s/\s.size<=maxLen/\x=(.lit (.string s.data.toList), []):=by
 cases m with
 |zero=>simp[DataW.trod] at h
 |succ m=>
  unfold DataW.trod at h
  rw[hu] at h
  split at h<;>simp_all
theorem Mf (hu:P.underlying t=some (.int .i64)) (h:DataW.trod enc P W base sp held m t [c]=some x): ∃n,c= .int .i64 n/\(Lit.int .i64 n).wf=true/\x=(.lit (.int .i64 n), []):=by
 cases m with
 |zero=>simp[DataW.trod] at h
 |succ m=>
  unfold DataW.trod at h
  rw[hu] at h
  split at h<;>simp_all
theorem ZaP {f0 f1 f2 f3 f4:Field} {cs:List Value} (hs:P.underlying t=some (.struct #[f0,f1,f2,f3,f4])) (hC:P.cellsOf t=5)
  (o0:f0.offset=0) (o1:f1.offset=1) (o2:f2.offset=2) (o3:f3.offset=3) (o4:f4.offset=4)
  (u0:P.underlying f0.type=some (.int .i64)) (u1:P.underlying f1.type=some .bool) (u2:P.underlying f2.type=some (.float .f64)) (u3:P.underlying f3.type=some .string) (u4:P.underlying f4.type=some (.int .i64))
  (s0:P.cellsOf f0.type=1) (s1:P.cellsOf f1.type=1) (s2:P.cellsOf f2.type=1) (s3:P.cellsOf f3.type=1) (s4:P.cellsOf f4.type=1)
  (h:DataW.trod enc P W base sp held m t cs=some x):
  ∃u:VV,cs= [.int .i64 u.k, .bool u.b, .float .f64 u.x, .string u.s, .int .i64 u.i]/\u.x<2^64/\u.s.size<=maxLen/\(Lit.int .i64 u.k).wf=true/\(Lit.int .i64 u.i).wf=true:=by
 obtain⟨xs,n,_,rfl,hl,hlen,hf⟩:=DataW.trod_struct hs h
 rw[hC] at hl
 match cs,hl with
 | [c0,c1,c2,c3,c4],_=>
  have h0:=hf 0 _ rfl
  have h1:=hf 1 _ rfl
  have h2:=hf 2 _ rfl
  have h3:=hf 3 _ rfl
  have h4:=hf 4 _ rfl
  simp[s0,s1,s2,s3,s4,o0,o1,o2,o3,o4] at h0 h1 h2 h3 h4 hlen
  have g: ∀j,j<5-> ∃y,xs[j]? =some y:=fun j hj=>⟨_,List.getElem?_eq_getElem (by omega)⟩
  obtain⟨y0,e0⟩:=g 0 (by omega)
  obtain⟨y1,e1⟩:=g 1 (by omega)
  obtain⟨y2,e2⟩:=g 2 (by omega)
  obtain⟨y3,e3⟩:=g 3 (by omega)
  obtain⟨y4,e4⟩:=g 4 (by omega)
  rw[e0] at h0
  rw[e1] at h1
  rw[e2] at h2
  rw[e3] at h3
  rw[e4] at h4
  obtain⟨k,rfl,wk, -⟩:=Mf u0 h0
  obtain⟨b,rfl, -⟩:=Zei u1 h1
  obtain⟨f,rfl,wf, -⟩:=ZcJ u2 h2
  obtain⟨s,rfl,ws, -⟩:=Np u3 h3
  obtain⟨i,rfl,wi, -⟩:=Mf u4 h4
  exact⟨⟨k,b,f,s,i⟩,rfl,wf,ws,wk,wi⟩
end
theorem Lp {H:Type} {enc:TypeId×Value->H} {W:World} {base:Nat} {sp:Nat->Bool} {held:Bool} {m:Nat} {x:DataW H×List MemPlace} {cs:List Value} (h:DataW.trod enc Tryz.prog W base sp held m 26 cs=some x):
  ∃u:VV,cs=u.cs/\u.x<2^64:=by
 obtain⟨u,h1,h2,_⟩:=ZaP Tryz.underlying26 Zae rfl rfl rfl rfl rfl Tryz.underlying3 Tryz.underlying4 Tryz.underlying24 Tryz.underlying9 Tryz.underlying3 Yq cellsOf4 Zeh Yp Yq h
 exact⟨u,h1,h2⟩
theorem add_plain (b o i:Nat):(Addr.add ⟨b,o,none⟩ i)=⟨b,o+i,none⟩:=by
 unfold Addr.add
 by_cases h:i=0
 ·subst h;simp
 ·simp[h]
theorem Yr {w:World} {b o:Nat} {sp:Option Nat} {v:Value} (h:w.cell? ⟨b,o,sp⟩=some v):sp=none/\b<w.heap.size:=by
 constructor
 ·cases sp with
  |none=>rfl
  |some s=>
   simp only[World.cell?] at h
   split at h<;>simp at h
 ·rcases Nat.lt_or_ge b w.heap.size with h'|h'
  ·exact h'
  ·simp[World.cell?,Array.getElem?_eq_none h'] at h
theorem rows_of {α:Type} {f:α->List Value} {k:Nat} (hk: ∀a,(f a).length=k) (h0:0<k) {Pr:α->Prop} {W:World} {a:Addr} {n:Nat} (each: ∀i,i<n-> ∃u:α,Pr u/\W.cells? 0 (a.add (i * k)) k=some (f u)):
  ∃l:List α,l.length=n/\ ∀(j:Nat) (u:α),l[j]? =some u->Pr u/\ ∃b off,a=⟨b,off,none⟩/\b<W.heap.size/\W.rangeAt b (off+j * k) (f u):=by
 have mk: ∀q,q<=n-> ∃l:List α,l.length=q/\ ∀(i:Nat) (u:α),l[i]? =some u->Pr u/\W.cells? 0 (a.add (i * k)) k=some (f u):=by
  intro q
  induction q with
  |zero=>exact fun _=>⟨[],rfl,fun i u hu=>by simp at hu⟩
  |succ q ih=>
   intro hq
   obtain⟨l,hl,hl2⟩:=ih (by omega)
   obtain⟨u,hu2⟩:=each q (by omega)
   refine⟨l++ [u],by simp[hl],fun i u' hu'=> ?_⟩
   rcases Nat.lt_or_ge i l.length with h1|h1
   ·rw[List.getElem?_append_left h1] at hu'
    exact hl2 i u' hu'
   ·rw[List.getElem?_append_right h1] at hu'
    have h3:=(List.getElem?_eq_some_iff.1 hu').1
    have h4:i=q:=by simp at h3;omega
    subst h4
    rw[hl,Nat.sub_self] at hu'
    obtain rfl:u=u':=by simpa using hu'
    exact hu2
 obtain⟨l,hll,hlc⟩:=mk n (Nat.le_refl _)
 refine⟨l,hll,fun j u hu=>⟨(hlc j u hu).1, ?_⟩⟩
 have h1:=(World.cells?_some (hlc j u hu).2).2.2
 obtain⟨b,off,sp⟩:=a
 have hl0:0<l.length:=Nat.lt_of_le_of_lt (Nat.zero_le _) (List.getElem?_eq_some_iff.1 hu).1
 have h00:=(World.cells?_some (hlc 0 l[0] (List.getElem?_eq_getElem hl0)).2).2.2 0 h0
 have e0:(Addr.add (Addr.add ⟨b,off,sp⟩ (0 * k)) 0)=⟨b,off,sp⟩:=by simp[Addr.add]
 have hlen:0<(f l[0]).length:=by rw[hk];exact h0
 rw[e0,List.getElem?_eq_getElem hlen] at h00
 obtain⟨rfl,hb⟩:=Yr h00
 refine⟨b,off,rfl,hb,fun t v hv=> ?_⟩
 have ht:t<k:=by
  have:=(List.getElem?_eq_some_iff.1 hv).1
  rwa [hk] at this
 have h2:=h1 t ht
 rw[add_plain,add_plain] at h2
 rw[h2]
 exact hv
section
variable {H : Type} {enc : TypeId × Value → H} {W : World} {base : Nat} {sp : Nat → Bool} {held : Bool} {m : Nat} {t : TypeId} {x : DataW H × List MemPlace}
theorem ZbW {f0 f1 f2 f3 f4 f5:Field} {cs:List Value} (hs:Tryz.prog.underlying t=some (.struct #[f0,f1,f2,f3,f4,f5])) (hC:Tryz.prog.cellsOf t=18)
  (o0:f0.offset=0) (o1:f1.offset=5) (o2:f2.offset=10) (o3:f3.offset=15) (o4:f4.offset=16) (o5:f5.offset=17)
  (t0:f0.type=26) (t1:f1.type=26) (t2:f2.type=26) (t3:f3.type=46) (t4:f4.type=46) (t5:f5.type=46)
  (h:DataW.trod enc Tryz.prog W base sp held m t cs=some x): ∃d:DD,cs=d.cs/\FD d:=by
 obtain⟨xs,n,_,rfl,hl,hlen,hf⟩:=DataW.trod_struct hs h
 rw[hC] at hl
 match cs,hl with
 | [c0,c1,c2,c3,c4,c5,c6,c7,c8,c9,c10,c11,c12,c13,c14,c15,c16,c17],_=>
  have h0:=hf 0 _ rfl
  have h1:=hf 1 _ rfl
  have h2:=hf 2 _ rfl
  have h3:=hf 3 _ rfl
  have h4:=hf 4 _ rfl
  have h5:=hf 5 _ rfl
  simp[t0,t1,t2,t3,t4,t5,o0,o1,o2,o3,o4,o5,Zae,Zeg] at h0 h1 h2 h3 h4 h5 hlen
  have g: ∀j,j<6-> ∃y,xs[j]? =some y:=fun j hj=>⟨_,List.getElem?_eq_getElem (by omega)⟩
  obtain⟨y0,e0⟩:=g 0 (by omega)
  obtain⟨y1,e1⟩:=g 1 (by omega)
  obtain⟨y2,e2⟩:=g 2 (by omega)
  obtain⟨y3,e3⟩:=g 3 (by omega)
  obtain⟨y4,e4⟩:=g 4 (by omega)
  obtain⟨y5,e5⟩:=g 5 (by omega)
  rw[e0] at h0
  rw[e1] at h1
  rw[e2] at h2
  rw[e3] at h3
  rw[e4] at h4
  rw[e5] at h5
  obtain⟨v,q0,x0⟩:=Lp h0
  obtain⟨g,q1,x1⟩:=Lp h1
  obtain⟨s,q2,x2⟩:=Lp h2
  obtain⟨a,q3, -⟩:=Mf Tryz.underlying46 h3
  obtain⟨e,q4, -⟩:=Mf Tryz.underlying46 h4
  obtain⟨c,q5, -⟩:=Mf Tryz.underlying46 h5
  simp only[VV.cs,List.cons.injEq] at q0 q1 q2
  obtain⟨rfl,rfl,rfl,rfl,rfl, -⟩:=q0
  obtain⟨rfl,rfl,rfl,rfl,rfl, -⟩:=q1
  obtain⟨rfl,rfl,rfl,rfl,rfl, -⟩:=q2
  subst q3 q4 q5
  exact⟨⟨v,g,s,a,e,c⟩,rfl,x0,x1,x2⟩
theorem ZcI {cs:List Value} (h:DataW.trod enc Tryz.prog W base sp held m 48 cs=some x): ∃d:DD,cs=d.cs/\FD d:=
 ZbW Tryz.underlying48 Zac rfl rfl rfl rfl rfl rfl rfl rfl rfl rfl rfl rfl h
theorem ZcH {f0 f1:Field} {cs:List Value} (hs:Tryz.prog.underlying t=some (.struct #[f0,f1])) (hC:Tryz.prog.cellsOf t=2) (o0:f0.offset=0) (o1:f1.offset=1) (t0:f0.type=9) (t1:f1.type=3)
  (h:DataW.trod enc Tryz.prog W base sp held m t cs=some x): ∃k:KK,cs=k.cs/\OkK k:=by
 obtain⟨xs,n,_,rfl,hl,hlen,hf⟩:=DataW.trod_struct hs h
 rw[hC] at hl
 match cs,hl with
 | [c0,c1],_=>
  have h0:=hf 0 _ rfl
  have h1:=hf 1 _ rfl
  simp[t0,t1,o0,o1,Yp,Yq] at h0 h1 hlen
  have g: ∀j,j<2-> ∃y,xs[j]? =some y:=fun j hj=>⟨_,List.getElem?_eq_getElem (by omega)⟩
  obtain⟨y0,e0⟩:=g 0 (by omega)
  obtain⟨y1,e1⟩:=g 1 (by omega)
  rw[e0] at h0
  rw[e1] at h1
  obtain⟨s,rfl,hs1, -⟩:=Np Tryz.underlying9 h0
  obtain⟨n,rfl,hn1, -⟩:=Mf Tryz.underlying3 h1
  exact⟨⟨s,n⟩,rfl,hs1,hn1⟩
theorem Zef {cs:List Value} (h:DataW.trod enc Tryz.prog W base sp held m 45 cs=some x): ∃k:KK,cs=k.cs/\OkK k:=
 ZcH Tryz.underlying45 Zad rfl rfl rfl rfl h
theorem ZcG {cs:List Value} (h:DataW.trod enc Tryz.prog W base sp held m 50 cs=some x): ∃p:PR,cs=p.cs/\FD p.d/\OkK p.k:=by
 obtain⟨y0,y1,n,rfl,hl,h0,h1⟩:=trod_struct2 Tryz.underlying50 h
 rw[Zab] at hl
 simp only[Zad,Zac,List.drop_zero] at h0 h1
 obtain⟨k,hk,hok⟩:=Zef h0
 obtain⟨d,hd,hfd⟩:=ZcI h1
 refine⟨⟨k,d⟩, ?_,hfd,hok⟩
 show cs=k.cs++d.cs
 rw[←hk,←hd]
 have e:(cs.drop 2).take 18=cs.drop 2:=List.take_of_length_le (by simp[hl])
 rw[e,List.take_append_drop]
end
theorem bytesS:Tryz.prog.bytesOf 9=16:=by kernel_rfl
theorem Zbd:reachBytes=140737488351232:=by decide
def strOf:Value->ByteArray
 | .string s=>s
 |_=>ByteArray.empty
theorem ZdO {H:Type} {enc:TypeId×Value->H} {W:World} {v:Value} {d:DataW H} {p:List MemPlace} {A:Option Addr} {n cap:Nat} (hv:v= .slice A n cap) (h:DataW.Trod enc Tryz.prog W 0 (fun _=>true) true 22 v d p) (hw: ∀n∈d.weights Tryz.prog 22,n<=reachBytes): ∃l:List ByteArray,n=l.length/\ReadsN W A l/\n<=9223372036854775806:=by
 subst hv
 obtain⟨fuel,hf⟩:=h
 rcases Go.Deep.open_slice1 Tryz.underlying22 Yp hf with ⟨hcs,hx⟩|⟨a,len,cap',mm,k,V,D,Pl,hcs,_,hl,hm,hme,hx,hel⟩
 ·simp[Value.cells] at hcs
  obtain⟨rfl,rfl,rfl⟩:=hcs
  exact⟨[],rfl,fun j u hu=>by simp at hu,Nat.zero_le _⟩
 ·simp[Value.cells] at hcs
  obtain⟨rfl,rfl,rfl⟩:=hcs
  have hme':n<=mm:=by
   simp at hme
   omega
  have hbig:n<=9223372036854775806:=by
   have hd:=congrArg Prod.fst hx
   dsimp only at hd
   rw[hd] at hw
   have h1:=hw ((((List.range n).map D).length+((List.range (mm - n)).map fun j=>D (n+j)).length) * Tryz.prog.bytesOf 9) (by simp[DataW.weights,Tryz.underlying22])
   rw[bytesS,Zbd] at h1
   simp at h1
   omega
  refine⟨(List.range n).map fun i=>strOf (V i),by simp,fun j u hu=> ?_,hbig⟩
  have hj:j<n:=by have:=(List.getElem?_eq_some_iff.1 hu).1;simpa using this
  rw[List.getElem?_map,List.getElem?_range hj] at hu
  obtain⟨c1,c2⟩:=hel j (by omega)
  obtain⟨z1,z2⟩:=hel 0 (by omega)
  obtain⟨s,hs, -⟩:=Np Tryz.underlying9 c2
  obtain⟨b,off,sp⟩:=a
  rw[show (Addr.add ⟨b,off,sp⟩ 0)=⟨b,off,sp⟩ by simp[Addr.add]] at z1
  obtain⟨rfl,hb⟩:=Yr z1
  rw[add_plain] at c1
  refine⟨b,off,rfl,hb, ?_⟩
  rw[Nat.mul_one,c1,hs]
  have:strOf (V j)=u:=by simpa using hu
  rw[hs] at this
  rw[←this]
  rfl
theorem open_val {H:Type} {enc:TypeId×Value->H} {W:World} {v:Value} {d:DataW H} {p:List MemPlace} {r:Reach} {b0:Nat} (hval:Value.okWide Tryz.prog W r b0 26 v) (h:DataW.Trod enc Tryz.prog W 0 (fun _=>true) true 26 v d p): ∃u:VV,v=u.agg/\u.x<2^64:=by
 obtain⟨cs,rfl,hsz⟩:=okWide_struct Tryz.underlying26 hval
 obtain⟨fuel,hf⟩:=h
 obtain⟨u,hc,h2⟩:=Lp hf
 refine⟨u, ?_,h2⟩
 have hc':cs.toList=u.cs:=hc
 have:cs=u.cs.toArray:=Array.toList_inj.1 (by simpa using hc')
 rw[this,Db]
theorem bytesP:Tryz.prog.bytesOf 50=192:=by kernel_rfl
theorem ZdN {H:Type} {enc:TypeId×Value->H} {W:World} {v:Value} {d:DataW H} {p:List MemPlace} {A:Option Addr} {n cap:Nat} (hv:v= .slice A n cap) (h:DataW.Trod enc Tryz.prog W 0 (fun _=>true) true 23 v d p) (hw: ∀n∈d.weights Tryz.prog 23,n<=reachBytes): ∃l:List PR,n=l.length/\Pj W A l/\n<=9223372036854775806/\(∀u∈l,FD u.d)/\ ∀u∈l,OkK u.k:=by
 subst hv
 obtain⟨fuel,hf⟩:=h
 rcases Go.Deep.open_slice Tryz.underlying23 hf with ⟨hcs,hx⟩|⟨a,len,cap',mm,k,D,Pl,hcs,_,hl,hm,hme,hx,hel⟩
 ·simp[Value.cells] at hcs
  obtain⟨rfl,rfl,rfl⟩:=hcs
  exact⟨[],rfl,fun j u hu=>by simp at hu,Nat.zero_le _,by simp,by simp⟩
 ·simp[Value.cells] at hcs
  obtain⟨rfl,rfl,rfl⟩:=hcs
  have hme':n<=mm:=by
   simp at hme
   omega
  have each: ∀i,i<n-> ∃u:PR,(FD u.d/\OkK u.k)/\W.cells? 0 (a.add (i * 20)) 20=some u.cs:=by
   intro i hi
   obtain⟨cs',h1,h2⟩:=hel i (by omega)
   obtain⟨u,rfl,hu⟩:=ZcG h2
   rw[Zab] at h1
   exact⟨u,hu,h1⟩
  have hbig:n<=9223372036854775806:=by
   have hd:=congrArg Prod.fst hx
   dsimp only at hd
   rw[hd] at hw
   have h1:=hw ((((List.range n).map D).length+((List.range (mm - n)).map fun j=>D (n+j)).length) * Tryz.prog.bytesOf 50) (by simp[DataW.weights,Tryz.underlying23])
   rw[bytesP,Zbd] at h1
   simp at h1
   omega
  obtain⟨l,hll,hlr⟩:=rows_of (f:=PR.cs) (fun _=>rfl) (by omega) each
  refine⟨l,hll.symm,fun j u hu=> ?_,hbig,fun u hu=> ?_,fun u hu=> ?_⟩
  ·obtain⟨_,b,off,rfl,h6,h7⟩:=hlr j u hu
   exact⟨b,off,rfl,h6,h7⟩
  ·obtain⟨j,hj,rfl⟩:=List.getElem_of_mem hu
   exact(hlr j _ (List.getElem?_eq_getElem hj)).1.1
  ·obtain⟨j,hj,rfl⟩:=List.getElem_of_mem hu
   exact(hlr j _ (List.getElem?_eq_getElem hj)).1.2
