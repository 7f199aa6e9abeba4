import Derived.Test.YthcmamjpfigdfaaGreatDoorRg
set_option linter.all false
namespace Go.Proofs.YthcmamjpfigdfaaGreatDoor
set_option maxRecDepth 100000
set_option maxHeartbeats 0
section
open Go Go.Proofs Go.Maps Go.RowKit FM
structure LtO (a b:PO):Prop where
 c:b.c=a.c
 x:a.x=false->b.x=false/\b.p=a.p/\ ∀k,hasP b.ps k=true->hasP a.ps k=true
 k: ∀k,stV ((lkP b.ps k).getD zeroD)=true/\keepB ((lkP a.ps k).getD zeroD) ((lkP b.ps k).getD zeroD)=true
theorem ZeV:stV zeroD=true:=by decide+kernel
def Ov (n:Nat) (v:VV):Prop:=v.k=7->v.i<=(n:Int)/\v.good=true
def SdE (n:Nat) (e:KK×DD):Prop:=wholeV e.2=true/\goodK e.1=true/\Ov n e.2.v
structure WhP (n:Nat) (l:List (KK×DD)):Prop where
 e: ∀e∈l,SdE n e
 nd:(l.map Prod.fst).Nodup
def WhO (n:Nat) (a:PO):Prop:=a.p.good=true/\WhP n a.ps
theorem Ov.mono {n m:Nat} {v:VV} (h:Ov n v) (hm:n<=m):Ov m v:=fun h7=>⟨by have:=(h h7).1;omega,(h h7).2⟩
theorem WhP.mono {n m:Nat} {l:List (KK×DD)} (h:WhP n l) (hm:n<=m):WhP m l:=⟨fun e he=>⟨(h.e e he).1,(h.e e he).2.1,(h.e e he).2.2.mono hm⟩,h.nd⟩
theorem WhO.mono {n m:Nat} {a:PO} (h:WhO n a) (hm:n<=m):WhO m a:=⟨h.1,h.2.mono hm⟩
theorem orV_o {n:Nat} {v a:VV} (h1:Ov n v) (h2:Ov n a):Ov n (orV v a):=by
 unfold orV
 split<;>assumption
theorem und_o (n:Nat):Ov n Dk:=fun h=>absurd h (by decide)
theorem ZdQ (n:Nat):Ov n Aq:=fun h=>absurd h (by decide)
theorem fill_o {n:Nat} {d:DD} (h:Ov n d.v):Ov n (Jy d).v:=by
 unfold Jy
 split
 ·exact h
 ·exact orV_o h (und_o n)
theorem app_o {n:Nat} (x:Bool) {m d:DD} (hn:Ov n m.v) (hd:Ov n d.v):Ov n (Ej x m d).v:=by
 unfold Ej
 split
 ·exact ZdQ n
 split
 ·split
  ·exact fill_o hd
  ·exact ZdQ n
 split
 ·exact hn
 unfold Ke
 split
 ·exact fill_o (d:=⟨d.v,d.g,d.s,d.w,orT d.e m.e,orT d.c m.c⟩) hd
 ·exact orV_o hd hn
theorem th_7 {v:VV} (h:v.k=7):thV v=true:=by
 unfold thV
 simp[h]
theorem chk_o {n:Nat} {d:DD} (hc:Mt d=0) (hi:d.v.k=7->d.v.i<=(n:Int)):Ov n d.v:=fun h7=>by
 refine⟨hi h7, ?_⟩
 have hs:Ee d=true:=by
  unfold Mt Eo at hc
  cases hs:Ee d with
  |true=>rfl
  |false=>
   rw[hs] at hc
   simp at hc
 have h1:=(Et hs).1
 rw[th_7 h7] at h1
 simpa using h1
theorem nd_put {l:List (KK×DD)} (h:(l.map Prod.fst).Nodup) (k:KK) (d:DD):((Oj l k d).map Prod.fst).Nodup:=by
 unfold Oj
 by_cases hh:hasP l k=true
 ·rw[if_pos hh,List.map_map]
  have e:(Prod.fst ∘ fun e:KK×DD=>if e.1=k then (e.1,d) else e)=Prod.fst:=by
   funext e
   by_cases he:e.1=k<;>simp[he]
  rw[e]
  exact h
 ·rw[if_neg hh,List.map_append]
  refine List.nodup_append.2 ⟨h,by simp,fun a ha b hb hab=> ?_⟩
  obtain⟨e,he,rfl⟩:=List.mem_map.1 ha
  have hb':b=k:=by simpa using hb
  subst hb'
  exact hh (List.any_eq_true.2 ⟨e,he,by simp[hab]⟩)
theorem nd_del {l:List (KK×DD)} (h:(l.map Prod.fst).Nodup) (k:KK):((Un l k).map Prod.fst).Nodup:=h.sublist (List.filter_sublist.map _)
theorem Zfg {l:List (KK×DD)} {k:KK} {d:DD} (h:lkP l k=some d):(k,d)∈l:=by
 unfold lkP at h
 obtain⟨e,he,rfl⟩:=Option.map_eq_some_iff.1 h
 have h1:e.1=k:=by simpa using List.find?_some he
 rw[←h1]
 exact List.mem_of_find?_eq_some he
theorem wh_o {n:Nat} {l:List (KK×DD)} (h:WhP n l) (k:KK):Ov n ((lkP l k).getD zeroD).v:=by
 cases hl:lkP l k with
 |none=>exact ZdQ n
 |some d=>exact(h.e _ (Zfg hl)).2.2
theorem Zx {n:Nat} {l:List (KK×DD)} (h:WhP n l) (k:KK):stV ((lkP l k).getD zeroD)=true:=by
 unfold lkP
 cases hf:l.find? (fun e=>decide (e.1=k)) with
 |none=>exact ZeV
 |some e=>exact(Ut (h.e e (List.mem_of_find?_eq_some hf)).1).1
theorem LtO.refl {n:Nat} {a:PO} (h:WhP n a.ps):LtO a a:=⟨rfl,fun hx=>⟨hx,rfl,fun _ h=>h⟩,fun k=>⟨Zx h k,Qz (Zx h k)⟩⟩
theorem LtO.trans {a b c:PO} (h1:LtO a b) (h2:LtO b c):LtO a c:=
 ⟨h2.c.trans h1.c,fun hx=>by
  obtain⟨x1,p1,k1⟩:=h1.x hx
  obtain⟨x2,p2,k2⟩:=h2.x x1
  exact⟨x2,p2.trans p1,fun k hk=>k1 k (k2 k hk)⟩,fun k=>⟨(h2.k k).1,Zep (h2.k k).1 (h1.k k).2 (h2.k k).2⟩⟩
def LtH (a b:List PO):Prop:= ∀(i:Nat) (q:PO),a[i]? =some q-> ∃r,b[i]? =some r/\LtO q r
theorem LtH.refl {n:Nat} {a:List PO} (h: ∀q∈a,WhO n q):LtH a a:=fun i q hq=>⟨q,hq,LtO.refl (h q (List.mem_of_getElem? hq)).2⟩
theorem LtH.trans {a b c:List PO} (h1:LtH a b) (h2:LtH b c):LtH a c:=fun i q hq=>by
 obtain⟨r,hr,k1⟩:=h1 i q hq
 obtain⟨t,ht,k2⟩:=h2 i r hr
 exact⟨t,ht,k1.trans k2⟩
theorem LtH.len {a b:List PO} (h:LtH a b):a.length<=b.length:=by
 rcases Nat.lt_or_ge b.length a.length with hl|hl
 ·obtain⟨r,hr, -⟩:=h b.length a[b.length] (List.getElem?_eq_getElem hl)
  rw[List.getElem?_eq_none (Nat.le_refl _)] at hr
  cases hr
 ·exact hl
theorem LtH.set {n:Nat} {a:List PO} (h: ∀q∈a,WhO n q) {j:Nat} {q r:PO} (hj:a[j]? =some q) (hk:LtO q r):LtH a (a.set j r):=fun i t ht=>by
 by_cases hij:j=i
 ·subst hij
  rw[hj] at ht
  cases ht
  exact⟨r,by rw[List.getElem?_set_self (List.getElem?_eq_some_iff.1 hj).1],hk⟩
 ·exact⟨t,by rw[List.getElem?_set_ne hij,ht],LtO.refl (h t (List.mem_of_getElem? ht)).2⟩
theorem LtH.add {n:Nat} {a:List PO} (h: ∀q∈a,WhO n q) (r:PO):LtH a (a++ [r]):=fun i t ht=>⟨t,by rw[List.getElem?_append_left (List.getElem?_eq_some_iff.1 ht).1,ht],LtO.refl (h t (List.mem_of_getElem? ht)).2⟩
theorem Zbm (l:List (KK×DD)) (k k':KK) (d:DD):(l.map (fun e=>if e.1=k then (e.1,d) else e)).find? (fun e=>decide (e.1=k'))=(l.find? (fun e=>decide (e.1=k'))).map (fun e=>if e.1=k then (e.1,d) else e):=by
 rw[List.find?_map]
 congr 2
 funext e
 by_cases he:e.1=k<;>simp[he]
theorem Zff (l:List (KK×DD)) (k k':KK) (d:DD):lkP (Oj l k d) k'=if k'=k then some d else lkP l k':=by
 unfold Oj
 by_cases hh:hasP l k=true
 ·rw[if_pos hh]
  unfold lkP
  rw[Zbm]
  by_cases hk:k'=k
  ·subst hk
   rw[if_pos rfl]
   have hs:(l.find? (fun e=>decide (e.1=k'))).isSome=true:=by rw[List.isSome_find?];exact hh
   obtain⟨e,he⟩:=Option.isSome_iff_exists.1 hs
   have h1:e.1=k':=by simpa using List.find?_some he
   rw[he]
   simp[h1]
  ·rw[if_neg hk]
   cases hf:l.find? (fun e=>decide (e.1=k')) with
   |none=>rfl
   |some e=>
    have h1:e.1=k':=by simpa using List.find?_some hf
    have h2: ¬e.1=k:=fun h=>hk (h1.symm.trans h)
    simp[h2]
 ·rw[if_neg hh]
  unfold lkP
  rw[List.find?_append]
  by_cases hk:k'=k
  ·subst hk
   have hn:l.find? (fun e=>decide (e.1=k'))=none:=by
    cases hf:l.find? (fun e=>decide (e.1=k')) with
    |none=>rfl
    |some e=>
     refine absurd ?_ hh
     unfold hasP
     rw[←List.isSome_find?,hf]
     rfl
   simp[hn]
  ·rw[if_neg hk]
   have: ¬k=k':=fun h=>hk h.symm
   simp[this]
theorem Zfh (l:List (KK×DD)) (k k':KK):lkP (Un l k) k'=if k'=k then none else lkP l k':=by
 unfold lkP Un
 rw[List.find?_filter]
 by_cases hk:k'=k
 ·subst hk
  rw[if_pos rfl]
  have:l.find? (fun a=>decide (decide (a.1≠k')=true/\decide (a.1=k')=true))=none:=by
   rw[List.find?_eq_none]
   intro x _ hx
   simp at hx
  simpa using this
 ·rw[if_neg hk]
  congr 2
  funext e
  by_cases he:e.1=k'
  ·have: ¬e.1=k:=fun h=>hk (he.symm.trans h)
   simp[he,hk]
  ·simp[he]
theorem hasP_put {l:List (KK×DD)} {k k':KK} {d:DD}:hasP (Oj l k d) k'=true↔k'=k∨hasP l k'=true:=by
 rw[←Zax,←Zax,Zff]
 by_cases hk:k'=k<;>simp[hk]
theorem hasP_del {l:List (KK×DD)} {k k':KK} (h:hasP (Un l k) k'=true):hasP l k'=true:=by
 rw[←Zax,Zfh] at h
 rw[←Zax]
 by_cases hk:k'=k
 ·rw[if_pos hk] at h
  cases h
 ·rwa [if_neg hk] at h
def WhH (h:HP):Prop:= ∀q∈h.abs,WhO h.l.length q
theorem lt_shut {n:Nat} {a:PO} (h:WhP n a.ps):LtO a {a with x:=false}:=⟨rfl,fun _=>⟨rfl,rfl,fun _ h=>h⟩,(LtO.refl h).k⟩
theorem lt_prot {n:Nat} {a:PO} (h:WhP n a.ps) (hx:a.x=true) (v:VV):LtO a {a with p:=v}:=⟨rfl,fun h0=>(by rw[hx] at h0;cases h0),(LtO.refl h).k⟩
theorem noZ:noV zeroD=true:=by decide+kernel
theorem app_no {x:Bool} {n d:DD} (h:Pi x n d=true):Jt n d=0/\(noV n=true->x=true):=by
 unfold Pi at h
 unfold Jt
 cases hq:(Eo d==0|| !stV n)
 ·rw[hq] at h
  refine⟨rfl,fun hn=> ?_⟩
  rw[hn] at h
  simpa using h
 ·rw[hq] at h
  cases h
theorem put_memk {l:List (KK×DD)} {k:KK} {d:DD} {e:KK×DD} (h:e∈Oj l k d):e=(k,d)∨e∈l:=by
 unfold Oj at h
 split at h
 ·obtain⟨e0,h1,h2⟩:=List.mem_map.1 h
  by_cases hk:e0.1=k
  ·rw[if_pos hk,hk] at h2
   exact .inl h2.symm
  ·rw[if_neg hk] at h2
   exact .inr (h2▸h1)
 ·rcases List.mem_append.1 h with h1|h1
  ·exact .inr h1
  ·exact .inl (List.mem_singleton.1 h1)
theorem wh_put {n:Nat} {l:List (KK×DD)} (h:WhP n l) {k:KK} {d:DD} (hd:SdE n (k,d)):WhP n (Oj l k d):=⟨fun e he=>by
 rcases put_memk he with h1|h1
 ·rw[h1];exact hd
 ·exact h.e e h1,nd_put h.nd k d⟩
theorem lt_def {n:Nat} {a:PO} (h:WhP n a.ps) {k:KK} {d:DD} (hgk:goodK k=true) (hv:Ov n d.v) (hb:Pi a.x ((lkP a.ps k).getD zeroD) d=true):WhP n (Oj a.ps k (Ej a.x ((lkP a.ps k).getD zeroD) d))/\LtO a {a with ps:=Oj a.ps k (Ej a.x ((lkP a.ps k).getD zeroD) d)}:=by
 obtain⟨hE,hN⟩:=app_no hb
 have hw:=(Za8 hb).2.1.whole
 have h2:=wh_put (k:=k) h ⟨hw,hgk,app_o a.x (wh_o h k) hv⟩
 refine⟨h2,rfl,fun hx=>⟨hx,rfl,fun k' hk=> ?_⟩,fun k'=>⟨Zx h2 k', ?_⟩⟩
 ·rcases hasP_put.1 hk with rfl|hk
  ·rw[←Zax]
   cases hl:lkP a.ps k' with
   |some e=>rfl
   |none=>
    rw[hl] at hN
    rw[hN noZ] at hx
    cases hx
  ·exact hk
 ·show keepB _ ((lkP (Oj a.ps k _) k').getD zeroD)=true
  rw[Zff]
  by_cases hk:k'=k
  ·subst hk
   rw[if_pos rfl]
   exact Zgd hE
  ·rw[if_neg hk]
   exact Qz (Zx h k')
theorem whole_c {d:DD} (h:wholeV d=true) (hc:d.c≠1):d.c=2:=by
 obtain⟨ns,ne,nc,nn⟩:=(Ev d).1 h
 rcases Ru (Et ns).2.2.2.2.2 nc with h1|h1
 ·exact absurd h1 hc
 ·exact h1
theorem lt_del {n:Nat} {a:PO} (h:WhP n a.ps) {k:KK} (hc:((lkP a.ps k).getD zeroD).c≠1):WhP n (Un a.ps k)/\LtO a {a with ps:=Un a.ps k}:=by
 have h2:WhP n (Un a.ps k):=⟨fun e he=>h.e e (List.mem_filter.1 he).1,nd_del h.nd k⟩
 refine⟨h2,rfl,fun hx=>⟨hx,rfl,fun k' hk=>hasP_del hk⟩,fun k'=>⟨Zx h2 k', ?_⟩⟩
 show keepB _ ((lkP (Un a.ps k) k').getD zeroD)=true
 rw[Zfh]
 by_cases hk:k'=k
 ·subst hk
  rw[if_pos rfl]
  show keepB _ zeroD=true
  unfold keepB
  rw[Zx h k',ZeV]
  cases hl:lkP a.ps k' with
  |none=>
   simp[noZ]
  |some d=>
   rw[hl] at hc
   have hw:wholeV d=true:=by
    unfold lkP at hl
    obtain⟨e,he,rfl⟩:=Option.map_eq_some_iff.1 hl
    exact(h.e e (List.mem_of_find?_eq_some he)).1
   have:d.c=2:=whole_c hw hc
   show (if (!true|| !true)=true then false else if (noV d||d.c==2)=true then true else Ln d zeroD)=true
   rw[this]
   simp
 ·rw[if_neg hk]
  exact Qz (Zx h k')
theorem ZdZ {h:HP} {j:Nat} {q q':OB} (hj:h.l[j]? =some q) (hk:WhO h.l.length q.po->WhO h.l.length q'.po/\LtO q.po q'.po) (hw:WhH h):WhH {h with l:=h.l.set j q'}/\LtH h.abs ({h with l:=h.l.set j q'}:HP).abs:=by
 rw[WhH,abs_set,show ({h with l:=h.l.set j q'}:HP).l.length=h.l.length from List.length_set]
 have hq:=abs_at hj
 obtain⟨k1,k2⟩:=hk (hw _ (List.mem_of_getElem? hq))
 refine⟨fun r hr=> ?_,LtH.set hw hq k2⟩
 rcases List.mem_or_eq_of_mem_set hr with h1|h1
 ·exact hw r h1
 ·rw[h1];exact k1
