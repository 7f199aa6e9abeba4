import Derived.Test.YtfnohipnenkhoaaGreatDoorRw
set_option linter.all false
namespace Go.Proofs.YtfnohipnenkhoaaGreatDoor
set_option maxRecDepth 100000
set_option maxHeartbeats 0
section
open Go Go.Proofs Go.Maps Go.RowKit FM
attribute [local go_sem] Am Al Ar Ah Ao Ai Aw Do Dn Bq Aj Bo
theorem Sy.beside {w X Y:World} {E:List Nat} {L M:List Ob} (S:Sy w X E L) (T:Sy X Y [] M):Sy w Y E (L++M):=by
 have S2:=S.on T.fr.below
 refine⟨S2.fr,fun o ho=> ?_,fun o ho=> ?_,fun o ho b hb=> ?_, ?_⟩
 ·rcases List.mem_append.1 ho with h1|h1
  ·exact S2.ok o h1
  ·exact T.ok o h1
 ·rcases List.mem_append.1 ho with h1|h1
  ·exact S2.ho o h1
  ·exact T.ho o h1
 ·rcases List.mem_append.1 ho with h1|h1
  ·exact S2.lo o h1 b hb
  ·rcases T.lo o h1 b hb with h2|h2
   ·cases h2
   ·exact .inr (Nat.le_trans S.fr.size h2)
 ·rw[List.pairwise_append]
  refine⟨S2.dis,T.dis,fun a ha b hb x hx hxb=> ?_⟩
  have h1:=(S.ok a ha).lt (S.ho a ha) x hx
  rcases T.lo b hb x hxb with h2|h2
  ·cases h2
  ·omega
theorem new_gd {B:Nat} {c f d:Int} (h:Nr c f d=false) (hf:f<=9223372036854775807):(Jg B c f d).Gd 0:=by
 simp only[Nr,Bool.or_eq_false_iff,decide_eq_false_iff_not] at h
 obtain⟨h1,h2,h3,h4,h5⟩:=h
 exact⟨⟨⟨Nat.zero_le _,by show 0<=f;omega,hf,Int.le_refl _,by show 0<=d;omega,by show d<=_;omega⟩,fun j q hj=>(by cases hj)⟩,⟨fun _=>0,fun j i q hj=>(by cases hj)⟩,fun j q hj=>(by cases hj),by show c<=65536;omega,by show ((0:Nat):Int)<=c;omega⟩
theorem new_sy {w X Y:World} {L:List Ob} {B:Nat} {c f d:Int} (S:Sy w X [] L) (h:(Jg B c f d).Is Y) (hB:X.heap.size<=B) (k:Below X.heap.size X Y):Sy w Y [] (L++ [hpO (Jg B c f d)]):=S.add (Zdr _) h k (fun b hb=>by
 have e:b∈(Jg B c f d).blocks:=hb
 rw[Zdo,List.mem_singleton] at e
 omega)
theorem abs_ok {h:HP} {N:Nat} {X:World} (H:h.Is X) (G:h.Gd N) (hN:N<=90000):h.abs.length<=1000000/\ ∀s∈h.abs,s.ps.length<=1000000/\s.p.x<2^64/\ ∀e∈s.ps,FD e.2:=by
 refine⟨?_,fun s hs=> ?_⟩
 ·have:=G.wf.ok.len
  unfold HP.abs
  rw[List.length_map]
  omega
 ·obtain⟨q,hq,rfl⟩:=List.mem_map.1 hs
  obtain⟨j,hj,rfl⟩:=List.getElem_of_mem hq
  have hj2:=List.getElem?_eq_getElem hj
  have h1:=G.few j _ hj2
  have h2:=Vp (H.ob hj2).2.1
  have h3:=G.wf.ob j _ hj2
  refine⟨?_,h3.px,fun e he=>(h3.ps e he).1⟩
  show (pr _).length<=_
  rw[Zde]
  omega
