import Derived.Test.YtfefpbjkbmaicaaGreatDoorRf
set_option linter.all false
namespace Go.Proofs.YtfefpbjkbmaicaaGreatDoor
set_option maxRecDepth 100000
set_option maxHeartbeats 0
section
open Go Go.Proofs Go.Maps Go.RowKit FM
attribute [local go_sem] Av Ap Dv Du De Au Ao Az Dd Gu Gt
def tabO (T:TT):Ob:=⟨T.blocks,T.Is⟩
theorem Pb (T:TT):(tabO T).Ok:=⟨fun h k=>TT.Is.block k h,fun h b hb=>TT.Is.lt h b hb⟩
theorem ex_app {o:Oper} {a:Act} {w:World} {t e:TypeId} {size bytes n m c B base:Nat} {z v:Value} {xs news:List Value} {s x:Operand} (ho:o.op= .call {callee:= .builtin .append,args:= #[s,x],argTypes:= #[t,t]}) (hs:a.eval s=v) (hx:a.eval x= .slice (some ⟨B,0,none⟩) m c)
  (ht:Tryz.prog.underlying t=some (.slice e)) (hi:(Tryz.prog.info? e).map (fun i=>(i.zero,i.size,i.bytes))=some (some z,size,bytes)) (hz:z.cells.size=size) (hsz:0<size) (hown:w.ownsRow base e size v n xs) (hB:Holds w B news) (hl:news.length=m * size) (h1: ∀u∈news,u.oneCell'=true)
  (hn:n+m<=4000000) (hby:bytes<=10000) (hbase:base<=w.heap.size): ∃A c' w',(execOp a.eval o).run Tryz.prog w= .ok (.value (.slice A (n+m) c')) w'/\w'.ownsRow base e size (.slice A (n+m) c') (n+m) (xs++news)/\w.grownBy w' v.ownBlock/\Vz w v (.slice A (n+m) c'):=by
 obtain⟨i0,hi,hz0,hz1,hz2⟩:=info_parts hi
 obtain⟨v',w',hrun,h2,h3,h4⟩:=Pz w base t o.type e i0 _ size bytes ht hi hz0 hz1 hz2 hz hsz v n xs hown ⟨B,0,none⟩ m c news hl (fun j u hj=>by
  rw[Addr.add_mid]
  exact hB.2 j u hj) h1 (by unfold maxLen;omega) (Nat.le_trans (Nat.mul_le_mul hn hby) (by decide)) hbase
 obtain⟨A',c',rfl⟩:=Kj h2
 refine⟨A',c',w', ?_,h2,h3,h4⟩
 simp[execOp,ho,resolve,invoke,builtin,hs,hx,hrun,Result.andThen]
theorem Uy {md:Region.Mode} {ops:Array Oper} {Q:Exit->Act->World->Prop} {S:World->Prop} {w:World} {fuel:Nat} {listed:Array Bool} {a:Act} {o:Oper} {t e:TypeId} {size bytes n m c B base:Nat} {z v:Value} {xs news:List Value} {s x:Operand} {rs:List Nat} (i:Nat) (dst:Option Tmp) (hi':ops[i]? =some o) (hd:o.dst=dst) (hw:Region.wanted o (yielded ops a.tmps)=true) (ho:o.op= .call {callee:= .builtin .append,args:= #[s,x],argTypes:= #[t,t]}) (hs:a.eval s=v) (hx:a.eval x= .slice (some ⟨B,0,none⟩) m c)
  (ht:Tryz.prog.underlying t=some (.slice e)) (hi:(Tryz.prog.info? e).map (fun i=>(i.zero,i.size,i.bytes))=some (some z,size,bytes)) (hz:z.cells.size=size) (hsz:0<size) (hown:w.ownsRow base e size v n xs) (hB:Holds w B news) (hl:news.length=m * size) (h1: ∀u∈news,u.oneCell'=true)
  (hn:n+m<=4000000) (hby:bytes<=10000) (hbase:base<=w.heap.size) (hS: ∀X,S X) (h: ∀A c' w',w'.ownsRow base e size (.slice A (n+m) c') (n+m) (xs++news)->w.grownBy w' v.ownBlock->Vz w v (.slice A (n+m) c')->wpAnyH Tryz.prog md ops Q S fuel (listed.setIfInBounds i true) (a.put dst (.slice A (n+m) c')) w') (hrs:AllReadyH Tryz.prog md ops Q S fuel listed a w rs):AllReadyH Tryz.prog md ops Q S fuel listed a w (i::rs):=by
 obtain⟨A,c',w',hrun,h2,h3,h4⟩:=ex_app ho hs hx ht hi hz hsz hown hB hl h1 hn hby hbase
 exact ZaW i dst hi' hd hw hrun (hS _) (h A c' w' h2 h3 h4) hrs
theorem Sy.open {w X:World} {E:List Nat} {M:List Ob} {h:HP} (S:Sy w X E (hpO h::M)):Sy w X E (h.things++M):=by
 have H:h.Is X:=S.get 0 rfl
 have hd:=S.dis
 rw[List.pairwise_cons] at hd
 refine⟨S.fr,fun o ho=> ?_,fun o ho=> ?_,fun o ho b hb=> ?_, ?_⟩
 ·rcases List.mem_append.1 ho with h1|h1
  ·exact Np h o h1
  ·exact S.ok o (List.mem_cons_of_mem _ h1)
 ·rcases List.mem_append.1 ho with h1|h1
  ·exact H.ho o h1
  ·exact S.ho o (List.mem_cons_of_mem _ h1)
 ·rcases List.mem_append.1 ho with h1|h1
  ·exact S.lo _ (List.mem_cons_self ..) b (HP.mem_blocks h1 hb)
  ·exact S.lo o (List.mem_cons_of_mem _ h1) b hb
 ·rw[List.pairwise_append]
  exact⟨H.dis,hd.2,fun a ha b hb x hx hxb=>hd.1 b hb x (HP.mem_blocks ha hx) hxb⟩
def HP.more (h:HP) (gv:Value) (q:OB):HP:={h with gv:=gv,l:=h.l++ [q]}
theorem ZaC {L:List Ob} (h:L.Pairwise (fun a b=> ∀x∈a.bs,x ∉ b.bs)) {i j:Nat} {a b:Ob} (hi:L[i]? =some a) (hj:L[j]? =some b) (hne:i≠j): ∀x∈a.bs,x ∉ b.bs:=by
 obtain⟨hil,hi'⟩:=List.getElem?_eq_some_iff.1 hi
 obtain⟨hjl,hj'⟩:=List.getElem?_eq_some_iff.1 hj
 intro x hx hxb
 rcases Nat.lt_or_gt_of_ne hne with h1|h1
 ·have:=List.pairwise_iff_getElem.1 h i j hil hjl h1
  rw[hi',hj'] at this
  exact this x hx hxb
 ·have:=List.pairwise_iff_getElem.1 h j i hjl hil h1
  rw[hi',hj'] at this
  exact this x hxb hx
theorem Sy.join {w X:World} {E:List Nat} {L M:List Ob} {a b c:Ob} (S:Sy w X E (L++a::b::M)) (hok:c.Ok) (hP:c.P X) (hc: ∀x,x∈c.bs->x∈a.bs∨x∈b.bs):Sy w X E (L++ [c]):=by
 have hd:=S.dis
 rw[List.pairwise_append] at hd
 refine⟨S.fr,fun o ho=> ?_,fun o ho=> ?_,fun o ho x hx=> ?_, ?_⟩
 ·rcases List.mem_append.1 ho with h|h
  ·exact S.ok o (List.mem_append_left _ h)
  ·rw[List.mem_singleton.1 h];exact hok
 ·rcases List.mem_append.1 ho with h|h
  ·exact S.ho o (List.mem_append_left _ h)
  ·rw[List.mem_singleton.1 h];exact hP
 ·rcases List.mem_append.1 ho with h|h
  ·exact S.lo o (List.mem_append_left _ h) x hx
  ·rw[List.mem_singleton.1 h] at hx
   rcases hc x hx with h1|h1
   ·exact S.lo a (List.mem_append_right _ (List.mem_cons_self ..)) x h1
   ·exact S.lo b (List.mem_append_right _ (List.mem_cons_of_mem _ (List.mem_cons_self ..))) x h1
 ·rw[List.pairwise_append]
  refine⟨hd.1,by simp,fun o ho q hq x hx hxq=> ?_⟩
  rw[List.mem_singleton.1 hq] at hxq
  rcases hc x hxq with h1|h1
  ·exact hd.2.2 o ho a (List.mem_cons_self ..) x hx h1
  ·exact hd.2.2 o ho b (List.mem_cons_of_mem _ (List.mem_cons_self ..)) x hx h1
theorem Sy.drop1 {w X:World} {E:List Nat} {L M:List Ob} {a:Ob} (S:Sy w X E (L++a::M)):Sy w X E (L++M):=by
 have hd:=S.dis
 have hm: ∀o∈L++M,o∈L++a::M:=fun o ho=>by
  rcases List.mem_append.1 ho with h|h
  ·exact List.mem_append_left _ h
  ·exact List.mem_append_right _ (List.mem_cons_of_mem _ h)
 refine⟨S.fr,fun o ho=>S.ok o (hm o ho),fun o ho=>S.ho o (hm o ho),fun o ho=>S.lo o (hm o ho), ?_⟩
 rw[List.pairwise_append] at hd ⊢
 rw[List.pairwise_cons] at hd
 exact⟨hd.1,hd.2.1.2,fun a' ha b hb=>hd.2.2 a' ha b (List.mem_cons_of_mem _ hb)⟩
theorem HP.add_to {h:HP} {w X X':World} {Bv:Nat} {c:List Value} {q:OB} {A:Option Addr} {c':Nat} {M:List Ob} (H:h.Is w) (S:Sy w X h.blocks (hpO h::Al Bv c::tabO q.T::Al q.b q.cs::M)) (hO:X'.ownsRow 0 104 1 (.slice A (h.l.length+1) c') (h.l.length+1) (h.l.map OB.ptr++ [q.ptr])) (hg:X.grownBy X' h.gv.ownBlock) (hF:Vz X h.gv (.slice A (h.l.length+1) c')):h.To (h.more (.slice A (h.l.length+1) c') q) w (X'.setCells h.b 0 [.slice A (h.l.length+1) c']):=by
 have hne:q.b ∉ q.T.blocks:=fun hm=>ZaC S.dis (i:=3) (j:=2) rfl rfl (by decide) q.b (List.mem_singleton.2 rfl) hm
 have S1:=S.open
 have S2:=S1.row 1 (base:=0) (e:=104) (s:=1) (n:=h.l.length) (v:=h.gv) (ys:=h.l.map OB.ptr) rfl hO hg hF
 have S3:=S2.put 0 (b:=h.b) (cs:=hcs h) rfl 0 [.slice A (h.l.length+1) c'] (by simp[hcs])
 have ec:Dq (hcs h) 0 [.slice A (h.l.length+1) c']=hcs (h.more (.slice A (h.l.length+1) c') q):=by simp[Dq,hcs,HP.more]
 rw[ec] at S3
 have S4:Sy w (X'.setCells h.b 0 [.slice A (h.l.length+1) c']) h.blocks ((Al h.b (hcs (h.more (.slice A (h.l.length+1) c') q))::Ew 0 104 1 (.slice A (h.l.length+1) c') (h.l.length+1) (h.l.map OB.ptr++ [q.ptr])::h.e::h.l.map obO)++(Al Bv c::tabO q.T::Al q.b q.cs::M)):=S3
 have S5:=S4.drop1
 have hT:q.T.Is (X'.setCells h.b 0 [.slice A (h.l.length+1) c']):=S5.ho (tabO q.T) (List.mem_append_right _ (List.mem_cons_self ..))
 have hB:Holds (X'.setCells h.b 0 [.slice A (h.l.length+1) c']) q.b q.cs:=(S5.ho (Al q.b q.cs) (List.mem_append_right _ (List.mem_cons_of_mem _ (List.mem_cons_self ..)))).1
 have S6:=S5.join (c:=obO q) (ZaS q) ⟨hB,hT,hne⟩ (fun x hx=>by
  rcases List.mem_cons.1 hx with rfl|hx
  ·exact .inr (List.mem_singleton.2 rfl)
  ·exact .inl hx)
 refine HP.To.of H ?_ rfl
 have e:(h.more (.slice A (h.l.length+1) c') q).things=(Al h.b (hcs (h.more (.slice A (h.l.length+1) c') q))::Ew 0 104 1 (.slice A (h.l.length+1) c') (h.l.length+1) (h.l.map OB.ptr++ [q.ptr])::h.e::h.l.map obO)++ [obO q]:=by
  unfold HP.things HP.more
  simp
 rw[e]
 exact S6
