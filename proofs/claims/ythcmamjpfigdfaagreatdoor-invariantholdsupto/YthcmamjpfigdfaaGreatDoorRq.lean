import Derived.Test.YthcmamjpfigdfaaGreatDoorRo
import Derived.Test.YthcmamjpfigdfaaGreatDoorRp
import Derived.ProofKit
set_option linter.all false
namespace Go.Proofs.YthcmamjpfigdfaaGreatDoor
set_option maxRecDepth 100000
set_option maxHeartbeats 0
section
open Go Go.Proofs Go.Maps Go.RowKit FM Tryz
attribute [local go_sem] Al Ak Ar Ah Am Ai Au Dd Db Bi Aj Bh
def MakeP (h:HP) (v:VV) (w:World) (e:Ending) (w':World):Prop:=(e= .returned (.tuple #[.int .i64 0,Ax (orE [Eh h.l.length v,Df v,Ji h])])/\orE [Eh h.l.length v,Df v,Ji h]≠0/\h.To h w w')∨(orE [Eh h.l.length v,Df v,Ji h]=0/\ ∃(gv:Value) (q:OB),e= .returned (.tuple #[.int .i64 ((h.l.length:Int)+1), .nilIface])/\q.c=1/\q.p=v/\q.x=true/\pr q.T= []/\q.T.last=0/\h.To (h.more gv q) w w')
theorem ex_b91 {o:Oper} {a:Act} {w:World} (ho:o.op= .build 109 #[]):(execOp a.eval o).run prog w= .ok (.value (.agg #[])) w:=by
 have e:(Instr.build 109 #[]).run prog w= .ok (.agg #[]) w:=by kernel_rfl
 unfold execOp
 simp only[ho]
 simp[e]
theorem make_h (h:HP) (v:VV) (w:World) (H:h.Is w) (hT:Tabs w) (hl:h.l.length<=65536):Calls prog 15 #[.pointer (some ⟨h.b,0,none⟩),v.agg] w (MakeP h v w):=by
 have SS:=Ab H.start
 rw[Dg]
 go_enter func15,ntmps15
 go_wp2_with (first|go_skip|((with_reducible show wpList ..);first|(refine zB 40 (v.cs) rfl rfl rfl SS ?_;clear SS;intro Xa Ba SS;simp only[nn])|(refine zL (v.cs) 40 5 1 rwV szV rfl rfl SS rfl rfl rfl ?_;simp only[nn])|(refine rd rfl (ex_b91 rfl) ?_)))
 have HC:=add_h h v _ ((Aa SS).hp 0 rfl) (hT.fr (Aa SS).fr H.low) hl
 rw[Dg] at HC
 refine HC.mono ?_
 have T0:h.To h w _:=HP.To.end H (Aa SS) rfl
 rintro _ Y (⟨rfl,hc,T1⟩|⟨hc,gv,q,rfl,a1,a2,a3,a4,a5,T1⟩)
 ·have HT1:=Ab (T0.trans T1)
  clear T1 T0
  go_wp2
  go_ret2
  exact .inl ⟨rfl,hc,Aa HT1⟩
 ·have HT1:=Ab (T0.trans T1)
  clear T1 T0
  have HA:=Ab (And.intro a1 (And.intro a2 (And.intro a3 (And.intro a4 a5))))
  clear a1 a2 a3 a4 a5
  go_wp2
  go_ret2
  exact .inr ⟨hc,gv,q,rfl,(Aa HA).1,(Aa HA).2.1,(Aa HA).2.2.1,(Aa HA).2.2.2.1,(Aa HA).2.2.2.2,Aa HT1⟩
theorem ex_bhp {o:Oper} {a:Act} {w:World} {x1 x2 x3:Operand} (c f d:Int) (ho:o.op= .build 94 #[(1,x1),(2,x2),(3,x3)]) (h1:a.eval x1= .int .i64 c) (h2:a.eval x2= .int .i64 f) (h3:a.eval x3= .int .i64 d):(execOp a.eval o).run prog w= .ok (.value (.agg (hcs ⟨0, .slice none 0 0, [],c,f,d,0⟩).toArray)) w:=by
 have e:(Instr.build 94 #[(1, .int .i64 c),(2, .int .i64 f),(3, .int .i64 d)]).run prog w= .ok (.agg (hcs ⟨0, .slice none 0 0, [],c,f,d,0⟩).toArray) w:=by kernel_rfl
 unfold execOp
 simp only[ho,List.map_toArray,List.map_cons,List.map_nil,h1,h2,h3]
 simp[e]
def Nk (c f d:Int):Bool:=decide (c<0)||(decide (65536<c)||(decide (f<0)||(decide (d<1)||decide (256<d))))
def Oz (b:Nat) (c f d:Int):HP:=⟨b, .slice none 0 0, [],c,f,d,0⟩
theorem new_is {w X:World} {B:Nat} {c f d:Int} (S:Sy w X [] [Av B (hcs ⟨0, .slice none 0 0, [],c,f,d,0⟩)]) (h6:6<=w.heap.size):(Oz B c f d).Is X:=by
 have hB:=S.hold 0 rfl
 have hlo:w.heap.size<=B:=(S.lo _ (List.mem_cons_self ..) B (List.mem_singleton.2 rfl)).elim (fun h=>by cases h) id
 refine⟨fun o ho=> ?_, ?_,fun b hb=> ?_⟩
 ·rcases List.mem_cons.1 ho with rfl|ho
  ·exact⟨hB,by simp[hcs]⟩
  rcases List.mem_cons.1 ho with rfl|ho
  ·exact⟨rfl, .inl ⟨rfl,rfl⟩⟩
  ·cases ho
 ·simp[HP.things,Oz,Ec,Value.ownBlock]
 ·have:b=B:=by simpa [HP.blocks,HP.things,Oz,Ec,Av,Value.ownBlock] using hb
  omega
theorem Zel (B:Nat) (c f d:Int):(Oz B c f d).blocks= [B]:=by simp[HP.blocks,HP.things,Oz,Ec,Av,Value.ownBlock]
def NewP (c f d:Int) (w:World) (e:Ending) (w':World):Prop:=(Nk c f d=true/\e= .returned (.tuple #[.pointer none, .int .i64 7])/\Below w.heap.size w w')∨(Nk c f d=false/\ ∃B,e= .returned (.tuple #[.pointer (some ⟨B,0,none⟩), .int .i64 0])/\(Oz B c f d).Is w'/\w.heap.size<=B/\Below w.heap.size w w')
theorem new_h (c f d:Int) (w:World) (h6:6<=w.heap.size):Calls prog 10 #[.int .i64 c, .int .i64 f, .int .i64 d] w (NewP c f d w):=by
 have SS:=Ab (Sy.nil w [])
 by_cases h1:c<0
 ·have d1:decide (c<0)=true:=decide_eq_true h1
  go_enter func10,ntmps10
  go_wp2
  go_ret2
  exact .inl ⟨by unfold Nk;simp[*],rfl,(Aa SS).fr.below⟩
 ·have d1:decide (c<0)=false:=decide_eq_false h1
  by_cases h2:65536<c
  ·have d2:decide (65536<c)=true:=decide_eq_true h2
   go_enter func10,ntmps10
   go_wp2
   go_ret2
   exact .inl ⟨by unfold Nk;simp[*],rfl,(Aa SS).fr.below⟩
  ·have d2:decide (65536<c)=false:=decide_eq_false h2
   by_cases h3:f<0
   ·have d3:decide (f<0)=true:=decide_eq_true h3
    go_enter func10,ntmps10
    go_wp2
    go_ret2
    exact .inl ⟨by unfold Nk;simp[*],rfl,(Aa SS).fr.below⟩
   ·have d3:decide (f<0)=false:=decide_eq_false h3
    by_cases h4:d<1
    ·have d4:decide (d<1)=true:=decide_eq_true h4
     go_enter func10,ntmps10
     go_wp2
     go_ret2
     exact .inl ⟨by unfold Nk;simp[*],rfl,(Aa SS).fr.below⟩
    ·have d4:decide (d<1)=false:=decide_eq_false h4
     by_cases h5:256<d
     ·have d5:decide (256<d)=true:=decide_eq_true h5
      go_enter func10,ntmps10
      go_wp2
      go_ret2
      exact .inl ⟨by unfold Nk;simp[*],rfl,(Aa SS).fr.below⟩
     ·have d5:decide (256<d)=false:=decide_eq_false h5
      go_enter func10,ntmps10
      go_wp2_with (first|go_skip|((with_reducible show wpList ..);first|(refine rd rfl (ex_bhp c f d rfl rfl rfl rfl) ?_)|(refine zB 94 (hcs ⟨0, .slice none 0 0, [],c,f,d,0⟩) rfl rfl rfl SS ?_;clear SS;intro Xa Ba SS;simp only[nn])))
      go_ret2
      exact .inr ⟨by unfold Nk;simp[*],Ba,rfl,new_is (Aa SS) h6,((Aa SS).lo _ (List.mem_cons_self ..) Ba (List.mem_singleton.2 rfl)).elim (fun h=>by cases h) id,(Aa SS).fr.below⟩
theorem more_gd {h:HP} {N:Nat} (G:h.Gd N) {gv:Value} {q:OB} {v:VV} (hc:orE [Eh h.l.length v,Df v,Ji h]=0) (hx:v.x<2^64) (a1:q.c=1) (a2:q.p=v) (a3:q.x=true) (a4:pr q.T= []) (a5:q.T.last=0):(h.more gv q).Gd N:=by
 have hz:=Ef hc
 have h1:=hz (Eh h.l.length v) (by simp)
 have h2:=Zd9 (hz (Df v) (by simp))
 have h3:=hz (Ji h) (by simp)
 have hroom:(h.l.length:Int)<h.cap:=by
  unfold Ji at h3
  split at h3
  ·cases h3
  ·omega
 have hk:v.k=7->1<=v.i/\v.i<=(h.l.length:Int):=by
  unfold Eh at h1
  split at h1
  ·exact Ua h1 v (by simp)
  ·cases h1
 have hlen:(h.more gv q).l.length=h.l.length+1:=by unfold HP.more;simp
 have hat: ∀(j:Nat) (r:OB),(h.more gv q).l[j]? =some r->(j=h.l.length/\r=q)∨(j<h.l.length/\h.l[j]? =some r):=by
  intro j r hj
  have hj':(h.l++ [q])[j]? =some r:=hj
  rcases Nat.lt_or_ge j h.l.length with h4|h4
  ·rw[List.getElem?_append_left h4] at hj'
   exact .inr ⟨h4,hj'⟩
  ·rw[List.getElem?_append_right h4] at hj'
   have h5:=(List.getElem?_eq_some_iff.1 hj').1
   have h6:j - h.l.length=0:=by simpa using h5
   rw[h6] at hj'
   exact .inl ⟨by omega,(by simpa using hj'.symm)⟩
 have hcap:=G.cap
 refine⟨⟨⟨by rw[hlen];omega,G.wf.ok.f0,G.wf.ok.f1,G.wf.ok.e0,G.wf.ok.e1,G.wf.ok.d1⟩,fun j r hj=> ?_⟩, ?_,fun j r hj=> ?_,G.cap,by rw[hlen];show ((h.l.length+1:Nat):Int)<=h.cap;omega⟩
 ·rw[hlen]
  rcases hat j r hj with ⟨-,rfl⟩|⟨-,hj⟩
  ·exact⟨a1,by rw[a2];exact hx,by rw[a2];exact h2,fun h7=>by rw[a2] at h7 ⊢;have:=hk h7;omega,fun e he=>by rw[a4] at he;cases he⟩
  ·have K:=G.wf.ob j r hj
   exact⟨K.c,K.px,K.pk,fun h7=>by have:=K.pi h7;omega,K.ps⟩
 ·obtain⟨rk,hr⟩:=G.ac
  refine⟨fun x=>if x=h.l.length then rk (v.i - 1).toNat+1 else rk x,fun j i r hj hk7 hi=> ?_⟩
  dsimp only
  rcases hat j r hj with ⟨rfl,rfl⟩|⟨hlt,hj⟩
  ·rw[a2] at hk7 hi
   have:=hk hk7
   rw[if_pos rfl,if_neg (by omega),show (v.i - 1).toNat=i by omega]
   exact Nat.lt_succ_self _
  ·have:=(G.wf.ob j r hj).pi hk7
   rw[if_neg (by omega),if_neg (by omega)]
   exact hr j i r hj hk7 hi
 ·rcases hat j r hj with ⟨-,rfl⟩|⟨-,hj⟩
  ·rw[a5];exact Nat.zero_le _
  ·exact G.few j r hj
def shC (s:PO) (v:Value):List Value:= [.int .i64 s.c]++s.p.cs++ [.bool s.x,v]
theorem Ze2 (s:PO) (A:Option Addr) (n c:Nat): ∀u∈shC s (.slice A n c),u.oneCell'=true:=by simp[shC,VV.cs,Value.oneCell']
def Pj:PO:=⟨0,Aq,false, []⟩
theorem ex_bsh {o:Oper} {a:Act} {w:World} {x0 x1 x2 x3:Operand} (s:PO) (v:Value) (A:Option Addr) (n c:Nat) (hv:v= .slice A n c) (ho:o.op= .build 85 #[(0,x0),(1,x1),(2,x2),(3,x3)]) (h0:a.eval x0= .int .i64 s.c) (h1:a.eval x1= .agg s.p.cs.toArray) (h2:a.eval x2= .bool s.x) (h3:a.eval x3=v):(execOp a.eval o).run prog w= .ok (.value (.agg (shC s v).toArray)) w:=by
 subst hv
 have e:(Instr.build 85 #[(0, .int .i64 s.c),(1, .agg s.p.cs.toArray),(2, .bool s.x),(3, .slice A n c)]).run prog w= .ok (.agg (shC s (.slice A n c)).toArray) w:=by kernel_rfl
 unfold execOp
 simp only[ho,List.map_toArray,List.map_cons,List.map_nil,h0,h1,h2,h3]
 simp[e]
theorem Zeb (T:TT):(pr T).length=T.live.length:=List.length_map _
theorem Sy.addRow {w X Y:World} {E:List Nat} {L:List Ob} {base e s n:Nat} {v:Value} {xs:List Value} (S:Sy w X E L) (hO:Y.ownsRow X.heap.size e s v n xs) (k:Below X.heap.size X Y) (hb:base<=X.heap.size):Sy w Y E (L++ [Ec base e s v n xs]):=S.add (Oh _ _ _ _ _ _) (Np hO hb) k (fun b hb'=>(World.ownsRow.lt hO b (by simpa [Ec] using hb')).1)
theorem shape_h (h:HP) (j:Nat) (q:OB) (w:World) (H:h.Is w) (hj:h.l[j]? =some q) (hlast:q.T.last<100000):Calls prog 32 #[.pointer (some ⟨q.b,0,none⟩)] w fun e w'=> ∃A c,e= .returned (.agg (shC q.po (.slice A q.po.ps.length c)).toArray)/\w'.ownsRow w.heap.size 80 20 (.slice A q.po.ps.length c) q.po.ps.length (Lv q.po.ps)/\Below w.heap.size w w':=by
 have hlive:q.T.live.length<=800000:=by have:=Xm (H.ob hj).2.1;omega
 have SS:=Ab (Sy.nil w [])
 go_enter func32,ntmps32
 go_wp2_with (first|go_skip|((with_reducible show wpList ..);(refine zA 85 (shC Pj (.slice none 0 0)) rfl SS ?_;clear SS;intro Xa Ba SS;simp only[nn])))
 have hS:Sy w _ [] [Av Ba (shC Pj (.slice none 0 0))]:=(Aa SS).drew
 clear SS
 have cu: ∀{X:World} {M:List Ob},Sy w X [] ([]++M)->Sy w X [] []:=fun h=>Sy.left h
 refine wp_region_held_drew (P:=prog) (S:=fun X=>Sy w X [] []) (by kernel_rfl) (cu hS) (fun hS0=> ?_)
 refine gp 0 (some 3) (.pointer (some ⟨q.b,0,none⟩)) rfl rfl (cu hS) ?_
 refine gp 1 (some 4) (.pointer (some ⟨q.b,0,none⟩)) rfl rfl (cu hS) ?_
 refine gp 2 (some 5) (.pointer (some ⟨q.b,0,none⟩)) rfl rfl (cu hS) ?_
 refine gq 3 (some 6) (.int .i64 q.c) rfl rfl (fun X hX=>Ad 3 isAgg3 rfl rfl ((H.on hX.fr.below).ob hj).1 rfl) (cu hS) ?_
 refine gp 4 (some 7) (.pointer (some ⟨q.b,0,none⟩)) rfl rfl (cu hS) ?_
 refine gp 5 (some 8) (.pointer (some ⟨q.b,0,none⟩)) rfl rfl (cu hS) ?_
 refine gp 6 (some 9) (.pointer (some ⟨q.b,1,none⟩)) rfl rfl (cu hS) ?_
 refine gq 7 (some 10) (.agg q.p.cs.toArray) rfl rfl (fun X hX=>Af (vs:=q.p.cs) 40 5 rwV szV rfl rfl ((H.on hX.fr.below).ob hj).1 rfl rfl) (cu hS) ?_
 refine gp 8 (some 11) (.pointer (some ⟨q.b,0,none⟩)) rfl rfl (cu hS) ?_
 refine gp 9 (some 12) (.pointer (some ⟨q.b,0,none⟩)) rfl rfl (cu hS) ?_
 refine gp 10 (some 13) (.pointer (some ⟨q.b,6,none⟩)) rfl rfl (cu hS) ?_
 refine gq 11 (some 14) (.bool q.x) rfl rfl (fun X hX=>Ad 4 isAgg4 rfl rfl ((H.on hX.fr.below).ob hj).1 rfl) (cu hS) ?_
 refine gp 12 (some 15) (.pointer (some ⟨q.b,0,none⟩)) rfl rfl (cu hS) ?_
 refine gp 13 (some 16) (.pointer (some ⟨q.b,0,none⟩)) rfl rfl (cu hS) ?_
 refine gp 14 (some 17) (.pointer (some ⟨q.b,7,none⟩)) rfl rfl (cu hS) ?_
 refine gq 15 (some 18) (.pointer (some ⟨q.T.t,0,none⟩)) rfl rfl (fun X hX=>Ad 151 isAgg151 rfl rfl ((H.on hX.fr.below).ob hj).1 rfl) (cu hS) ?_
 refine gr (rs:= [16]) (gc 16 (some 19) rfl rfl (props27 q.T _ ((H.on hS.fr.below).ob hj).2.1 (by omega) hlive) ?_ gn)
 rintro e Y1 ⟨v,rfl,hO1,hY1⟩
 obtain⟨A,c,rfl⟩:=Ex hO1
 have hq1:=Sy.addRow hS hO1 hY1 hS.fr.size
 refine⟨_,rfl,cu hq1, ?_⟩
 refine gq 17 (some 20) (.agg (shC q.po (.slice A q.T.live.length c)).toArray) rfl rfl (fun X hX=>ex_bsh q.po _ A _ c rfl rfl rfl rfl rfl rfl) (cu hq1) ?_
 refine gr (rs:= [18]) (Xt (vs:=shC q.po (.slice A q.T.live.length c)) (new:=shC q.po (.slice A q.T.live.length c)) 18 0 85 rfl rfl rfl rfl rfl rfl (Ze2 _ _ _ _) szS hq1 rfl (by simp[Bt,shC,Pj,VV.cs,KK.cs,DD.cs,OB.cs,hcs,zeroD,Aq]) (by simp[Bt,shC,Pj,VV.cs,KK.cs,DD.cs,OB.cs,hcs,zeroD,Aq]) (fun _ hZ=>cu hZ) ?_ gn)
 intro Y2 hq2
 refine dn ?_
 try simp only[nn]
 have SS:=Ab hq2
 go_wp2
 refine Lt rwS szS rfl rfl rfl ((Aa SS).hold 0 rfl) rfl ?_
 refine⟨A,c,by rw[show q.po.ps.length=q.T.live.length from Zeb _], ?_,(Aa SS).fr.below⟩
 show World.ownsRow _ _ _ _ (.slice A (pr q.T).length c) (pr q.T).length _
 rw[Zeb]
 exact(Aa SS).get 1 rfl
def psO (base:Nat) (l:List PO) (vs:List Value):Ob:=⟨vs.flatMap (fun v=>v.ownBlock.toList),fun X=>vs.length=l.length/\ ∀(j:Nat) (s:PO) (v:Value),l[j]? =some s->vs[j]? =some v->X.ownsRow base 80 20 v s.ps.length (Lv s.ps)⟩
theorem Zcc (base:Nat) (l:List PO) (vs:List Value):(psO base l vs).Ok:=by
 refine⟨fun h k=>⟨k.1,fun j s v h1 h2=>Ll (k.2 j s v h1 h2) (fun g hg=>h g (List.mem_flatMap.2 ⟨v,List.mem_of_getElem? h2,by simp[hg]⟩))⟩,fun k b hb=> ?_⟩
 obtain⟨v,hv,hb⟩:=List.mem_flatMap.1 hb
 obtain⟨j,hj⟩:=List.getElem?_of_mem hv
 have hlt:=(List.getElem?_eq_some_iff.1 hj).1
 have hl2:j<l.length:=by have:=k.1;omega
 exact(World.ownsRow.lt (k.2 j l[j] v (List.getElem?_eq_getElem hl2) hj) b (by simpa using hb)).2
def Pa (l:List PO) (vs:List Value):List Value:=(l.zip vs).flatMap (fun x=>shC x.1 x.2)
theorem Zet {l:List PO} {vs:List Value} {s:PO} {v:Value} (h:vs.length=l.length):Pa (l++ [s]) (vs++ [v])=Pa l vs++shC s v:=by
 unfold Pa
 rw[List.zip_append h.symm,List.flatMap_append]
 simp
theorem ps_snoc {w X:World} {E:List Nat} {L M:List Ob} {base:Nat} {l:List PO} {vs:List Value} {s:PO} {v:Value} (S:Sy w X E (L++psO base l vs::Ec base 80 20 v s.ps.length (Lv s.ps)::M)):Sy w X E (L++ [psO base (l++ [s]) (vs++ [v])]):=by
 have h1:(psO base l vs).P X:=S.ho _ (List.mem_append_right _ (List.mem_cons_self ..))
 have h2:X.ownsRow base 80 20 v s.ps.length (Lv s.ps):=S.ho (Ec base 80 20 v s.ps.length (Lv s.ps)) (List.mem_append_right _ (List.mem_cons_of_mem _ (List.mem_cons_self ..)))
 refine S.join (Zcc _ _ _) ⟨by simp[h1.1],fun j s' v' hs hv=> ?_⟩ (fun x hx=> ?_)
 ·rcases Nat.lt_or_ge j l.length with h3|h3
  ·rw[List.getElem?_append_left h3] at hs
   rw[List.getElem?_append_left (by rw[h1.1];exact h3)] at hv
   exact h1.2 j s' v' hs hv
  ·rw[List.getElem?_append_right h3] at hs
   rw[List.getElem?_append_right (by rw[h1.1];exact h3)] at hv
   have h4:=(List.getElem?_eq_some_iff.1 hs).1
   have h5:j - l.length=0:=by simpa using h4
   rw[h5] at hs
   rw[h1.1,h5] at hv
   obtain rfl:s=s':=by simpa using hs
   obtain rfl:v=v':=by simpa using hv
   exact h2
 ·obtain⟨u,hu,hx⟩:=List.mem_flatMap.1 hx
  rcases List.mem_append.1 hu with h3|h3
  ·exact .inl (List.mem_flatMap.2 ⟨u,h3,hx⟩)
  ·rw[List.mem_singleton.1 h3] at hx
   exact .inr hx
theorem infS:(prog.info? 85).map (fun i=>(i.zero,i.size,i.bytes))=some (some (.agg (shC Pj (.slice none 0 0)).toArray),8,88):=by kernel_rfl
theorem ZfS {h:HP} {i:Nat} {q:OB} (hj:h.l[i]? =some q):h.abs.take (i+1)=h.abs.take i++ [q.po]:=by
 obtain⟨hlt,e⟩:=List.getElem?_eq_some_iff.1 (abs_at hj)
 rw[List.take_succ_eq_append_getElem hlt,e]
theorem shapes_h (h:HP) (w:World) (H:h.Is w) (hl:h.l.length<=65536) (hF: ∀(j:Nat) (q:OB),h.l[j]? =some q->q.T.last<100000):Calls prog 13 #[.pointer (some ⟨h.b,0,none⟩)] w fun e w'=> ∃A c vs,e= .returned (.slice A h.l.length c)/\Sy w w' [] [Ec w.heap.size 85 8 (.slice A h.l.length c) h.l.length (Pa h.abs vs),psO w.heap.size h.abs vs]:=by
 have SS:=Ab (Sy.nil w [])
 obtain⟨A0,c0,hgv⟩:=H.form
 have HB:Hid (∀X,Below w.heap.size w X->Holds X h.b [.slice A0 h.l.length c0, .int .i64 h.cap, .int .i64 h.fuel, .int .i64 h.depth, .int .i64 h.ent]):=Ab (fun X hX=>by have:=(H.on hX).blk;unfold hcs at this;rw[hgv] at this;exact this)
 go_enter func13,ntmps13
 go_wp2_with fail
 refine(Zdl h _ H).mono ?_
 rintro _ Y0 ⟨rfl,hY0⟩
 obtain rfl:=hY0.symm
 go_wp2_with (first|go_skip|((with_reducible show wpList ..);first|((refine mkS (e:=85) (size:=8) (bytes:=88) (z:= .agg (shC Pj (.slice none 0 0)).toArray) w.heap.size h.l.length (by rfl) rfl rfl rfl underlying61 infS (by omega) (by omega) (by omega) (Aa SS) (Aa SS).fr.size ?_);intro X1 B1 hE1 L1 hb1;replace SS:=Ab L1;clear L1 hb1 hE1;simp only[nn])|(refine rd rfl (Ad 92 isAgg92 rfl rfl (Aa HB _ (Aa SS).fr.below) rfl) ?_)|(refine rd rfl (Bp 92 97 underlying92 rfl rfl) ?_)))
 replace SS:=Ab ((Aa SS).add (Zcc w.heap.size [] []) ⟨rfl,fun j s v h1=>by simp at h1⟩ (Below.refl _ _) (fun b hb=>by simp[psO] at hb))
 go_loopg [3,14] h.l.length (fun gm s3 s14 wr=> ∃(i:Nat) (A1:Option Addr) (c1:Nat) (vs:List Value),s3= .slice A1 i c1/\s14= .int .i64 (i:Nat)/\i<=h.l.length/\h.l.length - i<=gm/\Hid (Sy w wr [] [Ec w.heap.size 85 8 (.slice A1 i c1) i (Pa (h.abs.take i) vs),psO w.heap.size (h.abs.take i) vs]))
 case atStart=>exact⟨0,_,_, [],rfl,rfl,by omega,by omega,SS⟩
 case round=>
  clear SS
  obtain⟨i,A1,c1,vs,rfl,rfl,hil,hgm,SS⟩:=hrel
  by_cases hlt:i<h.l.length
  ·obtain⟨q,hj⟩: ∃q,h.l[i]? =some q:=⟨_,List.getElem?_eq_getElem hlt⟩
   have dlt:decide ((i:Int)<(h.l.length:Int))=true:=decide_eq_true (by omega)
   have hw1:IntKind.i64.wrap ((i:Int)+1)=(i:Int)+1:=by rw[IntKind.wrap_i64];omega
   obtain⟨g,cg,hg2,hcell⟩:=(H.on (Aa SS).fr.below).ptr hj
   rw[hgv] at hg2
   cases hg2
   have HC:Hid (wr.cell? ⟨g,i,none⟩=some (.pointer (some ⟨q.b,0,none⟩))):=Ab hcell
   clear hcell
   have hlen:vs.length=(h.abs.take i).length:=((Aa SS).get 1 rfl).1
   have HLT:=Ab hlt
   skip
   go_wp2_with (first|go_skip|((with_reducible show wpList ..);first|(refine rd rfl (ZbJ 92 i unOs idOs rfl rfl rfl (Aa HLT)) ?_)|(refine rd rfl (Vl 97 isAgg97 rfl rfl (Aa HC)) ?_)))
   refine(shape_h h i q _ (H.on (Aa SS).fr.below) hj (hF i q hj)).mono ?_
   rintro _ Y2 ⟨A2,c2,rfl,hO2,hb2⟩
   replace SS:=Ab ((Aa SS).addRow hO2 hb2 (base:=w.heap.size) (Aa SS).fr.size)
   clear hO2 hb2
   go_wp2_with (first|go_skip|((with_reducible show wpList ..);first|((refine bsS (e:=85) (size:=8) (bytes:=88) (z:= .agg (shC Pj (.slice none 0 0)).toArray) (cs:=shC q.po (.slice A2 q.po.ps.length c2)) rfl rfl underlying61 infS rfl rfl (Aa SS) ?_);intro X3 B3 hE3 L3 hb3;replace SS:=Ab L3;clear L3 hb3 hE3;simp only[nn])|((refine apS (e:=85) (size:=8) (bytes:=88) (z:= .agg (shC Pj (.slice none 0 0)).toArray) (k:=i) (xs:=Pa (h.abs.take i) vs) (news:=shC q.po (.slice A2 q.po.ps.length c2)) 0 3 rfl rfl rfl rfl underlying61 infS rfl (by omega) (Aa SS) rfl rfl rfl (Ze2 _ _ _ _) (by omega) (by omega) (Aa SS).fr.size ?_);intro A4 c4 X4 S4;replace SS:=Ab S4;clear S4;simp only[nn])))
   have hq:=Aa SS
   have hq2:=Sy.left (L:= [Ec w.heap.size 85 8 (.slice A4 (i+1) c4) (i+1) (Pa (h.abs.take i) vs++shC q.po (.slice A2 q.po.ps.length c2)),psO w.heap.size (h.abs.take i) vs,Ec w.heap.size 80 20 (.slice A2 q.po.ps.length c2) q.po.ps.length (Lv q.po.ps)]) (M:= [_]) hq
   have hq3:=ps_snoc (L:= [Ec w.heap.size 85 8 (.slice A4 (i+1) c4) (i+1) (Pa (h.abs.take i) vs++shC q.po (.slice A2 q.po.ps.length c2))]) (M:= []) hq2
   rw[←Zet hlen,←ZfS hj] at hq3
   replace SS:=Ab hq3
   clear hq hq2 hq3
   go_roundg (h.l.length - (i+1))
   case measure=>have:=Aa HLT;omega
   case rel=>exact⟨i+1,A4,c4,vs++ [Value.slice A2 q.po.ps.length c2],rfl,by go_num,by have:=Aa HLT;omega,by omega,SS⟩
  ·obtain rfl:i=h.l.length:=by omega
   go_wp2
   go_ret
   refine⟨A1,c1,vs,rfl, ?_⟩
   have:=Aa SS
   rw[show h.abs.take h.l.length=h.abs from List.take_of_length_le (by rw[Vv];exact Nat.le_refl _)] at this
   exact this
end
section
open Go Go.Proofs Go.Maps Go.RowKit FM
attribute [local go_sem] Al Ak Ar Ah Am Ai Au Dd Db Bi Aj Bh
def ReadsP (w:World) (A:Option Addr) (l:List (KK×DD)):Prop:= ∀(j:Nat) (e:KK×DD),l[j]? =some e-> ∃b off,A=some ⟨b,off,none⟩/\b<w.heap.size/\w.rangeAt b (off+j * 20) (e.1.cs++e.2.cs)
theorem ReadsP.on {w X:World} {A:Option Addr} {l:List (KK×DD)} (h:ReadsP w A l) (k:Below w.heap.size w X):ReadsP X A l:=fun j e hj=>by
 obtain⟨b,off,h1,h2,h3⟩:=h j e hj
 exact⟨b,off,h1,Nat.lt_of_lt_of_le h2 k.size,Jj h3 h2 k⟩
theorem Zf6 {X:World} {base n:Nat} {A:Option Addr} {c:Nat} {l:List (KK×DD)} (h:X.ownsRow base 80 20 (.slice A n c) n (Lv l)) (hn:l.length=n):ReadsP X A l:=fun j e hj=>by
 have hlt:=(List.getElem?_eq_some_iff.1 hj).1
 have he:=(List.getElem?_eq_some_iff.1 hj).2
 obtain⟨g,c',h1,h2,h3,h4⟩:=On (f:=fun x:KK×DD=>x.1.cs++x.2.cs) (k:=20) (fun _=>rfl) h hn j hlt
 cases h1
 exact⟨g,0,rfl,h3,by rw[he] at h4;exact h4⟩
def Zbb (w:World) (A:Option Addr) (l:List PO):Prop:= ∀(j:Nat) (s:PO),l[j]? =some s-> ∃b off PA pc,A=some ⟨b,off,none⟩/\b<w.heap.size/\w.rangeAt b (off+j * 8) (shC s (.slice PA s.ps.length pc))/\ReadsP w PA s.ps
theorem Zgk {l:List PO} {vs:List Value} (h:vs.length=l.length):(l.zip vs).length=l.length:=by simp[h]
theorem Zc3 {X:World} {base n:Nat} {A:Option Addr} {c:Nat} {l:List PO} {vs:List Value} (hn:l.length=n) (h:X.ownsRow base 85 8 (.slice A n c) n (Pa l vs)) (hp:(psO base l vs).P X):Zbb X A l:=fun j s hj=>by
 have hlt:=(List.getElem?_eq_some_iff.1 hj).1
 have hs:=(List.getElem?_eq_some_iff.1 hj).2
 have hlv:j<vs.length:=by rw[hp.1];exact hlt
 have hz:(l.zip vs).length=n:=by rw[Zgk hp.1];exact hn
 obtain⟨g,c',h1,h2,h3,h4⟩:=On (f:=fun x:PO×Value=>shC x.1 x.2) (k:=8) (fun _=>rfl) h hz j (by rw[hz];omega)
 cases h1
 have hO:=hp.2 j s vs[j] hj (List.getElem?_eq_getElem hlv)
 obtain⟨PA,pc,e⟩:=Ex hO
 refine⟨g,0,PA,pc,rfl,h3, ?_, ?_⟩
 ·have e2:(l.zip vs)[j]'(by rw[hz];omega)=(s,vs[j]):=by rw[List.getElem_zip,hs]
  rw[e2,e] at h4
  exact h4
 ·rw[e] at hO
  exact Zf6 hO rfl
end
section
open Go Go.Proofs Go.Maps Go.RowKit Tryz
theorem Gr (b:Nat): ∀(vs:List Value) (o:Nat) (X:World) (g:Nat),g≠b->(X.setCells b o vs).heap[g]? =X.heap[g]?
 | [],_,_,_,_=>rfl
 |v::vs,o,X,g,h=>by
  rw[World.setCells,Gr b vs _ _ g h]
  simp[World.setCell,Array.getElem?_modify,Ne.symm h]
section
variable {o:Oper} {a:Act} {W:World} {x:Operand} {B p:Nat} {cs:List Value}
end
theorem Zgo {o:Oper} {a:Act} {W:World} {x:Operand} {B p:Nat} {v:Value} (t:TypeId) (hna: ∀w,(isAgg t).run prog w= .ok false w) (ho:o.op= .load t x) (hx:a.eval x= .pointer (some ⟨B,p,none⟩)) (h0:W.cell? ⟨B,p,none⟩=some v):(execOp a.eval o).run prog W= .ok (.value v) W:=by
 unfold execOp
 simp only[ho,hx]
 simp[go_sem,h0,hna]
section
variable {md:Region.Mode} {ops:Array Oper} {rest:List Oper} {Q:Exit->Act->World->Prop} {S:World->Prop} {w w0:World} {fuel:Nat} {listed:Array Bool} {a:Act} {o:Oper}
end
theorem Rs (w:World) (base:Nat) (t ty e:TypeId) (i:TypeInfo) (z:Value) (size bytes:Nat) (ht:prog.underlying t=some (.slice e)) (hi:prog.info? e=some i) (hz:i.zero=some z)
  (hsize:i.size=size) (hby:i.bytes=bytes) (hzs:z.cells.size=size) (hsz:0<size) (v:Value) (n:Nat) (xs:List Value) (hown:w.ownsRow base e size v n xs)
  (a:Addr) (m c:Nat) (news:List Value) (hl:news.length=m * size) (hnews: ∀j u,news[j]? =some u->w.cell? (a.add j)=some u) (h1: ∀u∈news,u.oneCell'=true)
  (h63:n+m<=maxLen) (hbytes:(n+m) * bytes<=140737488355328) (hbase:base<=w.heap.size):
  ∃v' w',(Builtin.append_ #[t,t] ty #[v, .slice (some a) m c]).run prog w= .ok v' w'/\w'.ownsRow base e size v' (n+m) (xs++news)/\w.grownBy w' v.ownBlock/\(v'.ownBlock=v.ownBlock∨v'.ownBlock=some w.heap.size):=by
 obtain⟨v',w',hr,ho,hg,hiff⟩:=run_append_own w base t ty e i z size bytes ht hi hz hsize hby hzs hsz v n xs hown a m c news hl hnews h1 h63 hbytes hbase
 refine⟨v',w',hr,ho,hg, ?_⟩
 have hm:n+m<=9223372036854775807:=by simp only[maxLen] at h63;omega
 have inj: ∀{v2:Value} {w2:World},(Builtin.append_ #[t,t] ty #[v, .slice (some a) m c]).run prog w= .ok v2 w2->v'=v2:=fun h2=>by
  rw[hr] at h2
  injection h2
 subst hsize
 subst hby
 rcases hown.2 with ⟨rfl,rfl⟩|⟨g,cap,cur,rfl,hbg,hgg,hnc,hcm,hcs,htake⟩
 ·by_cases h0:m=0
  ·exact Or.inl (by rw[hiff.2 ⟨rfl,h0⟩])
  ·right
   have hb:=hbytes
   rw[Nat.zero_add] at hb
   rw[inj (run_append_nil w t ty e i z ht hi hz a m c news hl hnews (by omega) (by omega) (by omega))]
   rfl
 ·by_cases hroom:n+m<=cap
  ·left
   have hfit:n * i.size+news.length<=cur.size:=by rw[hl,hcs,←Nat.add_mul];exact Nat.mul_le_mul_right _ hroom
   rw[inj (run_append_room w t ty e i ht hi g n cap cur hgg a m c news hl hnews h1 hroom hfit)]
   rfl
  ·right
   rw[inj (run_append_grow w t ty e i z ht hi hz ⟨g,0,none⟩ n cap xs hown.1 (hown.cells (g:=g) rfl) a m c news hl hnews (by omega) (by omega) (growslice_fits (by omega) hbytes))]
   rfl
section
variable {md:Region.Mode} {ops:Array Oper} {rest:List Oper} {Q:Exit->Act->World->Prop} {S:World->Prop} {w w0:World} {fuel:Nat} {listed:Array Bool} {a:Act} {o:Oper}
theorem ZdM {t e:TypeId} {size bytes n m c B base:Nat} {z v:Value} {xs news:List Value} {s x:Operand} (hgd:o.guard=none) (ho:o.op= .call {callee:= .builtin .append,args:= #[s,x],argTypes:= #[t,t]}) (hs:a.eval s=v) (hx:a.eval x= .slice (some ⟨B,0,none⟩) m c)
  (ht:prog.underlying t=some (.slice e)) (hi:(prog.info? e).map (fun i=>(i.zero,i.size,i.bytes))=some (some z,size,bytes)) (hz:z.cells.size=size) (hsz:0<size) (hown:w.ownsRow base e size v n xs) (hB:Holds w B news) (hl:news.length=m * size) (h1: ∀u∈news,u.oneCell'=true)
  (hn:n+m<=1000000) (hby:bytes<=10000) (hbase:base<=w.heap.size)
  (h: ∀A c w',w'.ownsRow base e size (.slice A (n+m) c) (n+m) (xs++news)->w.grownBy w' v.ownBlock->Kz w v (.slice A (n+m) c)->wpList prog ops Q rest (a.put o.dst (.slice A (n+m) c)) w'):wpList prog ops Q (o::rest) a w:=by
 obtain⟨i0,hi,hz0,hz1,hz2⟩:=info_parts hi
 refine wpList_plain hgd fun K hK=> ?_
 obtain⟨v',w',hrun,h2,h3,h4⟩:=Rs w base t o.type e i0 _ size bytes ht hi hz0 hz1 hz2 hz hsz v n xs hown ⟨B,0,none⟩ m c news hl (fun j u hj=>by
  rw[Addr.add_mid]
  exact hB.2 j u hj) h1 (by unfold maxLen;omega) (Nat.le_trans (Nat.mul_le_mul hn hby) (by decide)) hbase
 obtain⟨A',c',rfl⟩:=Ex h2
 have hP:=hK _ _ (h A' c' w' h2 h3 h4)
 unfold Oper.wp
 simp[execOp,ho,resolve,invoke,builtin,hs,hx,hrun,Result.andThen]
 exact hP
theorem Oy {t e:TypeId} {size bytes:Nat} {z v:Value} {cs:List Value} {x:Operand} {E:List Nat} {L:List (Nat×List Value)}  (ho:o.op= .buildSlice t 1 #[(0,x)]) (hx:a.eval x=v)
  (ht:prog.underlying t=some (.slice e)) (hi:(prog.info? e).map (fun i=>(i.zero,i.size,i.bytes))=some (some z,size,bytes))  (hv:v.cells.toList=cs) (hc:cs.length=size)  (hL:Hq w0 w E L)
  (h: ∀X B,B=w.heap.size->Hq w0 X E (L++ [(B,cs)])->Below w.heap.size w X->wpList prog ops Q rest (a.put o.dst (.slice (some ⟨B,0,none⟩) 1 1)) X) (hw:Region.wanted o (yielded ops a.tmps)=true:=by rfl) (hs1:size<=100:=by decide) (h0:0<size:=by decide):wpList prog ops Q (o::rest) a w:=by
 refine BigFrame.wpList_want hw fun K hK=> ?_
 obtain⟨i0,hi,hz0,hz1,hz2⟩:=info_parts hi
 have ev:v.cells=cs.toArray:=by rw[←hv]
 have es:v.cells.size=size:=by rw[ev];simpa using hc
 refine wp_buildSlice t e 1 _ ho cs.toArray i0 _ ht hi hz0 (by rw[hz1];omega) (by rw[hz1];omega) ?_ (hK _ _ (h _ _ rfl (hL.new cs e (by omega)) ((Below.refl _ _).alloc (Nat.le_refl _) _)))
 rw[hz1,←ev]
 simp only[List.map_toArray,List.map_cons,List.map_nil,hx]
 exact Vk size _ v (by simp) es
end
theorem Zey {a:Act} {w:World} {o:Oper} {t e:TypeId} {size bytes k m c B base:Nat} {z v:Value} {xs news:List Value} {s x:Operand} (ho:o.op= .call {callee:= .builtin .append,args:= #[s,x],argTypes:= #[t,t]}) (hs:a.eval s=v) (hx:a.eval x= .slice (some ⟨B,0,none⟩) m c)
  (ht:prog.underlying t=some (.slice e)) (hi:(prog.info? e).map (fun i=>(i.zero,i.size,i.bytes))=some (some z,size,bytes)) (hz:z.cells.size=size) (hsz:0<size) (hown:w.ownsRow base e size v k xs) (hB:Holds w B news) (hl:news.length=m * size) (h1: ∀u∈news,u.oneCell'=true)
  (hn:k+m<=1000000) (hby:bytes<=10000) (hbase:base<=w.heap.size):
  ∃A c' w',(execOp a.eval o).run prog w= .ok (.value (.slice A (k+m) c')) w'/\w'.ownsRow base e size (.slice A (k+m) c') (k+m) (xs++news)/\w.grownBy w' v.ownBlock/\Kz w v (.slice A (k+m) c'):=by
 obtain⟨i0,hi,hz0,hz1,hz2⟩:=info_parts hi
 obtain⟨v',w',hrun,h2,h3,h4⟩:=Rs w base t o.type e i0 _ size bytes ht hi hz0 hz1 hz2 hz hsz v k xs hown ⟨B,0,none⟩ m c news hl (fun j u hj=>by
  rw[Addr.add_mid]
  exact hB.2 j u hj) h1 (by unfold maxLen;omega) (Nat.le_trans (Nat.mul_le_mul hn hby) (by decide)) hbase
 obtain⟨A',c',rfl⟩:=Ex h2
 refine⟨A',c',w', ?_,h2,h3,h4⟩
 simp[execOp,ho,resolve,invoke,builtin,hs,hx,hrun,Result.andThen]
theorem gappF {md:Region.Mode} {ops:Array Oper} {Q:Exit->Act->World->Prop} {S:World->Prop} {w:World} {fuel:Nat} {listed:Array Bool} {a:Act} {o:Oper} {rs:List Nat} (i:Nat) (dst:Option Tmp) {t e:TypeId} {size bytes k m c B base:Nat} {z v:Value} {xs news:List Value} {s x:Operand} (hi0:ops[i]? =some o)   (ho:o.op= .call {callee:= .builtin .append,args:= #[s,x],argTypes:= #[t,t]}) (hs:a.eval s=v) (hx:a.eval x= .slice (some ⟨B,0,none⟩) m c)
  (ht:prog.underlying t=some (.slice e)) (hi:(prog.info? e).map (fun i=>(i.zero,i.size,i.bytes))=some (some z,size,bytes)) (hz:z.cells.size=size)  (hown:w.ownsRow base e size v k xs) (hB:Holds w B news) (hl:news.length=m * size) (h1: ∀u∈news,u.oneCell'=true)
  (hn:k+m<=1000000)  (hbase:base<=w.heap.size) (hon: ∀X,w.grownBy X v.ownBlock->S X)
  (h: ∀A c' X,X.ownsRow base e size (.slice A (k+m) c') (k+m) (xs++news)->w.grownBy X v.ownBlock->Kz w v (.slice A (k+m) c')->wpAnyH prog md ops Q S fuel (listed.setIfInBounds i true) (a.put dst (.slice A (k+m) c')) X) (hs2:AllReadyH prog md ops Q S fuel listed a w rs) (hd:o.dst=dst:=by kernel_rfl) (hw:Region.wanted o (yielded ops a.tmps)=true:=by kernel_rfl) (hsz:0<size:=by decide) (hby:bytes<=10000:=by decide):AllReadyH prog md ops Q S fuel listed a w (i::rs):=by
 obtain⟨A,c',w',he,h2,h3,h4⟩:=Zey ho hs hx ht hi hz hsz hown hB hl h1 hn hby hbase
 exact Qb i dst hi0 hd hw he (hon w' h3) (h A c' w' h2 h3 h4) hs2
section
attribute [local go_sem] Gt Lq
theorem Zdt {k:KK} (h:goodK k=true):k.s.size<=1048576:=by
 rw[Zdu] at h
 by_cases hn:k.n=0
 ·rw[if_pos hn] at h
  simp at h
  exact h.1
 ·rw[if_neg hn] at h
  simp only[Bool.and_eq_true] at h
  rw[Nx h.2]
  decide
end
theorem laidOut9:laidOutB prog=true:=by kernel_rfl
theorem rowk41:(37:TypeId)<prog.types.size:=of_decide_eq_true (by kernel_rfl)
theorem key41:prog.keyTypeAt 2 37=true:=by kernel_rfl
theorem ZbE:Keyed prog 37:=Keyed.of_law (deep_law_laid laidOut9 (m:=2) (by omega) rowk41 key41 (by rw[underlying37]))
theorem keyT41:prog.keyType 37=true:=by kernel_rfl
theorem Zm (s:ByteArray) (n:Int) (hs:s.size<=maxLen) (hn:(Lit.int .i64 n).wf=true):keyOf prog 37 (.agg #[.string s, .int .i64 n])=some (Zaz s n):=by
 obtain⟨N,hN⟩:=Zad
 unfold keyOf
 rw[underlying37]
 simp only[]
 rw[hN]
 have c41:prog.cellsOf 37=2:=by kernel_rfl
 have hf:Value.formed prog 37 (.agg #[.string s, .int .i64 n])=true:=by
  simp[Value.formed,underlying37,underlying3,underlying9,c41]
 have c9:prog.cellsOf 9=1:=by kernel_rfl
 have c3:prog.cellsOf 3=1:=by kernel_rfl
 rw[hf,keyT41]
 simp[Program.keyLits,underlying37,underlying3,underlying9,c9,c3,c41,hs,hn,Value.cells,Zaz]
theorem Zga {s s':ByteArray} {n n':Int} (hs:s.size<=maxLen) (hn:(Lit.int .i64 n).wf=true) (hs':s'.size<=maxLen) (hn':(Lit.int .i64 n').wf=true) (h:Zaz s n=Zaz s' n'):s=s'/\n=n':=by
 have:=ZbE.inj (Zm s n hs hn) (h▸Zm s' n' hs' hn')
 simpa using this
theorem Zf9 {s:ByteArray} {n:Int} (hs:s.size<=maxLen) (hn:(Lit.int .i64 n).wf=true):WideAt.IsKeyLit (Zaz s n):=ZbE.key (Zm s n hs hn)
theorem Zcn {k:KK} (h:OkK k):keyOf prog 37 k.agg=some (kl k):=Zm k.s k.n h.1 h.2
end
section
open Go Go.Proofs Go.Maps Go.RowKit FM
theorem alG {ops:Array Oper} {rest:List Oper} {Q:Exit->Act->World->Prop} {w w0:World} {a:Act} {o:Oper} {E:List Nat} {L:List (Nat×List Value)} (t:TypeId) (cs:List Value)  (ho:o.op= .alloc t) (hz: ∀w,(zeroValue t).run Tryz.prog w= .ok (.agg cs.toArray) w)  (hL:Hq w0 w E L)
  (h: ∀X B,B=w.heap.size->Hq w0 X E (L++ [(B,cs)])->Below w.heap.size w X->wpList Tryz.prog ops Q rest (a.put o.dst (.pointer (some ⟨B,0,none⟩))) X) (hw:Region.wanted o (yielded ops a.tmps)=true:=by rfl) (hc:0<cs.length:=by exact Nat.succ_pos _):wpList Tryz.prog ops Q (o::rest) a w:=by
 refine BigFrame.wpList_want hw fun K hK=> ?_
 have hP:=hK _ _ (h _ _ rfl (hL.new cs t hc) ((Below.refl _ _).alloc (Nat.le_refl _) _))
 unfold Oper.wp execOp
 simp only[ho]
 simp[go_sem,hz,Value.cells]
 exact hP
structure PR where
 k:KK
 d:DD
def PR.cs (p:PR):List Value:=p.k.cs++p.d.cs
def PR.agg (p:PR):Value:= .agg p.cs.toArray
structure SH where
 c:Int
 p:VV
 x:Bool
 ps:List PR
def SH.cs (s:SH) (A:Option Addr) (cap:Nat):List Value:= [.int .i64 s.c]++s.p.cs++ [.bool s.x, .slice A s.ps.length cap]
def SH.agg (s:SH) (A:Option Addr) (cap:Nat):Value:= .agg (s.cs A cap).toArray
theorem Rq (v:VV):v.agg= .agg v.cs.toArray:=rfl
theorem ZaZ (v:DD):v.agg= .agg v.cs.toArray:=rfl
theorem ZbF (v:KK):v.agg= .agg v.cs.toArray:=rfl
theorem Jf (p:PR): ∀u∈p.cs,u.oneCell'=true:=by simp[PR.cs,KK.cs,DD.cs,Value.oneCell']
theorem Zc2 (p:SH) (A:Option Addr) (cap:Nat): ∀u∈p.cs A cap,u.oneCell'=true:=by simp[SH.cs,VV.cs,Value.oneCell']
theorem Uu (v:VV): ∀u∈v.cs,u.oneCell'=true:=by simp[VV.cs,Value.oneCell']
def OkP (p:PR):Prop:=FD p.d/\OkK p.k
def ReadsP9 (w:World) (A:Option Addr) (l:List PR):Prop:= ∀j p,l[j]? =some p->OkP p/\ ∃b off,A=some ⟨b,off,none⟩/\b<w.heap.size/\w.rangeAt b (off+j * 20) p.cs
def ReadsS9 (w:World) (A:Option Addr) (l:List SH):Prop:= ∀j s,l[j]? =some s->s.p.x<2^64/\s.ps.length<=733007751850/\ ∃b off SA cap,A=some ⟨b,off,none⟩/\b<w.heap.size/\ReadsP9 w SA s.ps/\w.rangeAt b (off+j * 8) (s.cs SA cap)
theorem ReadsP9.fr {w X:World} {A:Option Addr} {l:List PR} (h:ReadsP9 w A l) (hf:Fr w X []):ReadsP9 X A l:=fun j p hp=>by
 obtain⟨h1,b,off,h2,h3,h4⟩:=h j p hp
 exact⟨h1,b,off,h2,Nat.lt_of_lt_of_le h3 hf.size,Dm h4 h3 hf⟩
theorem ReadsS9.fr {w X:World} {A:Option Addr} {l:List SH} (h:ReadsS9 w A l) (hf:Fr w X []):ReadsS9 X A l:=fun j p hp=>by
 obtain⟨h1,h6,b,off,SA,cap,h2,h3,h5,h4⟩:=h j p hp
 exact⟨h1,h6,b,off,SA,cap,h2,Nat.lt_of_lt_of_le h3 hf.size,h5.fr hf,Dm h4 h3 hf⟩
