import Derived.Test.YtlpdllcedgnaaaaGreatDoorRr
import Derived.Test.YtlpdllcedgnaaaaGreatDoorRs
set_option linter.all false
namespace Go.Proofs.YtlpdllcedgnaaaaGreatDoor
set_option maxRecDepth 100000
set_option maxHeartbeats 0
section
open Go Go.Proofs Go.Maps Go.RowKit FM Tryz
attribute [local go_sem] Ao Ai Am Dq Dp Br Ah Bq
structure SH (u:List Nat) (h:HP) (q:OB) (N:Nat) (Fu:Int):Prop where
 k:h.Ok
 l:h.l= [q]
 qi:QI u q
 la:q.T.last<=N
 f:Fu<=h.fuel
 e:h.ent=0
 d:h.depth=5
theorem SH.next {u:List Nat} {h h1:HP} {q:OB} {N m:Nat} {Fu c:Int} (S:SH u h q N Fu) (X:Nx u c m h q h1) (hc:c<=Fu): ∃q1,SH u h1 q1 (N+m) (Fu - c)/\q1.ov=q.ov:=by
 obtain⟨q1,a1,a2,a3,a4,a5,a6,a7,a8⟩:=X
 have e1:=S.f
 have e2:=S.k.f1
 have e3:=S.la
 refine⟨q1,⟨⟨by rw[a1];simp,by omega,by omega,by rw[a7];exact S.k.e0,by rw[a7,a8];exact S.k.e1,by rw[a8];exact S.k.d1⟩,a1,a2,by omega,by omega,by rw[a7];exact S.e,by rw[a8];exact S.d⟩,a3⟩
theorem SH.at0 {u:List Nat} {h:HP} {q:OB} {N:Nat} {Fu:Int} (S:SH u h q N Fu):h.l[0]? =some q:=by rw[S.l];rfl
theorem SH.at1 {u:List Nat} {h:HP} {q q':OB} {N j:Nat} {Fu:Int} (S:SH u h q N Fu) (ho:(1:Int)=(j:Int)+1) (hj:h.l[j]? =some q'):j=0/\q'=q:=by
 have e:j=0:=by omega
 subst e
 rw[S.at0] at hj
 exact⟨rfl,(Option.some.inj hj).symm⟩
theorem SH.dp {u:List Nat} {h:HP} {q:OB} {N:Nat} {Fu:Int} (S:SH u h q N Fu):h.ent≠h.depth:=by rw[S.e,S.d];decide
theorem SH.fu {u:List Nat} {h:HP} {q:OB} {N:Nat} {Fu:Int} (S:SH u h q N Fu) (hF:10<=Fu):h.fuel≠0:=by have:=S.f;omega
def DefC (h:HP) (k:KK) (d:DD):Int:=orE [thE 1 h.l.length,Bl k,Ex d,Ay h.l.length [d.v,d.g,d.s],Et [d.g,d.s]]
theorem do_def (h:HP) (q:OB) (u:List Nat) (k:KK) (d:DD) (N:Nat) (Fu:Int) (w:World) (H:h.Is w) (S:SH u h q N Fu) (U:Un h q.ov u w) (hu:UOk u) (hn:u.length<=2000) (hT:Tabs w) (hFd:FD d) (hF:10<=Fu) (hN:N<90000):Calls prog 12 #[.pointer (some ⟨h.b,0,none⟩), .int .i64 1,k.agg,d.agg] w fun e w'=> ∃(h1:HP) (y:Bool) (er:Value),e= .returned (.tuple #[.bool y,er])/\(Nx u 1 1 h q h1/\(DefC h k d=0->unB u k=true->er= .nilIface/\y=Mk q.x (unD u k) d))/\h.To h1 w w':=by
 have hla:=S.la
 refine(Mh h 1 k d w H S.k.len hT hFd (fun h1 y er=>er= .nilIface/\Nx u 1 1 h q h1/\(unB u k=true->y=Mk q.x (unD u k) d)) (fun j q' X ho hj hc TX=> ?_)).mono ?_
 ·obtain⟨rfl,rfl⟩:=S.at1 ho hj
  have hz:=Jg hc
  have hg:=Pn (hz (Bl k) (by simp))
  have ha:=acc_zero (hz (Et [d.g,d.s]) (by simp))
  refine(def_en h 0 q' u k d X TX.is S.k S.l hj S.qi (U.to TX) hu hn (TX.tabs H hT) hg hFd (ha d.g (by simp)) (ha d.s (by simp)) (by omega) (S.fu hF) S.dp).mono ?_
  rintro e Y ⟨h1,y,rfl,⟨hN1,hy⟩,T⟩
  exact⟨h1,y, .nilIface,rfl,⟨rfl,hN1,hy⟩,T⟩
 ·rintro e Y ⟨h1,y,er,rfl,hcase,T⟩
  refine⟨h1,y,er,rfl, ?_,T⟩
  rcases hcase with ⟨h0, -,rfl, -⟩|⟨h0,h2,h3,h4⟩
  ·exact⟨Nx.refl S.l S.qi (by decide),fun h5=>absurd h5 h0⟩
  ·exact⟨h3,fun _ h6=>⟨h2,h4 h6⟩⟩
theorem do_set (h:HP) (q:OB) (u:List Nat) (k:KK) (v:VV) (N:Nat) (Fu:Int) (w:World) (H:h.Is w) (S:SH u h q N Fu) (U:Un h q.ov u w) (hu:UOk u) (hn:u.length<=2000) (hT:Tabs w) (hv:v.x<2^64) (hF:10<=Fu) (hN:N<90000):Calls prog 13 #[.pointer (some ⟨h.b,0,none⟩), .int .i64 1,k.agg,v.agg,(Rr 1).agg] w fun e w'=> ∃(h1:HP) (y:Bool) (er:Value),e= .returned (.tuple #[.bool y,er])/\Nx u 3 1 h q h1/\h.To h1 w w':=by
 have hla:=S.la
 have hf:=S.f
 refine(dorSet h 1 k v (Rr 1) w H S.k.len hT (fun h1 y er=>Nx u 3 1 h q h1) (fun j q' X ho hj hc TX=> ?_)).mono ?_
 ·obtain⟨rfl,rfl⟩:=S.at1 ho hj
  have hg:=Pn (Jg hc (Bl k) (by simp))
  refine(enSet_n h 0 q' k v (Rr 1) (fun h1 y er=>Nx u 2 1 h.inn q' h1) X TX.is S.k hj (S.fu hF) S.dp (fun Z TZ=> ?_)).mono ?_
  ·refine(set_s h.inn 0 q' u k v (Rr 1) Z TZ.is ⟨S.k.len,by show 0<=h.fuel - 1;omega,by show h.fuel - 1<=_;have:=S.k.f1;omega,by show 0<=h.ent+1;rw[S.e];decide,by show h.ent+1<=h.depth;rw[S.e,S.d];decide,S.k.d1⟩ S.l hj S.qi ((U.to TX).to TZ) hu hn (TZ.tabs TX.is (TX.tabs H hT)) hg hv (by omega) (by show 3<=h.fuel - 1;omega) (by show h.ent+1+1<=h.depth;rw[S.e,S.d];decide) rfl rfl).mono ?_
   rintro e Y ⟨h1,y,rfl,hN1,T⟩
   exact⟨h1,y, .nilIface,rfl,hN1,hN1.ent1,T⟩
  ·rintro e Y ⟨h1,y,er,rfl,hN1,T⟩
   exact⟨h1.out,y,er,rfl,hN1.out,T⟩
 ·rintro e Y ⟨h1,y,er,rfl,hcase,T⟩
  refine⟨h1,y,er,rfl, ?_,T⟩
  rcases hcase with ⟨h0, -,rfl, -⟩|⟨h0,h2⟩
  ·exact Nx.refl S.l S.qi (by decide)
  ·exact h2
theorem del_nx {u:List Nat} {h h1:HP} {q:OB} {k:KK} (hl:h.l= [q]) (Q:QI u q) (hS:DelS h 0 q u k h1):Nx u 0 0 h q h1:=by
 rcases hS with rfl|⟨hc,T',rfl,hla,hpr⟩
 ·exact Nx.refl hl Q (Int.le_refl _)
 ·have hk:k≠lenK:=fun e=>hc (by rw[e,Q.len.1];rfl)
  refine⟨{q with T:=T'}, ?_,Q.del hk hpr,rfl,by show T'.last<=_;omega,by show h.fuel - 0<=h.fuel;omega,Int.le_refl _,rfl,rfl⟩
  show h.l.set 0 _=_
  rw[hl]
  rfl
theorem do_del (h:HP) (q:OB) (u:List Nat) (k:KK) (N:Nat) (Fu:Int) (w:World) (H:h.Is w) (S:SH u h q N Fu) (U:Un h q.ov u w) (hu:UOk u) (hn:u.length<=2000) (hT:Tabs w) (hF:10<=Fu) (hN:N<90000):Calls prog 15 #[.pointer (some ⟨h.b,0,none⟩), .int .i64 1,k.agg] w fun e w'=> ∃(h1:HP) (y:Bool) (er:Value),e= .returned (.tuple #[.bool y,er])/\Nx u 1 0 h q h1/\h.To h1 w w':=by
 have hla:=S.la
 refine(Zdy h 1 k w H S.k.len hT (fun h1 y er=>Nx u 1 0 h q h1) (fun j q' X ho hj hc TX=> ?_)).mono ?_
 ·obtain⟨rfl,rfl⟩:=S.at1 ho hj
  have hg:=Pn (Jg hc (Bl k) (by simp))
  refine(ZbP h 0 q' k (fun h1 y er=>Nx u 0 0 h.inn q' h1) X TX.is S.k hj (S.fu hF) S.dp (fun Z TZ=> ?_)).mono ?_
  ·refine(sdel_h h.inn 0 q' u k Z TZ.is S.k.len hj S.qi.ot ((U.to TX).to TZ) hu (TZ.tabs TX.is (TX.tabs H hT)) hg (by omega)).mono ?_
   rintro e Y ⟨h1,y,rfl,hS,T⟩
   have hN1:=del_nx (h:=h.inn) S.l S.qi hS
   exact⟨h1,y, .nilIface,rfl,hN1,hN1.ent1,T⟩
  ·rintro e Y ⟨h1,y,er,rfl,hN1,T⟩
   exact⟨h1.out,y,er,rfl,hN1.out,T⟩
 ·rintro e Y ⟨h1,y,er,rfl,hcase,T⟩
  refine⟨h1,y,er,rfl, ?_,T⟩
  rcases hcase with ⟨h0, -,rfl, -⟩|⟨h0,h2⟩
  ·exact Nx.refl S.l S.qi (by decide)
  ·exact h2
theorem ZcF (h:HP) (q:OB) (u:List Nat) (N:Nat) (Fu:Int) (w:World) (H:h.Is w) (S:SH u h q N Fu) (U:Un h q.ov u w) (hu:UOk u) (hn:u.length<=2000) (hT:Tabs w) (hF:10<=Fu) (hN:N<90000):Calls prog 16 #[.pointer (some ⟨h.b,0,none⟩), .int .i64 1] w fun e w'=> ∃(h1:HP) (y:Bool) (er:Value),e= .returned (.tuple #[.bool y,er])/\Nx u 1 0 h q h1/\h.To h1 w w':=by
 refine(Mg h 1 w H S.k.len hT (fun h1 y er=>Nx u 1 0 h q h1) (fun j q' X ho hj hc TX=> ?_)).mono ?_
 ·obtain⟨rfl,rfl⟩:=S.at1 ho hj
  refine(Lt h 0 q' (fun h1 y er=>Nx u 0 0 h.inn q' h1) X TX.is S.k hj (S.fu hF) S.dp (fun Z TZ=> ?_)).mono ?_
  ·refine(Zav h.inn 0 q' Z TZ.is S.k.len hj).mono ?_
   rintro e Y ⟨rfl,T⟩
   refine⟨h.inn.shut 0 q',true, .nilIface,rfl,⟨{q' with x:=false}, ?_,S.qi.shut,rfl,Nat.le_refl _,by show h.inn.fuel - 0<=h.inn.fuel;omega,Int.le_refl _,rfl,rfl⟩,rfl,T⟩
   show h.l.set 0 _=_
   rw[S.l]
   rfl
  ·rintro e Y ⟨h1,y,er,rfl,hN1,T⟩
   exact⟨h1.out,y,er,rfl,hN1.out,T⟩
 ·rintro e Y ⟨h1,y,er,rfl,hcase,T⟩
  refine⟨h1,y,er,rfl, ?_,T⟩
  rcases hcase with ⟨h0, -,rfl, -⟩|⟨h0,h2⟩
  ·exact Nx.refl S.l S.qi (by decide)
  ·exact h2
theorem SH.less {u:List Nat} {h:HP} {q:OB} {N:Nat} {Fu:Int} (S:SH u h q N Fu) (hF:10<=Fu):SH u h.less q N (Fu - 1):=
 ⟨Zcq S.k (S.fu hF),S.l,S.qi,S.la,by show Fu - 1<=h.fuel - 1;have:=S.f;omega,S.e,S.d⟩
theorem Zbi {u:List Nat} {h:HP} {q:OB} {N:Nat} {Fu:Int} (S:SH u h q N Fu):thE 1 h.l.length=0:=by rw[S.l];rfl
theorem Zdf:Bo [nulV]=0:=by
 have:nulV.good=true:=by simp[VV.good,Gi,Ni,nulV,inG]
 simp[Bo,this]
theorem Xt (n:Nat):Ay n [nulV]=0:=by simp[Ay,Kt,nulV]
theorem ZbR (h:HP) (q:OB) (u:List Nat) (k:KK) (N:Nat) (Fu:Int) (w:World) (H:h.Is w) (S:SH u h q N Fu) (U:Un h q.ov u w) (hu:UOk u) (hn:u.length<=2000) (hT:Tabs w) (hg:goodK k=true) (hF:10<=Fu) (hso:soB q u k=true) (h0:(soD q u k).g.k=0):Calls prog 19 #[.pointer (some ⟨h.b,0,none⟩), .int .i64 1,k.agg,nulV.agg] w fun e w'=>e= .returned (.tuple #[(soD q u k).v.agg, .nilIface])/\h.To h.less w w':=by
 refine(dorGet h 1 k nulV w H S.k.len hT (fun h1 V er=>h1=h.less/\V=(soD q u k).v/\er= .nilIface) (fun j q' X ho hj hc TX=> ?_)).mono ?_
 ·obtain⟨rfl,rfl⟩:=S.at1 ho hj
  refine(enGet_n h 0 q' k nulV (fun h1 V er=>h1=h.inn/\V=(soD q' u k).v/\er= .nilIface) X TX.is S.k hj (S.fu hF) S.dp (fun Z TZ=> ?_)).mono ?_
  ·refine(sget_h h.inn 0 q' u k nulV Z TZ.is S.k.len hj S.qi.ot ((U.to TX).to TZ) hu (TZ.tabs TX.is (TX.tabs H hT)) hg hso h0).mono ?_
   rintro e Y ⟨rfl,T⟩
   exact⟨h.inn,_,_,rfl,⟨rfl,rfl,rfl⟩,rfl,T⟩
  ·rintro e Y ⟨h1,V,er,rfl,⟨rfl,rfl,rfl⟩,T⟩
   rw[Zk] at T
   exact⟨h.less,_,_,rfl,⟨rfl,rfl,rfl⟩,T⟩
 ·rintro e Y ⟨h1,V,er,rfl,hcase,T⟩
  rcases hcase with ⟨h5, -⟩|⟨-,rfl,rfl,rfl⟩
  ·refine absurd ?_ h5
   have e1:Bl k=0:=by unfold Bl;rw[hg];rfl
   rw[Zbi S,e1,Zdf,Xt]
   rfl
  ·exact⟨rfl,T⟩
theorem do_own (h:HP) (q:OB) (u:List Nat) (k:KK) (N:Nat) (Fu:Int) (w:World) (H:h.Is w) (S:SH u h q N Fu) (U:Un h q.ov u w) (hu:UOk u) (hn:u.length<=2000) (hT:Tabs w) (hg:goodK k=true) (hF:10<=Fu):Calls prog 21 #[.pointer (some ⟨h.b,0,none⟩), .int .i64 1,k.agg] w fun e w'=>e= .returned (.tuple #[(soD q u k).agg, .bool (soB q u k), .nilIface])/\h.To h.less w w':=by
 refine(Pb h 1 k w H S.k.len hT (fun h1 V y er=>h1=h.less/\V=soD q u k/\y=soB q u k/\er= .nilIface) (fun j q' X ho hj hc TX=> ?_)).mono ?_
 ·obtain⟨rfl,rfl⟩:=S.at1 ho hj
  refine(own_en h 0 q' u k X TX.is S.k S.l hj S.qi (U.to TX) hu hn (TX.tabs H hT) hg (S.fu hF) S.dp).mono ?_
  rintro e Y ⟨rfl,T⟩
  exact⟨h.less,_,_,_,rfl,⟨rfl,rfl,rfl,rfl⟩,T⟩
 ·rintro e Y ⟨h1,V,y,er,rfl,hcase,T⟩
  rcases hcase with ⟨h5, -⟩|⟨-,rfl,rfl,rfl,rfl⟩
  ·refine absurd ?_ h5
   have e1:Bl k=0:=by unfold Bl;rw[hg];rfl
   rw[Zbi S,e1]
   rfl
  ·exact⟨rfl,T⟩
theorem ownK_to {h h':HP} {Y Z:World} {base:Nat} {V:Value} {l:List KK} (hO:OwnK Y base V l) (T:h.To h' Y Z) (hb: ∀b∈h.blocks,b<base):OwnK Z base V l:=
 hO.block (fun g hg=>T.fr.block g (hO.own g hg).2 (fun hm=>by have:=hb g hm;have:=(hO.own g hg).1;omega))
theorem keys_en (h:HP) (j:Nat) (q:OB) (u:List Nat) (w:World) (H:h.Is w) (K:h.Ok) (hj:h.l[j]? =some q) (Q:QI u q) (U:Un h q.ov u w) (hu:UOk u) (hT:Tabs w) (hla:q.T.last<4000000) (hlv:q.T.live.length<=1500000) (hnn:u.length+(La ((pr q.T).map (·.1))).length<=100000) (hf:h.fuel≠0) (hd:h.ent≠h.depth):Calls prog 53 #[.pointer (some ⟨h.b,0,none⟩), .int .i64 ((j:Int)+1)] w fun e w'=> ∃V,e= .returned (.tuple #[V, .nilIface])/\OwnK w' w.heap.size V (Kc u.length++La ((pr q.T).map (·.1)))/\h.To h.less w w':=by
 have SS:=Ab H.start
 have HC:=Ab (fun (X:World) (TX:h.To h.inn w X)=>skeys_h h.inn j q u X TX.is K.len hj Q.ot (U.to TX) hu (TX.tabs H hT) hla hlv hnn)
 rw[show h.inn.b=h.b from rfl] at HC
 have HB:=Ab H.lt
 generalize Kc u.length++La ((pr q.T).map (·.1))=KS at *
 have hE0:0<=h.ent+1/\h.ent+1<=100000001:=by have:=K.e0;have:=K.e1;have:=K.d1;omega
 clear U hu hla hlv hnn Q hT
 go_enter_defers func53,ntmps53
 go_wp2_with fail
 refine(Ls h j q _ ((Aa SS).hp 0 rfl) K hj hf hd).mono ?_
 rintro _ Y1 ⟨rfl,T1⟩
 replace SS:=Ab ((Aa SS).heap 0 rfl T1)
 clear T1
 unfold Zaw
 go_wp2_with fail
 refine(Aa HC _ (HP.To.end H (Aa SS) rfl)).mono ?_
 rintro _ Y2 ⟨V,rfl,hO,hb2⟩
 have hO2:=OwnK.mono hO (Aa SS).fr.size
 have HO2:=Ab hO2
 replace SS:=Ab ((Aa SS).on hb2)
 clear hb2 hO hO2
 go_wp2
 refine leaves_cons (f:=76) (args:= #[.pointer (some ⟨h.b,0,none⟩)]) (by simp) (by simp[go_sem]) ?_
 have HL:=Ln h.inn .returning _ ((Aa SS).hp 0 rfl) hE0
 refine HL.mono ?_
 rintro e u2 w2 ⟨rfl,rfl,T3⟩
 replace SS:=Ab ((Aa SS).heap 0 rfl T3)
 have hK:=ownK_to (Aa HO2) T3 (Aa HB)
 rw[Zk] at SS
 exact⟨_,results_tmp2 rfl _ _ _,V,rfl,hK,HP.To.end H (Aa SS) rfl⟩
theorem ZcG (h:HP) (q:OB) (u:List Nat) (N:Nat) (Fu:Int) (w:World) (H:h.Is w) (S:SH u h q N Fu) (U:Un h q.ov u w) (hu:UOk u) (hn:u.length<=2000) (hT:Tabs w) (hF:10<=Fu) (hN:N<90000) (hlv:q.T.live.length<=1500000) (hnn:u.length+(La ((pr q.T).map (·.1))).length<=100000):Calls prog 18 #[.pointer (some ⟨h.b,0,none⟩), .int .i64 1] w fun e w'=> ∃V,e= .returned (.tuple #[V, .nilIface])/\OwnK w' w.heap.size V (Kc u.length++La ((pr q.T).map (·.1)))/\h.To h.less w w':=by
 have SS:=Ab H.start
 have HK:=fun (X:World) (TX:h.To h w X)=>keys_en h 0 q u X TX.is S.k S.at0 S.qi (U.to TX) hu (TX.tabs H hT) (by have:=S.la;omega) hlv hnn (S.fu hF) S.dp
 rw[show ((0:Nat):Int)+1=1 from rfl] at HK
 have HTH:=fun (X:World) (hX:h.Is X)=>Kd h 1 X hX
 rw[Zbi S] at HTH
 generalize Kc u.length++La ((pr q.T).map (·.1))=KS at *
 go_enter func18,ntmps18
 go_wp2_with fail
 refine(HTH _ ((Aa SS).hp 0 rfl)).mono ?_
 rintro _ _ ⟨rfl,rfl⟩
 go_wp2_with fail
 refine(HK _ (HP.To.end H (Aa SS) rfl)).mono ?_
 rintro _ Y9 ⟨V,rfl,hO,T9⟩
 have HO2:=Ab (OwnK.mono hO (Aa SS).fr.size)
 replace SS:=Ab ((Aa SS).heap 0 rfl T9)
 clear T9 hO
 go_wp2
 go_ret2
 exact⟨V,rfl,Aa HO2,HP.To.end H (Aa SS) rfl⟩
theorem Sy.addRow {w X Y:World} {E:List Nat} {L:List Ob} {base e s n:Nat} {v:Value} {xs:List Value} (S:Sy w X E L) (hO:Y.ownsRow X.heap.size e s v n xs) (k:Below X.heap.size X Y) (hb:base<=X.heap.size):Sy w Y E (L++ [Dm base e s v n xs]):=S.add (Lh _ _ _ _ _ _) (Kz hO hb) k (fun b hb'=>(World.ownsRow.lt hO b (by simpa [Dm] using hb')).1)
section
variable {ops : Array Oper} {rest : List Oper} {Q : Exit → Act → World → Prop} {w w0 : World} {a : Act} {o : Oper} {E : List Nat} {L : List Ob}
theorem emS {t e:TypeId} {size:Nat} (base:Nat) (hw:Region.wanted o (yielded ops a.tmps)=true) (ho:o.op= .buildSlice t 0 #[]) (hr: ∀w,(Instr.buildSlice t 0 #[]).run prog w= .ok (.slice (some ⟨w.heap.size,0,none⟩) 0 0) (w.alloc (Obj.cells #[] e))) (hL:Sy w0 w E L) (hb:base<=w.heap.size)
  (h: ∀X B,Sy w0 X E (L++ [Dm base e size (.slice (some ⟨B,0,none⟩) 0 0) 0 []])->wpList prog ops Q rest (a.put o.dst (.slice (some ⟨B,0,none⟩) 0 0)) X):wpList prog ops Q (o::rest) a w:=by
 refine BigFrame.wpList_want hw fun K hK=> ?_
 have hown:(w.alloc (Obj.cells #[] e)).ownsRow w.heap.size e size (.slice (some ⟨w.heap.size,0,none⟩) 0 0) 0 []:=⟨by simp, .inr ⟨w.heap.size,0, #[],rfl,Nat.le_refl _,(MapKept.heap_alloc w _).1,Nat.le_refl _,Nat.zero_le _,by simp,by simp⟩⟩
 have hP:=hK _ _ (h (w.alloc (Obj.cells #[] e)) w.heap.size (Sy.addRow hL hown ((Below.refl _ _).alloc (Nat.le_refl _) _) hb))
 have he:(execOp a.eval o).run prog w= .ok (.value (.slice (some ⟨w.heap.size,0,none⟩) 0 0)) (w.alloc (Obj.cells #[] e)):=by
  unfold execOp
  simp only[ho,List.map_toArray,List.map_nil]
  simp[hr w]
 unfold Oper.wp
 rw[he]
 exact hP
theorem apA {t e:TypeId} {size bytes k m c base:Nat} {z v:Value} {xs news:List Value} {A:Option Addr} {s x:Operand} (i:Nat) (hw:Region.wanted o (yielded ops a.tmps)=true) (ho:o.op= .call {callee:= .builtin .append,args:= #[s,x],argTypes:= #[t,t]}) (hs:a.eval s=v) (hx:a.eval x= .slice A m c)
  (ht:prog.underlying t=some (.slice e)) (hi:(prog.info? e).map (fun i=>(i.zero,i.size,i.bytes))=some (some z,size,bytes)) (hz:z.cells.size=size) (hsz:0<size) (hL:Sy w0 w E L) (hi1:L[i]? =some (Dm base e size v k xs)) (hA:A=none->m=0/\c=0) (hl:news.length=m * size)
  (hnews: ∀ad,A=some ad-> ∀j u,news[j]? =some u->w.cell? (ad.add j)=some u) (h1: ∀u∈news,u.oneCell'=true)
  (hn:k+m<=4000000) (hby:bytes<=10000) (hbase:base<=w.heap.size)
  (h: ∀A c X,Sy w0 X E (L.set i (Dm base e size (.slice A (k+m) c) (k+m) (xs++news)))->wpList prog ops Q rest (a.put o.dst (.slice A (k+m) c)) X):wpList prog ops Q (o::rest) a w:=by
 obtain⟨i0,hi,hz0,hz1,hz2⟩:=info_parts hi
 have hown:w.ownsRow base e size v k xs:=hL.get i hi1
 refine BigFrame.wpList_want hw fun K hK=> ?_
 cases A with
 |none=>
  obtain⟨rfl,rfl⟩:=hA rfl
  obtain rfl:news= []:=List.length_eq_zero_iff.1 (by simpa using hl)
  have hrun:=run_append_owned_none (P:=prog) (w:=w) base t o.type e i0 size ht hi v k xs hown
  obtain⟨A',c',rfl⟩:=Eg hown
  have hP:=hK _ _ (h A' c' w (by
   simp only[Nat.add_zero,List.append_nil]
   exact hL.row i hi1 hown (World.grownBy.refl _ _) (.inl rfl)))
  simp only[Nat.add_zero] at hP
  unfold Oper.wp
  simp[execOp,ho,resolve,invoke,builtin,hs,hx,hrun,Result.andThen]
  exact hP
 |some ad=>
  obtain⟨v',w',hrun,h2,h3,h4⟩:=Ge w base t o.type e i0 _ size bytes ht hi hz0 hz1 hz2 hz hsz v k xs hown ad m c news hl (hnews ad rfl) h1 (by unfold maxLen;omega) (Nat.le_trans (Nat.mul_le_mul hn hby) (by decide)) hbase
  obtain⟨A',c',rfl⟩:=Eg h2
  have hP:=hK _ _ (h A' c' w' (hL.row i hi1 h2 h3 h4))
  unfold Oper.wp
  simp[execOp,ho,resolve,invoke,builtin,hs,hx,hrun,Result.andThen]
  exact hP
theorem apA0 {t e:TypeId} {size bytes m c base:Nat} {z v:Value} {news:List Value} {A:Option Addr} {s x:Operand} (i:Nat) (hw:Region.wanted o (yielded ops a.tmps)=true) (ho:o.op= .call {callee:= .builtin .append,args:= #[s,x],argTypes:= #[t,t]}) (hs:a.eval s=v) (hx:a.eval x= .slice A m c)
  (ht:prog.underlying t=some (.slice e)) (hi:(prog.info? e).map (fun i=>(i.zero,i.size,i.bytes))=some (some z,size,bytes)) (hz:z.cells.size=size) (hsz:0<size) (hL:Sy w0 w E L) (hi1:L[i]? =some (Dm base e size v 0 [])) (hA:A=none->m=0/\c=0) (hl:news.length=m * size)
  (hnews: ∀ad,A=some ad-> ∀j u,news[j]? =some u->w.cell? (ad.add j)=some u) (h1: ∀u∈news,u.oneCell'=true)
  (hn:m<=4000000) (hby:bytes<=10000) (hbase:base<=w.heap.size)
  (h: ∀A c X,Sy w0 X E (L.set i (Dm base e size (.slice A m c) m news))->wpList prog ops Q rest (a.put o.dst (.slice A m c)) X):wpList prog ops Q (o::rest) a w:=
 apA i hw ho hs hx ht hi hz hsz hL hi1 hA hl hnews h1 (by omega) hby hbase (fun A c X hS=>by simp only[Nat.zero_add,List.nil_append] at hS ⊢;exact h A c X hS)
end
theorem eqlSx0 {P:Program} (w:World) (d:Nat) (t e:TypeId) (p:Option Addr) (n c:Nat) (h:P.underlying t=some (.slice e)):(Op.equalIn (d+1) t (.slice p n c) (.slice none 0 0)).run P w= .ok p.isNone w:=by
 cases p<;>simp[Op.equalIn,run_underlying h]
theorem eqlSx {P:Program} (w:World) (t e:TypeId) (p:Option Addr) (n c:Nat) (h:P.underlying t=some (.slice e)):(binOp .eql t (.slice p n c) (.slice none 0 0)).run P w= .ok (.bool p.isNone) w:=by
 simp only[binOp]
 simp[show Op.equal t (.slice p n c) (.slice none 0 0)=Op.equalIn (9999+1) t (.slice p n c) (.slice none 0 0) from rfl,eqlSx0 w 9999 t e p n c h]
theorem ZcB {o:Oper} {a:Act} {w:World} {x:Operand} {p:Option Addr} {n c:Nat} (ho:o.op= .binOp .eql 52 x (.const (.slice none 0 0)) 52) (hx:a.eval x= .slice p n c):(execOp a.eval o).run prog w= .ok (.value (.bool p.isNone)) w:=by
 have e:=eqlSx (P:=prog) w 52 103 p n c underlying52
 unfold execOp
 simp only[ho,hx,show a.eval (.const (.slice none 0 0))= .slice none 0 0 from rfl]
 simp[e,eqGuard]
theorem noneU (w:World):(Instr.buildSlice 52 0 #[]).run prog w= .ok (.slice (some ⟨w.heap.size,0,none⟩) 0 0) (w.alloc (Obj.cells #[] 103)):=by kernel_rfl
theorem infU:(prog.info? 103).map (fun i=>(i.zero,i.size,i.bytes))=some (some (.int .u16 0),1,2):=by kernel_rfl
theorem u16_one (u:List Nat): ∀x∈u.map Em,x.oneCell'=true:=by
 intro x hx
 obtain⟨n, -,rfl⟩:=List.mem_map.1 hx
 simp[Em,Value.oneCell']
theorem own_src {X:World} {base g c n:Nat} {xs:List Value} (h:X.ownsRow base 103 1 (.slice (some ⟨g,0,none⟩) n c) n xs): ∀ad,some (⟨g,0,none⟩:Addr)=some ad-> ∀j v,xs[j]? =some v->X.cell? (ad.add j)=some v:=by
 rintro ad hd j v hv
 cases hd
 rcases h.2 with ⟨h0, -⟩|⟨g',cap,cur,h1,h2,h3,h4,h5,h6,h7⟩
 ·cases h0
 ·cases h1
  have hj:=(List.getElem?_eq_some_iff.1 hv).1
  rw[h.1] at hj
  rw[←h7,List.getElem?_take] at hv
  rw[if_pos hj] at hv
  rw[Addr.add_mid]
  simp[World.cell?,h3]
  simpa using hv
theorem clone63 (v:Value) (u:List Nat) (b0:Nat) (w:World) (hO:w.ownsRow b0 103 1 v u.length (u.map Em)) (hl:u.length<=1048576):Calls prog 63 #[v] w fun e w'=> ∃v',e= .returned v'/\w'.ownsRow w.heap.size 103 1 v' u.length (u.map Em)/\Below w.heap.size w w':=by
 have SS:=Ab (Sy.nil w [])
 have HO:=Ab hO
 have HL:=Ab (show u.length<=4000000 by omega)
 rcases hO.2 with ⟨rfl,h0⟩|⟨g,cap,cur,rfl, -⟩
 ·clear hO
  go_enter func63,ntmps63
  go_wp2_with (first|go_skip|((with_reducible show wpList ..);first|(refine rd rfl (ZcB rfl rfl) ?_)))
  go_ret
  exact⟨_,rfl,⟨(Aa HO).1, .inl ⟨rfl,h0⟩⟩,(Aa SS).fr.below⟩
 ·clear hO cur
  go_enter func63,ntmps63
  go_wp2_with (first|go_skip|((with_reducible show wpList ..);first|(refine rd rfl (ZcB rfl rfl) ?_)|((refine emS (t:=52) (e:=103) (size:=1) w.heap.size (by rfl) rfl noneU (Aa SS) (Aa SS).fr.size ?_);intro Xe Be S0;replace SS:=Ab S0;clear S0;simp only[nn])|((refine apA0 (t:=52) (e:=103) (size:=1) (bytes:=2) (z:= .int .u16 0) (news:=u.map Em) 0 (by rfl) rfl rfl rfl underlying52 infU rfl (by decide) (Aa SS) rfl (fun h=>by cases h) (by simp) (own_src (Qu (Aa HO) (fun g hg=>(Aa SS).fr.below.block g (World.ownsRow.lt (Aa HO) g hg).2))) (u16_one u) (Aa HL) (by decide) (Aa SS).fr.size ?_);intro A1 c1 X1 S0;replace SS:=Ab S0;clear S0;simp only[nn])))
  go_ret
  exact⟨_,rfl,(Aa SS).get 0 rfl,(Aa SS).fr.below⟩
theorem Zc4 (s:ByteArray) (hs:s.size<=1048576) (w:World) (hT:Lib.Utf8Tabs 0 1 w):Calls prog 33 #[.string s] w fun e w'=> ∃v,e= .returned v/\w'.ownsRow w.heap.size 103 1 v (unS s).length ((unS s).map Em)/\Below w.heap.size w w':=by
 have HU:=Vy s (by omega) w hT
 have hl:=Qs s
 have HL:=Ab (show (unS s).length<=1048576 by omega)
 generalize unS s=u at *
 generalize erS s=er at *
 clear hl hT
 go_enter func33,ntmps33
 go_wp2_with fail
 refine HU.mono ?_
 rintro _ Y1 ⟨v,rfl,hO,hb1⟩
 have HO:=Ab hO
 have HB:=Ab hb1
 clear hO hb1
 go_wp2_with fail
 refine(clone63 v u _ _ (Aa HO) (Aa HL)).mono ?_
 rintro _ Y2 ⟨v',rfl,hO2,hb2⟩
 have H2:=Ab (And.intro hO2 hb2)
 clear hO2 hb2
 go_wp2
 go_ret
 exact⟨v',rfl,Xp (Aa H2).1 (Aa HB).size,(Aa HB).trans ((Aa H2).2.mono (Aa HB).size)⟩
theorem Qd (w:World):Calls prog 31 #[nulV.agg] w fun e w'=>e= .returned (.int .i64 0)/\Below w.heap.size w w':=by
 have SS:=Ab (Sy.nil w [])
 rw[Dj]
 go_enter func31,ntmps31
 go_wp2_with (first|go_skip|((with_reducible show wpList ..);first|(refine zB 36 (nulV.cs) (by rfl) rfl rfl rfl SS ?_;clear SS;intro Xa Ba SS;simp only[nn])|(refine rd rfl (Ad 3 isAgg3 rfl rfl ((Aa SS).hold 0 rfl) rfl) ?_)))
 go_ret
 exact⟨rfl,(Aa SS).fr.below⟩
def Mv (s:ByteArray):Int:=if Gh s then 0 else 5
theorem Yb (s:ByteArray) (w:World) (hT:Lib.Utf8Tabs 0 1 w):Calls prog 32 #[.string s] w fun e w'=>e= .returned (.int .i64 (Mv s))/\Below w.heap.size w w':=by
 have SS:=Ab (Sy.nil w [])
 have HC:=Jb (Do s) w hT
 have e:Py (Do s).good=Mv s:=by unfold Py Mv;cases hf:Gh s;(rw[str_bad hf]);(rw[Zae hf])
 rw[e,Dj] at HC
 clear e hT
 generalize Mv s=c at *
 go_enter func32,ntmps32
 go_wp2_with (first|go_skip|((with_reducible show wpList ..);first|(refine rd rfl (ZcD rfl rfl) ?_)))
 refine HC.mono ?_
 rintro _ Y1 ⟨rfl,hb1⟩
 have HB:=Ab hb1
 clear hb1
 go_wp2
 go_ret
 exact⟨rfl,Aa HB⟩
theorem ex_nf {o:Oper} {a:Act} {w:World} {x:Operand} {n:Nat} (ho:o.op= .convert 3 34 x) (hx:a.eval x= .int .i64 (n:Nat)):(execOp a.eval o).run prog w= .ok (.value (.float .f64 (nf n))) w:=by
 unfold execOp
 simp only[ho,hx]
 simp[go_sem,convert,Conv.intToFloat,nf]
theorem ex_bLen {o:Oper} {a:Act} {w:World} {x:Operand} {n:Nat} (ho:o.op= .build 43 #[(0,x),(3, .const (.int .i64 1)),(4, .const (.int .i64 1)),(5, .const (.int .i64 1))]) (hx:a.eval x= .agg (Ja (nf n)).cs.toArray):(execOp a.eval o).run prog w= .ok (.value (.agg (lenD n).cs.toArray)) w:=by
 have e:(Instr.build 43 #[(0, .agg (Ja (nf n)).cs.toArray),(3, .int .i64 1),(4, .int .i64 1),(5, .int .i64 1)]).run prog w= .ok (.agg (lenD n).cs.toArray) w:=by kernel_rfl
 unfold execOp
 simp only[ho,List.map_toArray,List.map_cons,List.map_nil,hx]
 simp[e,Act.eval]
theorem ex_lkc {o:Oper} {a:Act} {w:World} (ho:o.op= .build 40 #[(0, .const (.string ZbE))]):(execOp a.eval o).run prog w= .ok (.value (.agg lenK.cs.toArray)) w:=ex_lk ho rfl
theorem get_nil {T:TT} (h:pr T= []) (k:KK):getD T k=Al:=by
 rw[Zbw,h]
 rfl
theorem slay_h (h:HP) (j:Nat) (q:OB) (n:Nat) (w:World) (H:h.Is w) (hl:h.l.length<=65536) (hj:h.l[j]? =some q) (hT:Tabs w) (hp:pr q.T= []) (hx:q.x=true) (hlast:q.T.last=0):Calls prog 35 #[.agg #[], .pointer (some ⟨h.b,0,none⟩), .int .i64 ((j:Int)+1), .int .i64 (n:Nat)] w fun e w'=> ∃T':TT,e= .returned (.tuple #[])/\pr T'= [(lenK,lenD n)]/\T'.last<=1/\h.To (h.tab j q T') w w':=by
 have SS:=Ab H.start
 have hz:getD q.T lenK=Al:=get_nil hp _
 have HD:=fun (X:World) (hX:h.To h w X)=>Ru h j q lenK (lenD n) X hX.is hl hj (hX.tabs H hT) lenK_ok Pk (by rw[hz];exact Zb4) (len_FD n) (by rw[hlast];decide)
 simp only[Ec,Es] at HD
 go_enter func35,ntmps35
 go_wp2_with (first|go_skip|((with_reducible show wpList ..);first|((refine bxE (by rfl) rfl rfl (Aa SS) ?_);intro X0 B0 S0;replace SS:=Ab S0;clear S0;simp only[nn])|(refine rd rfl (ex_nf rfl rfl) ?_)))
 have HN:=Zcn (nf n)
 simp only[Dj] at HN
 refine(HN _).mono ?_
 clear HN
 rintro _ Y1 ⟨rfl,hb1⟩
 replace SS:=Ab ((Aa SS).on hb1)
 clear hb1
 go_wp2_with (first|go_skip|((with_reducible show wpList ..);first|(refine rd rfl (ex_bLen rfl rfl) ?_)|(refine zA 43 (Al.cs) (by rfl) rfl SS ?_;clear SS;intro Xa Ba SS;simp only[nn])|(refine zS ((lenD n).cs) 2 43 (by rfl) rfl rfl rfl rfl (Ea _) szD SS rfl ?_;clear SS;intro Xz SS;simp only[nn])|(refine zL ((lenD n).cs) 43 18 2 rwD szD (by rfl) rfl rfl SS rfl rfl rfl ?_;simp only[nn])|(refine rd rfl (ex_lkc rfl) ?_)|(refine rd rfl (faM rfl rfl ((Aa SS).emp 1 rfl)) ?_)|(refine rd rfl (ldO rfl rfl) ?_)|(refine rd rfl (ldM rfl rfl) ?_)))
 refine(HD _ (HP.To.end H (Aa SS) rfl)).mono ?_
 rintro _ Y2 ⟨h1,y,rfl,hP,T1⟩
 unfold DefP at hP
 rw[hz,hx,(ZcL n).1,(ZcL n).2] at hP
 obtain⟨rfl,hP⟩:=hP
 rcases hP with ⟨h0,_⟩|⟨_,T',rfl,hla,hpr⟩
 ·cases h0
 ·replace SS:=Ab ((Aa SS).heap 0 rfl T1)
  have HR:=Ab (And.intro hla hpr)
  clear T1 hla hpr
  go_wp2
  refine bodyPost_end (results_none rfl _ _ _) rfl ?_
  exact⟨T',rfl,by rw[(Aa HR).2,hp];rfl,by have:=(Aa HR).1;rw[hlast] at this;exact this,HP.To.end H (Aa SS) rfl⟩
