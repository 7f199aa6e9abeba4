import Derived.Test.YtfnohipnenkhoaaGreatDoorQz
set_option linter.all false
namespace Go.Proofs.YtfnohipnenkhoaaGreatDoor
set_option maxRecDepth 100000
set_option maxHeartbeats 0
section
open Go Go.Proofs Go.Maps Go.RowKit FM Tryz
attribute [local go_sem] Am Al Ar Ah Ao Ai Aw Do Dn Bq Aj Bo
def HP.Few (h:HP) (N:Nat):Prop:= ∀(j:Nat) (q:OB),h.l[j]? =some q->q.T.last<=N
theorem Low.few {h h1:HP} {N:Nat} (L:Low h h1) (F:h.Few N):h1.Few N:=fun j q hj=>F j q (by rw[←L.l];exact hj)
theorem Zbe:FD Ak:=by unfold FD Ak Av;decide
theorem ZbR {h:HP} (K:h.Wf) {j:Nat} {q:OB} (hj:h.l[j]? =some q) (k:KK):FD (getD q.T k):=by
 cases hf:q.T.find k with
 |none=>
  unfold getD
  rw[hf]
  exact Zbe
 |some r=>exact(ZbP K hj hf).1
theorem Zdh (h:HP) (j:Nat) (q:OB) (k:KK) (w:World) (H:h.Is w) (K:h.Ok) (hj:h.l[j]? =some q) (hk:OkK k):Calls prog 86 #[.pointer (some ⟨h.b,0,none⟩), .int .i64 ((j:Int)+1),k.agg] w fun e w'=> ∃(h1:HP) (V:DD) (y:Bool) (er:Value),e= .returned (.tuple #[V.agg, .bool y,er])/\(Low h h1/\Jj h h1 er/\((er= .nilIface/\V=getD q.T k/\y=(q.T.find k).isSome)∨(er≠ .nilIface/\y=false)))/\h.To h1 w w':=by
 by_cases h0:h.fuel=0
 ·refine(Ry h j k w H h0).mono ?_
  rintro _ Y ⟨rfl,T⟩
  exact⟨h,Ak,false,Bs 1,rfl,⟨Low.refl K,⟨.inr (.inl rfl),fun _=>⟨rfl,rfl⟩,fun h1=>absurd h0 h1⟩, .inr ⟨by simp[Bs],rfl⟩⟩,T⟩
 by_cases hd:h.ent=h.depth
 ·refine(Rx h j k w H K h0 hd).mono ?_
  rintro _ Y ⟨rfl,T⟩
  exact⟨h.less,Ak,false,Bs 2,rfl,⟨Ej K h0,⟨.inr (.inr rfl),fun h1=>absurd h1 h0,fun _=>by show h.fuel - 1<h.fuel;omega⟩, .inr ⟨by simp[Bs],rfl⟩⟩,T⟩
 ·refine(Mv h j q k (fun h1 V y er=>h1=h.inn/\er= .nilIface/\V=getD q.T k/\y=(q.T.find k).isSome) w H K hj h0 hd (fun X TX=> ?_)).mono ?_
  ·refine(ZbB h.inn j q k X TX.is K.len hj hk).mono ?_
   rintro e Y ⟨rfl,hb⟩
   exact⟨h.inn,_,_,_,rfl,⟨rfl,rfl,rfl,rfl⟩,rfl,HP.To.refl TX.is hb⟩
  ·rintro e Y ⟨h1,V,y,er,rfl,⟨rfl,rfl,rfl,rfl⟩,T⟩
   rw[Kx] at T
   exact⟨h.less,_,_,_,rfl,⟨Ej K h0,⟨.inl rfl,fun h1=>absurd h1 h0,fun _=>by show h.fuel - 1<h.fuel;omega⟩, .inl ⟨rfl,rfl,rfl⟩⟩,T⟩
def DefE (h:HP) (j:Nat) (q:OB) (k:KK) (d:DD) (h1:HP) (y:Bool) (er:Value):Prop:=(y=false/\Low h h1/\Er er)∨(y=true/\er= .nilIface/\Yx q.x (getD q.T k) d=true/\ ∃T':TT,Low (h.tab j q T') h1/\T'.last<=q.T.last+1/\pr T'=Qx (pr q.T) k (Ec q.x (getD q.T k) d))
theorem ZdD (h:HP) (j:Nat) (q:OB) (k:KK) (d:DD) (w:World) (H:h.Is w) (K:h.Wf) (F:h.Few 90000) (hj:h.l[j]? =some q) (hT:Tabs w) (hk:OkK k) (hg:goodK k=true) (hFd:FD d):Calls prog 34 #[.pointer (some ⟨h.b,0,none⟩), .int .i64 ((j:Int)+1),k.agg,d.agg] w fun e w'=> ∃(h1:HP) (y:Bool) (er:Value),e= .returned (.tuple #[.bool y,er])/\(DefE h j q k d h1 y er/\Jj h h1 er)/\h.To h1 w w':=by
 by_cases h0:h.fuel=0
 ·refine(Pf h j k d w H h0).mono ?_
  rintro _ Y ⟨rfl,T⟩
  exact⟨h,false,Bs 1,rfl,⟨.inl ⟨rfl,Low.refl K.ok, .inr (.inl rfl)⟩, .inr (.inl rfl),fun _=>⟨rfl,rfl⟩,fun h1=>absurd h0 h1⟩,T⟩
 by_cases hd:h.ent=h.depth
 ·refine(Pe h j k d w H K.ok h0 hd).mono ?_
  rintro _ Y ⟨rfl,T⟩
  exact⟨h.less,false,Bs 2,rfl,⟨.inl ⟨rfl,Ej K.ok h0, .inr (.inr rfl)⟩, .inr (.inr rfl),fun h1=>absurd h1 h0,fun _=>by show h.fuel - 1<h.fuel;omega⟩,T⟩
 ·refine(Lq h j q k d (fun h1 y er=>er= .nilIface/\DefP h.inn j q k d h1 y) w H K.ok hj h0 hd (fun X TX=> ?_)).mono ?_
  ·refine(Ri h.inn j q k d X TX.is K.ok.len hj (TX.tabs H hT) hk hg (ZbR K hj k) hFd (by have:=F j q hj;omega)).mono ?_
   rintro e Y ⟨h1,y,rfl,hP,T⟩
   refine⟨h1,y, .nilIface,rfl,⟨rfl,hP⟩, ?_,T⟩
   rcases hP.2 with ⟨-,rfl⟩|⟨-,T',rfl, -⟩<;>rfl
  ·rintro e Y ⟨h1,y,er,rfl,⟨rfl,hP⟩,T⟩
   have hp:=K.ok.f0
   rcases hP with ⟨hy,⟨rfl,rfl⟩|⟨rfl,T',rfl,hl,hpr⟩⟩
   ·rw[Kx] at T
    exact⟨h.less,false, .nilIface,rfl,⟨.inl ⟨rfl,Ej K.ok h0, .inl rfl⟩, .inl rfl,fun h1=>absurd h1 h0,fun _=>by show h.fuel - 1<h.fuel;omega⟩,T⟩
   ·refine⟨(h.inn.tab j q T').out,true, .nilIface,rfl,⟨.inr ⟨rfl,rfl,hy.symm,T',⟨?_,by show h.fuel - 1<=h.fuel;omega,by show 0<=h.fuel - 1;omega⟩,hl,hpr⟩, .inl rfl,fun h1=>absurd h1 h0,fun _=>by show h.fuel - 1<h.fuel;omega⟩,T⟩
    unfold HP.out HP.tab HP.inn
    simp
def Zez (v:VV):DD:=⟨v,Av,Av,0,0,0⟩
theorem ex_valD {o:Oper} {a:Act} {w:World} {x:Operand} (v:VV) (ho:o.op= .build 39 #[(0,x)]) (hx:a.eval x= .agg v.cs.toArray):(execOp a.eval o).run prog w= .ok (.value (.agg (Zez v).cs.toArray)) w:=by
 have e:(Instr.build 39 #[(0, .agg v.cs.toArray)]).run prog w= .ok (.agg (Zez v).cs.toArray) w:=by kernel_rfl
 unfold execOp
 simp only[ho,List.map_toArray,List.map_cons,List.map_nil,hx]
 simp[e]
theorem Va {o:Oper} {a:Act} {w:World} {x y:Operand} {c:Int} (ho:o.op= .binOp .neq 72 x y 72) (hx:a.eval x= .iface 28 (.int .i64 c)) (hc:a.eval y= .nilIface):(execOp a.eval o).run prog w= .ok (.value (.bool true)) w:=by
 unfold execOp
 simp only[ho,hx,hc]
 simp[go_sem,eqGuard]
def WriP (h:HP) (j:Nat) (q:OB) (k:KK) (v:VV) (h1:HP) (y:Bool) (er:Value):Prop:=(y=false/\Low h h1/\Er er)∨(y=true/\er= .nilIface/\ ∃(d:DD) (T':TT),((d=Eu v/\q.T.find k=none)∨(d=Zez v/\(q.T.find k).isSome=true/\(getD q.T k).g.k=0/\(getD q.T k).w≠1))/\Yx q.x (getD q.T k) d=true/\Low (h.tab j q T') h1/\T'.last<=q.T.last+1/\pr T'=Qx (pr q.T) k (Ec q.x (getD q.T k) d))
theorem ZdU {h h0 h1:HP} {j:Nat} {q:OB} {T':TT} (A:Low h h0) (B:Low (h0.tab j q T') h1):Low (h.tab j q T') h1:=by
 refine Low.trans (h1:=h0.tab j q T') ⟨?_,A.le,A.ge⟩ B
 have e:=A.eq
 have:(h0.tab j q T').fuel=h0.fuel:=rfl
 rw[this]
 generalize h0.fuel=g at *
 subst e
 rfl
theorem Zb3 {v:VV} (h:v.x<2^64):FD (Eu v):=⟨h,show 0<2^64 by decide,show 0<2^64 by decide⟩
theorem FD_val {v:VV} (h:v.x<2^64):FD (Zez v):=⟨h,show 0<2^64 by decide,show 0<2^64 by decide⟩
theorem ZdT (h:HP) (j:Nat) (q:OB) (k:KK) (v:VV) (w:World) (H:h.Is w) (K:h.Wf) (F:h.Few 90000) (hj:h.l[j]? =some q) (hT:Tabs w) (hk:OkK k) (hg:goodK k=true) (hv:v.x<2^64):Calls prog 170 #[.pointer (some ⟨h.b,0,none⟩), .int .i64 ((j:Int)+1),k.agg,v.agg] w fun e w'=> ∃(h1:HP) (y:Bool) (er:Value),e= .returned (.tuple #[.bool y,er])/\WriP h j q k v h1 y er/\h.To h1 w w':=by
 cases hfi:q.T.find k with
 |none=>
  have SS:=Ab H.start
  rw[Ds,Db]
  go_enter func170,ntmps170
  go_wp2_with (first|go_skip|((with_reducible show wpList ..);first|(refine zB 48 (k.cs) (by rfl) rfl rfl rfl SS ?_;clear SS;intro Xa Ba SS;simp only[nn])|(refine zB 36 (v.cs) (by rfl) rfl rfl rfl SS ?_;clear SS;intro Xb Bb SS;simp only[nn])|(refine zL (k.cs) 48 2 1 rwK szK (by rfl) rfl rfl SS rfl rfl rfl ?_;simp only[nn])))
  refine(Zdh h j q k _ ((Aa SS).hp 0 rfl) K.ok hj hk).mono ?_
  rintro _ Y1 ⟨h0,V,y0,er0,rfl,⟨hL0,hE0,hV⟩,T1⟩
  replace SS:=Ab ((Aa SS).heap 0 rfl T1)
  have hb0:h0.b=h.b:=T1.hb
  have hj0:h0.l[j]? =some q:=by rw[hL0.l];exact hj
  clear T1
  rw[Mw]
  rcases hV with ⟨rfl,rfl,rfl⟩|⟨hne,rfl⟩
  ·rw[hfi]
   go_wp2_with (first|go_skip|((with_reducible show wpList ..);first|(refine zA 39 (Ak.cs) (by rfl) rfl SS ?_;clear SS;intro Xc Bc SS;simp only[nn])|(refine zS ((getD q.T k).cs) 3 39 (by rfl) rfl rfl rfl rfl (Ek _) szD SS rfl ?_;clear SS;intro Xz SS;simp only[nn])))
   have hS5:Sy w _ h.blocks [hpO h0,Aq Ba k.cs,Aq Bb v.cs,Aq Bc (Bw Ak.cs 0 (getD q.T k).cs)]:=(Aa SS).drew
   clear SS
   refine wp_region_held_drew (P:=prog) (S:=fun X=>Holds X Ba k.cs/\Holds X Bb v.cs) (by kernel_rfl) (⟨hS5.hold 1 rfl,hS5.hold 2 rfl⟩) (fun hS0=> ?_)
   refine gp 0 (some 26) (.pointer (some ⟨h.b,0,none⟩)) rfl rfl (⟨hS5.hold 1 rfl,hS5.hold 2 rfl⟩) ?_
   refine gp 1 (some 27) (.int .i64 ((j:Int)+1)) rfl rfl (⟨hS5.hold 1 rfl,hS5.hold 2 rfl⟩) ?_
   refine gq 2 (some 28) (.agg k.cs.toArray) rfl rfl (fun X hX=>Af (vs:=k.cs) 48 2 rwK szK rfl rfl hX.1 rfl rfl) (⟨hS5.hold 1 rfl,hS5.hold 2 rfl⟩) ?_
   refine gq 3 (some 29) (.agg v.cs.toArray) rfl rfl (fun X hX=>Af (vs:=v.cs) 36 5 rwV szV rfl rfl hX.2 rfl rfl) (⟨hS5.hold 1 rfl,hS5.hold 2 rfl⟩) ?_
   refine gr (rs:= [4]) (gc 4 (some 30) rfl rfl (Un v _) ?_ gn)
   rintro e Yu1 ⟨rfl,hYu1⟩
   have hqu1:=Sy.on hS5 hYu1
   refine⟨_,rfl,⟨hqu1.hold 1 rfl,hqu1.hold 2 rfl⟩, ?_⟩
   simp only[nn]
   refine gr (rs:= [5]) (gc 5 (some 31) rfl rfl (hb0▸ZdD h0 j q k (Eu v) _ (hqu1.hp 0 rfl) (hL0.wf K) (hL0.few F) hj0 (hT.fr hqu1.fr H.low) hk hg (Zb3 hv)) ?_ gn)
   rintro e Yu2 ⟨h1,y,er,rfl,hD,T2⟩
   have hqd:=Sy.heap hqu1 0 rfl T2
   have hb1:h1.b=h.b:=T2.hb.trans hb0
   clear T2
   refine⟨_,rfl,⟨hqd.hold 1 rfl,hqd.hold 2 rfl⟩, ?_⟩
   refine gp 6 (some 32) (.bool y) rfl rfl (⟨hqd.hold 1 rfl,hqd.hold 2 rfl⟩) ?_
   refine gp 7 (some 33) (er) rfl rfl (⟨hqd.hold 1 rfl,hqd.hold 2 rfl⟩) ?_
   refine gp 8 (some 8) (.bool y) rfl rfl (⟨hqd.hold 1 rfl,hqd.hold 2 rfl⟩) ?_
   refine gp 9 (some 9) (er) rfl rfl (⟨hqd.hold 1 rfl,hqd.hold 2 rfl⟩) ?_
   refine wpAnyH_done (by kernel_rfl) ?_ _
   try simp only[nn]
   have SS:=Ab hqd
   go_wp2
   go_ret2
   refine⟨h1,y,er,rfl, ?_,HP.To.end H (Aa SS) hb1⟩
   rcases hD.1 with ⟨rfl,hL,hE⟩|⟨rfl,rfl,hB,T',hL,hla,hpr⟩
   ·exact .inl ⟨rfl,hL0.trans hL,hE⟩
   ·exact .inr ⟨rfl,rfl,Eu v,T', .inl ⟨rfl,hfi⟩,hB,ZdU hL0 hL,hla,hpr⟩
  ·rcases hE0.1 with rfl|rfl|rfl
   ·exact absurd rfl hne
   ·unfold Bs
    go_wp2_with (first|go_skip|((with_reducible show wpList ..);first|(refine zA 39 (Ak.cs) (by rfl) rfl SS ?_;clear SS;intro Xc Bc SS;simp only[nn])|(refine zS (V.cs) 3 39 (by rfl) rfl rfl rfl rfl (Ek _) szD SS rfl ?_;clear SS;intro Xz SS;simp only[nn])|(refine rd rfl (Va rfl rfl rfl) ?_)))
    go_ret2
    exact⟨h0,false,Bs 1,rfl, .inl ⟨rfl,hL0, .inr (.inl rfl)⟩,HP.To.end H (Aa SS) hb0⟩
   ·unfold Bs
    go_wp2_with (first|go_skip|((with_reducible show wpList ..);first|(refine zA 39 (Ak.cs) (by rfl) rfl SS ?_;clear SS;intro Xc Bc SS;simp only[nn])|(refine zS (V.cs) 3 39 (by rfl) rfl rfl rfl rfl (Ek _) szD SS rfl ?_;clear SS;intro Xz SS;simp only[nn])|(refine rd rfl (Va rfl rfl rfl) ?_)))
    go_ret2
    exact⟨h0,false,Bs 2,rfl, .inl ⟨rfl,hL0, .inr (.inr rfl)⟩,HP.To.end H (Aa SS) hb0⟩
 |some r0=>
  have SS:=Ab H.start
  rw[Ds,Db]
  go_enter func170,ntmps170
  go_wp2_with (first|go_skip|((with_reducible show wpList ..);first|(refine zB 48 (k.cs) (by rfl) rfl rfl rfl SS ?_;clear SS;intro Xa Ba SS;simp only[nn])|(refine zB 36 (v.cs) (by rfl) rfl rfl rfl SS ?_;clear SS;intro Xb Bb SS;simp only[nn])|(refine zL (k.cs) 48 2 1 rwK szK (by rfl) rfl rfl SS rfl rfl rfl ?_;simp only[nn])))
  refine(Zdh h j q k _ ((Aa SS).hp 0 rfl) K.ok hj hk).mono ?_
  rintro _ Y1 ⟨h0,V,y0,er0,rfl,⟨hL0,hE0,hV⟩,T1⟩
  replace SS:=Ab ((Aa SS).heap 0 rfl T1)
  have hb0:h0.b=h.b:=T1.hb
  have hj0:h0.l[j]? =some q:=by rw[hL0.l];exact hj
  clear T1
  rw[Mw]
  rcases hV with ⟨rfl,rfl,rfl⟩|⟨hne,rfl⟩
  ·by_cases hga:(getD q.T k).g.k=0
   ·by_cases hwr:(getD q.T k).w=1
    ·rw[hfi]
     go_wp2_with (first|go_skip|((with_reducible show wpList ..);first|(refine zA 39 (Ak.cs) (by rfl) rfl SS ?_;clear SS;intro Xc Bc SS;simp only[nn])|(refine zS ((getD q.T k).cs) 3 39 (by rfl) rfl rfl rfl rfl (Ek _) szD SS rfl ?_;clear SS;intro Xz SS;simp only[nn])|(refine zL ((getD q.T k).cs) 39 18 3 rwD szD (by rfl) rfl rfl SS rfl rfl rfl ?_;simp only[nn])))
     refine(Js (getD q.T k) _).mono ?_
     rintro _ Y2 ⟨rfl,hb2⟩
     replace SS:=Ab ((Aa SS).on hb2)
     clear hb2
     rw[show ((getD q.T k).g.k !=0)=false by simp[hga]]
     go_wp2_with (first|go_skip|((with_reducible show wpList ..);first|(refine rd rfl (Ad 37 isAgg37 rfl rfl ((Aa SS).hold 3 rfl) rfl) ?_)|(refine rd rfl (ZbU rfl rfl rfl hwr) ?_)))
     go_ret2
     exact⟨h0,false, .nilIface,rfl, .inl ⟨rfl,hL0, .inl rfl⟩,HP.To.end H (Aa SS) hb0⟩
    ·rw[hfi]
     go_wp2_with (first|go_skip|((with_reducible show wpList ..);first|(refine zA 39 (Ak.cs) (by rfl) rfl SS ?_;clear SS;intro Xc Bc SS;simp only[nn])|(refine zS ((getD q.T k).cs) 3 39 (by rfl) rfl rfl rfl rfl (Ek _) szD SS rfl ?_;clear SS;intro Xz SS;simp only[nn])|(refine zL ((getD q.T k).cs) 39 18 3 rwD szD (by rfl) rfl rfl SS rfl rfl rfl ?_;simp only[nn])))
     refine(Js (getD q.T k) _).mono ?_
     rintro _ Y2 ⟨rfl,hb2⟩
     replace SS:=Ab ((Aa SS).on hb2)
     clear hb2
     rw[show ((getD q.T k).g.k !=0)=false by simp[hga]]
     go_wp2_with (first|go_skip|((with_reducible show wpList ..);first|(refine rd rfl (Ad 37 isAgg37 rfl rfl ((Aa SS).hold 3 rfl) rfl) ?_)|(refine rd rfl (Ou rfl rfl rfl hwr) ?_)|(refine zL (k.cs) 48 2 1 rwK szK (by rfl) rfl rfl SS rfl rfl rfl ?_;simp only[nn])|(refine zL (v.cs) 36 5 2 rwV szV (by rfl) rfl rfl SS rfl rfl rfl ?_;simp only[nn])|(refine rd rfl (ex_valD v rfl rfl) ?_)))
     have HC:=ZdD h0 j q k (Zez v) _ ((Aa SS).hp 0 rfl) (hL0.wf K) (hL0.few F) hj0 (hT.fr (Aa SS).fr H.low) hk hg (FD_val hv)
     rw[hb0,Ds,Mw] at HC
     refine HC.mono ?_
     rintro _ Y3 ⟨h1,y,er,rfl,hD,T2⟩
     replace SS:=Ab ((Aa SS).heap 0 rfl T2)
     have hb1:h1.b=h.b:=T2.hb.trans hb0
     clear T2 HC
     go_wp2
     go_ret2
     refine⟨h1,y,er,rfl, ?_,HP.To.end H (Aa SS) hb1⟩
     rcases hD.1 with ⟨rfl,hL,hE⟩|⟨rfl,rfl,hB,T',hL,hla,hpr⟩
     ·exact .inl ⟨rfl,hL0.trans hL,hE⟩
     ·exact .inr ⟨rfl,rfl,Zez v,T', .inr ⟨rfl,by rw[hfi];rfl,hga,hwr⟩,hB,ZdU hL0 hL,hla,hpr⟩
   ·rw[hfi]
    go_wp2_with (first|go_skip|((with_reducible show wpList ..);first|(refine zA 39 (Ak.cs) (by rfl) rfl SS ?_;clear SS;intro Xc Bc SS;simp only[nn])|(refine zS ((getD q.T k).cs) 3 39 (by rfl) rfl rfl rfl rfl (Ek _) szD SS rfl ?_;clear SS;intro Xz SS;simp only[nn])|(refine zL ((getD q.T k).cs) 39 18 3 rwD szD (by rfl) rfl rfl SS rfl rfl rfl ?_;simp only[nn])))
    refine(Js (getD q.T k) _).mono ?_
    rintro _ Y2 ⟨rfl,hb2⟩
    replace SS:=Ab ((Aa SS).on hb2)
    clear hb2
    rw[show ((getD q.T k).g.k !=0)=true by simp[hga]]
    go_wp2_with fail
    go_ret2
    exact⟨h0,false, .nilIface,rfl, .inl ⟨rfl,hL0, .inl rfl⟩,HP.To.end H (Aa SS) hb0⟩
  ·rcases hE0.1 with rfl|rfl|rfl
   ·exact absurd rfl hne
   ·unfold Bs
    go_wp2_with (first|go_skip|((with_reducible show wpList ..);first|(refine zA 39 (Ak.cs) (by rfl) rfl SS ?_;clear SS;intro Xc Bc SS;simp only[nn])|(refine zS (V.cs) 3 39 (by rfl) rfl rfl rfl rfl (Ek _) szD SS rfl ?_;clear SS;intro Xz SS;simp only[nn])|(refine rd rfl (Va rfl rfl rfl) ?_)))
    go_ret2
    exact⟨h0,false,Bs 1,rfl, .inl ⟨rfl,hL0, .inr (.inl rfl)⟩,HP.To.end H (Aa SS) hb0⟩
   ·unfold Bs
    go_wp2_with (first|go_skip|((with_reducible show wpList ..);first|(refine zA 39 (Ak.cs) (by rfl) rfl SS ?_;clear SS;intro Xc Bc SS;simp only[nn])|(refine zS (V.cs) 3 39 (by rfl) rfl rfl rfl rfl (Ek _) szD SS rfl ?_;clear SS;intro Xz SS;simp only[nn])|(refine rd rfl (Va rfl rfl rfl) ?_)))
    go_ret2
    exact⟨h0,false,Bs 2,rfl, .inl ⟨rfl,hL0, .inr (.inr rfl)⟩,HP.To.end H (Aa SS) hb0⟩
