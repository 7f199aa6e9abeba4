import Derived.Test.YthcmamjpfigdfaaGreatDoorRg
set_option linter.all false
namespace Go.Proofs.YthcmamjpfigdfaaGreatDoor
set_option maxRecDepth 100000
set_option maxHeartbeats 0
section
open Go Go.Proofs Go.Maps Go.RowKit FM Tryz
attribute [local go_sem] Al Ak Ar Ah Am Ai Au Dd Db Bi Aj Bh
def HP.Few (h:HP) (N:Nat):Prop:= ∀(j:Nat) (q:OB),h.l[j]? =some q->q.T.last<=N
theorem Low.few {h h1:HP} {N:Nat} (L:Low h h1) (F:h.Few N):h1.Few N:=fun j q hj=>F j q (by rw[←L.l];exact hj)
theorem zero_FD:FD zeroD:=by unfold FD zeroD Aq;decide
theorem get_FD {h:HP} (K:h.Wf) {j:Nat} {q:OB} (hj:h.l[j]? =some q) (k:KK):FD (getD q.T k):=by
 cases hf:q.T.find k with
 |none=>
  unfold getD
  rw[hf]
  exact zero_FD
 |some r=>exact(Zcu K hj hf).1
theorem Zee (h:HP) (j:Nat) (q:OB) (k:KK) (w:World) (H:h.Is w) (K:h.Ok) (hj:h.l[j]? =some q) (hk:OkK k):Calls prog 122 #[.pointer (some ⟨h.b,0,none⟩), .int .i64 ((j:Int)+1),k.agg] w fun e w'=> ∃(h1:HP) (V:DD) (y:Bool) (er:Value),e= .returned (.tuple #[V.agg, .bool y,er])/\(Low h h1/\Ja h h1 er/\((er= .nilIface/\V=getD q.T k/\y=(q.T.find k).isSome)∨(er≠ .nilIface/\y=false)))/\h.To h1 w w':=by
 by_cases h0:h.fuel=0
 ·refine(Ul h j k w H h0).mono ?_
  rintro _ Y ⟨rfl,T⟩
  exact⟨h,zeroD,false,Ax 1,rfl,⟨Low.refl K,⟨.inr (.inl rfl),fun _=>⟨rfl,rfl⟩,fun h1=>absurd h0 h1⟩, .inr ⟨by simp[Ax],rfl⟩⟩,T⟩
 by_cases hd:h.ent=h.depth
 ·refine(Uk h j k w H K h0 hd).mono ?_
  rintro _ Y ⟨rfl,T⟩
  exact⟨h.less,zeroD,false,Ax 2,rfl,⟨Ea K h0,⟨.inr (.inr rfl),fun h1=>absurd h1 h0,fun _=>by show h.fuel - 1<h.fuel;omega⟩, .inr ⟨by simp[Ax],rfl⟩⟩,T⟩
 ·refine(Uj h j q k (fun h1 V y er=>h1=h.inn/\er= .nilIface/\V=getD q.T k/\y=(q.T.find k).isSome) w H K hj h0 hd (fun X TX=> ?_)).mono ?_
  ·refine(Ze9 h.inn j q k X TX.is K.len hj hk).mono ?_
   rintro e Y ⟨rfl,hb⟩
   exact⟨h.inn,_,_,_,rfl,⟨rfl,rfl,rfl,rfl⟩,rfl,HP.To.refl TX.is hb⟩
  ·rintro e Y ⟨h1,V,y,er,rfl,⟨rfl,rfl,rfl,rfl⟩,T⟩
   rw[Mz] at T
   exact⟨h.less,_,_,_,rfl,⟨Ea K h0,⟨.inl rfl,fun h1=>absurd h1 h0,fun _=>by show h.fuel - 1<h.fuel;omega⟩, .inl ⟨rfl,rfl,rfl⟩⟩,T⟩
def DefE (h:HP) (j:Nat) (q:OB) (k:KK) (d:DD) (h1:HP) (y:Bool) (er:Value):Prop:=(y=false/\Low h h1/\Er er)∨(y=true/\er= .nilIface/\Pi q.x (getD q.T k) d=true/\ ∃T':TT,Low (h.tab j q T') h1/\T'.last<=q.T.last+1/\pr T'=Oj (pr q.T) k (Ej q.x (getD q.T k) d))
theorem ZeG (h:HP) (j:Nat) (q:OB) (k:KK) (d:DD) (w:World) (H:h.Is w) (K:h.Wf) (F:h.Few 90000) (hj:h.l[j]? =some q) (hT:Tabs w) (hk:OkK k) (hg:goodK k=true) (hFd:FD d):Calls prog 42 #[.pointer (some ⟨h.b,0,none⟩), .int .i64 ((j:Int)+1),k.agg,d.agg] w fun e w'=> ∃(h1:HP) (y:Bool) (er:Value),e= .returned (.tuple #[.bool y,er])/\(DefE h j q k d h1 y er/\Ja h h1 er)/\h.To h1 w w':=by
 by_cases h0:h.fuel=0
 ·refine(Pg h j k d w H h0).mono ?_
  rintro _ Y ⟨rfl,T⟩
  exact⟨h,false,Ax 1,rfl,⟨.inl ⟨rfl,Low.refl K.ok, .inr (.inl rfl)⟩, .inr (.inl rfl),fun _=>⟨rfl,rfl⟩,fun h1=>absurd h0 h1⟩,T⟩
 by_cases hd:h.ent=h.depth
 ·refine(Pf h j k d w H K.ok h0 hd).mono ?_
  rintro _ Y ⟨rfl,T⟩
  exact⟨h.less,false,Ax 2,rfl,⟨.inl ⟨rfl,Ea K.ok h0, .inr (.inr rfl)⟩, .inr (.inr rfl),fun h1=>absurd h1 h0,fun _=>by show h.fuel - 1<h.fuel;omega⟩,T⟩
 ·refine(Pe h j q k d (fun h1 y er=>er= .nilIface/\DefP h.inn j q k d h1 y) w H K.ok hj h0 hd (fun X TX=> ?_)).mono ?_
  ·refine(Zeh h.inn j q k d X TX.is K.ok.len hj (TX.tabs H hT) hk hg (get_FD K hj k) hFd (by have:=F j q hj;omega)).mono ?_
   rintro e Y ⟨h1,y,rfl,hP,T⟩
   refine⟨h1,y, .nilIface,rfl,⟨rfl,hP⟩, ?_,T⟩
   rcases hP.2 with ⟨-,rfl⟩|⟨-,T',rfl, -⟩<;>rfl
  ·rintro e Y ⟨h1,y,er,rfl,⟨rfl,hP⟩,T⟩
   have hp:=K.ok.f0
   rcases hP with ⟨hy,⟨rfl,rfl⟩|⟨rfl,T',rfl,hl,hpr⟩⟩
   ·rw[Mz] at T
    exact⟨h.less,false, .nilIface,rfl,⟨.inl ⟨rfl,Ea K.ok h0, .inl rfl⟩, .inl rfl,fun h1=>absurd h1 h0,fun _=>by show h.fuel - 1<h.fuel;omega⟩,T⟩
   ·refine⟨(h.inn.tab j q T').out,true, .nilIface,rfl,⟨.inr ⟨rfl,rfl,hy.symm,T',⟨?_,by show h.fuel - 1<=h.fuel;omega,by show 0<=h.fuel - 1;omega⟩,hl,hpr⟩, .inl rfl,fun h1=>absurd h1 h0,fun _=>by show h.fuel - 1<h.fuel;omega⟩,T⟩
    unfold HP.out HP.tab HP.inn
    simp
def ZfN (v:VV):DD:=⟨v,Aq,Aq,0,0,0⟩
theorem ex_valD {o:Oper} {a:Act} {w:World} {x:Operand} (v:VV) (ho:o.op= .build 43 #[(0,x)]) (hx:a.eval x= .agg v.cs.toArray):(execOp a.eval o).run prog w= .ok (.value (.agg (ZfN v).cs.toArray)) w:=by
 have e:(Instr.build 43 #[(0, .agg v.cs.toArray)]).run prog w= .ok (.agg (ZfN v).cs.toArray) w:=by kernel_rfl
 unfold execOp
 simp only[ho,List.map_toArray,List.map_cons,List.map_nil,hx]
 simp[e]
theorem Zs {o:Oper} {a:Act} {w:World} {x y:Operand} {c:Int} (ho:o.op= .binOp .neq 66 x y 66) (hx:a.eval x= .iface 31 (.int .i64 c)) (hc:a.eval y= .nilIface):(execOp a.eval o).run prog w= .ok (.value (.bool true)) w:=by
 unfold execOp
 simp only[ho,hx,hc]
 simp[go_sem,eqGuard]
def WriP (h:HP) (j:Nat) (q:OB) (k:KK) (v:VV) (h1:HP) (y:Bool) (er:Value):Prop:=(y=false/\Low h h1/\Er er)∨(y=true/\er= .nilIface/\ ∃(d:DD) (T':TT),((d=La v/\q.T.find k=none)∨(d=ZfN v/\(q.T.find k).isSome=true/\(getD q.T k).g.k=0/\(getD q.T k).w≠1))/\Pi q.x (getD q.T k) d=true/\Low (h.tab j q T') h1/\T'.last<=q.T.last+1/\pr T'=Oj (pr q.T) k (Ej q.x (getD q.T k) d))
theorem ZeY {h h0 h1:HP} {j:Nat} {q:OB} {T':TT} (A:Low h h0) (B:Low (h0.tab j q T') h1):Low (h.tab j q T') h1:=by
 refine Low.trans (h1:=h0.tab j q T') ⟨?_,A.le,A.ge⟩ B
 have e:=A.eq
 have:(h0.tab j q T').fuel=h0.fuel:=rfl
 rw[this]
 generalize h0.fuel=g at *
 subst e
 rfl
theorem ZfG {v:VV} (h:v.x<2^64):FD (La v):=⟨h,show 0<2^64 by decide,show 0<2^64 by decide⟩
theorem FD_val {v:VV} (h:v.x<2^64):FD (ZfN v):=⟨h,show 0<2^64 by decide,show 0<2^64 by decide⟩
theorem ZeW (h:HP) (j:Nat) (q:OB) (k:KK) (v:VV) (w:World) (H:h.Is w) (K:h.Wf) (F:h.Few 90000) (hj:h.l[j]? =some q) (hT:Tabs w) (hk:OkK k) (hg:goodK k=true) (hv:v.x<2^64):Calls prog 217 #[.pointer (some ⟨h.b,0,none⟩), .int .i64 ((j:Int)+1),k.agg,v.agg] w fun e w'=> ∃(h1:HP) (y:Bool) (er:Value),e= .returned (.tuple #[.bool y,er])/\WriP h j q k v h1 y er/\h.To h1 w w':=by
 cases hfi:q.T.find k with
 |none=>
  have SS:=Ab H.start
  rw[Du,Dg]
  go_enter func217,ntmps217
  go_wp2_with (first|go_skip|((with_reducible show wpList ..);first|(refine zB 37 (k.cs) rfl rfl rfl SS ?_;clear SS;intro Xa Ba SS;simp only[nn])|(refine zB 40 (v.cs) rfl rfl rfl SS ?_;clear SS;intro Xb Bb SS;simp only[nn])|(refine zL (k.cs) 37 2 1 rwK szK rfl rfl SS rfl rfl rfl ?_;simp only[nn])))
  refine(Zee h j q k _ ((Aa SS).hp 0 rfl) K.ok hj hk).mono ?_
  rintro _ Y1 ⟨h0,V,y0,er0,rfl,⟨hL0,hE0,hV⟩,T1⟩
  replace SS:=Ab ((Aa SS).heap 0 rfl T1)
  have hb0:h0.b=h.b:=T1.hb
  have hj0:h0.l[j]? =some q:=by rw[hL0.l];exact hj
  clear T1
  rw[Qj]
  rcases hV with ⟨rfl,rfl,rfl⟩|⟨hne,rfl⟩
  ·rw[hfi]
   go_wp2_with (first|go_skip|((with_reducible show wpList ..);first|(refine zA 43 (zeroD.cs) rfl SS ?_;clear SS;intro Xc Bc SS;simp only[nn])|(refine zS ((getD q.T k).cs) 3 43 rfl rfl rfl rfl (Ez _) szD SS rfl ?_;clear SS;intro Xz SS;simp only[nn])))
   have hS5:Sy w _ h.blocks [hpO h0,Av Ba k.cs,Av Bb v.cs,Av Bc (Bt zeroD.cs 0 (getD q.T k).cs)]:=(Aa SS).drew
   clear SS
   refine wp_region_held_drew (P:=prog) (S:=fun X=>Holds X Ba k.cs/\Holds X Bb v.cs) (by kernel_rfl) (⟨hS5.hold 1 rfl,hS5.hold 2 rfl⟩) (fun hS0=> ?_)
   refine gp 0 (some 26) (.pointer (some ⟨h.b,0,none⟩)) rfl rfl (⟨hS5.hold 1 rfl,hS5.hold 2 rfl⟩) ?_
   refine gp 1 (some 27) (.int .i64 ((j:Int)+1)) rfl rfl (⟨hS5.hold 1 rfl,hS5.hold 2 rfl⟩) ?_
   refine gq 2 (some 28) (.agg k.cs.toArray) rfl rfl (fun X hX=>Af (vs:=k.cs) 37 2 rwK szK rfl rfl hX.1 rfl rfl) (⟨hS5.hold 1 rfl,hS5.hold 2 rfl⟩) ?_
   refine gq 3 (some 29) (.agg v.cs.toArray) rfl rfl (fun X hX=>Af (vs:=v.cs) 40 5 rwV szV rfl rfl hX.2 rfl rfl) (⟨hS5.hold 1 rfl,hS5.hold 2 rfl⟩) ?_
   refine gr (rs:= [4]) (gc 4 (some 30) rfl rfl (Zas v _) ?_ gn)
   rintro e Yu1 ⟨rfl,hYu1⟩
   have hqu1:=Sy.on hS5 hYu1
   refine⟨_,rfl,⟨hqu1.hold 1 rfl,hqu1.hold 2 rfl⟩, ?_⟩
   simp only[nn]
   refine gr (rs:= [5]) (gc 5 (some 31) rfl rfl (hb0▸ZeG h0 j q k (La v) _ (hqu1.hp 0 rfl) (hL0.wf K) (hL0.few F) hj0 (hT.fr hqu1.fr H.low) hk hg (ZfG hv)) ?_ gn)
   rintro e Yu2 ⟨h1,y,er,rfl,hD,T2⟩
   have hqd:=Sy.heap hqu1 0 rfl T2
   have hb1:h1.b=h.b:=T2.hb.trans hb0
   clear T2
   refine⟨_,rfl,⟨hqd.hold 1 rfl,hqd.hold 2 rfl⟩, ?_⟩
   refine gp 6 (some 32) (.bool y) rfl rfl (⟨hqd.hold 1 rfl,hqd.hold 2 rfl⟩) ?_
   refine gp 7 (some 33) (er) rfl rfl (⟨hqd.hold 1 rfl,hqd.hold 2 rfl⟩) ?_
   refine gp 8 (some 8) (.bool y) rfl rfl (⟨hqd.hold 1 rfl,hqd.hold 2 rfl⟩) ?_
   refine gp 9 (some 9) (er) rfl rfl (⟨hqd.hold 1 rfl,hqd.hold 2 rfl⟩) ?_
   refine dn ?_
   try simp only[nn]
   have SS:=Ab hqd
   go_wp2
   go_ret2
   refine⟨h1,y,er,rfl, ?_,HP.To.end H (Aa SS) hb1⟩
   rcases hD.1 with ⟨rfl,hL,hE⟩|⟨rfl,rfl,hB,T',hL,hla,hpr⟩
   ·exact .inl ⟨rfl,hL0.trans hL,hE⟩
   ·exact .inr ⟨rfl,rfl,La v,T', .inl ⟨rfl,hfi⟩,hB,ZeY hL0 hL,hla,hpr⟩
  ·rcases hE0.1 with rfl|rfl|rfl
   ·exact absurd rfl hne
   ·unfold Ax
    go_wp2_with (first|go_skip|((with_reducible show wpList ..);first|(refine zA 43 (zeroD.cs) rfl SS ?_;clear SS;intro Xc Bc SS;simp only[nn])|(refine zS (V.cs) 3 43 rfl rfl rfl rfl (Ez _) szD SS rfl ?_;clear SS;intro Xz SS;simp only[nn])|(refine rd rfl (Zs rfl rfl rfl) ?_)))
    go_ret2
    exact⟨h0,false,Ax 1,rfl, .inl ⟨rfl,hL0, .inr (.inl rfl)⟩,HP.To.end H (Aa SS) hb0⟩
   ·unfold Ax
    go_wp2_with (first|go_skip|((with_reducible show wpList ..);first|(refine zA 43 (zeroD.cs) rfl SS ?_;clear SS;intro Xc Bc SS;simp only[nn])|(refine zS (V.cs) 3 43 rfl rfl rfl rfl (Ez _) szD SS rfl ?_;clear SS;intro Xz SS;simp only[nn])|(refine rd rfl (Zs rfl rfl rfl) ?_)))
    go_ret2
    exact⟨h0,false,Ax 2,rfl, .inl ⟨rfl,hL0, .inr (.inr rfl)⟩,HP.To.end H (Aa SS) hb0⟩
 |some r0=>
  have SS:=Ab H.start
  rw[Du,Dg]
  go_enter func217,ntmps217
  go_wp2_with (first|go_skip|((with_reducible show wpList ..);first|(refine zB 37 (k.cs) rfl rfl rfl SS ?_;clear SS;intro Xa Ba SS;simp only[nn])|(refine zB 40 (v.cs) rfl rfl rfl SS ?_;clear SS;intro Xb Bb SS;simp only[nn])|(refine zL (k.cs) 37 2 1 rwK szK rfl rfl SS rfl rfl rfl ?_;simp only[nn])))
  refine(Zee h j q k _ ((Aa SS).hp 0 rfl) K.ok hj hk).mono ?_
  rintro _ Y1 ⟨h0,V,y0,er0,rfl,⟨hL0,hE0,hV⟩,T1⟩
  replace SS:=Ab ((Aa SS).heap 0 rfl T1)
  have hb0:h0.b=h.b:=T1.hb
  have hj0:h0.l[j]? =some q:=by rw[hL0.l];exact hj
  clear T1
  rw[Qj]
  rcases hV with ⟨rfl,rfl,rfl⟩|⟨hne,rfl⟩
  ·by_cases hga:(getD q.T k).g.k=0
   ·by_cases hwr:(getD q.T k).w=1
    ·rw[hfi]
     go_wp2_with (first|go_skip|((with_reducible show wpList ..);first|(refine zA 43 (zeroD.cs) rfl SS ?_;clear SS;intro Xc Bc SS;simp only[nn])|(refine zS ((getD q.T k).cs) 3 43 rfl rfl rfl rfl (Ez _) szD SS rfl ?_;clear SS;intro Xz SS;simp only[nn])|(refine zL ((getD q.T k).cs) 43 18 3 rwD szD rfl rfl SS rfl rfl rfl ?_;simp only[nn])))
     refine(Kw (getD q.T k) _).mono ?_
     rintro _ Y2 ⟨rfl,hb2⟩
     replace SS:=Ab ((Aa SS).on hb2)
     clear hb2
     rw[show ((getD q.T k).g.k !=0)=false by simp[hga]]
     go_wp2_with (first|go_skip|((with_reducible show wpList ..);first|(refine rd rfl (Ad 41 isAgg41 rfl rfl ((Aa SS).hold 3 rfl) rfl) ?_)|(refine rd rfl (ZcC rfl rfl rfl hwr) ?_)))
     go_ret2
     exact⟨h0,false, .nilIface,rfl, .inl ⟨rfl,hL0, .inl rfl⟩,HP.To.end H (Aa SS) hb0⟩
    ·rw[hfi]
     go_wp2_with (first|go_skip|((with_reducible show wpList ..);first|(refine zA 43 (zeroD.cs) rfl SS ?_;clear SS;intro Xc Bc SS;simp only[nn])|(refine zS ((getD q.T k).cs) 3 43 rfl rfl rfl rfl (Ez _) szD SS rfl ?_;clear SS;intro Xz SS;simp only[nn])|(refine zL ((getD q.T k).cs) 43 18 3 rwD szD rfl rfl SS rfl rfl rfl ?_;simp only[nn])))
     refine(Kw (getD q.T k) _).mono ?_
     rintro _ Y2 ⟨rfl,hb2⟩
     replace SS:=Ab ((Aa SS).on hb2)
     clear hb2
     rw[show ((getD q.T k).g.k !=0)=false by simp[hga]]
     go_wp2_with (first|go_skip|((with_reducible show wpList ..);first|(refine rd rfl (Ad 41 isAgg41 rfl rfl ((Aa SS).hold 3 rfl) rfl) ?_)|(refine rd rfl (Rf rfl rfl rfl hwr) ?_)|(refine zL (k.cs) 37 2 1 rwK szK rfl rfl SS rfl rfl rfl ?_;simp only[nn])|(refine zL (v.cs) 40 5 2 rwV szV rfl rfl SS rfl rfl rfl ?_;simp only[nn])|(refine rd rfl (ex_valD v rfl rfl) ?_)))
     have HC:=ZeG h0 j q k (ZfN v) _ ((Aa SS).hp 0 rfl) (hL0.wf K) (hL0.few F) hj0 (hT.fr (Aa SS).fr H.low) hk hg (FD_val hv)
     rw[hb0,Du,Qj] at HC
     refine HC.mono ?_
     rintro _ Y3 ⟨h1,y,er,rfl,hD,T2⟩
     replace SS:=Ab ((Aa SS).heap 0 rfl T2)
     have hb1:h1.b=h.b:=T2.hb.trans hb0
     clear T2 HC
     go_wp2
     go_ret2
     refine⟨h1,y,er,rfl, ?_,HP.To.end H (Aa SS) hb1⟩
     rcases hD.1 with ⟨rfl,hL,hE⟩|⟨rfl,rfl,hB,T',hL,hla,hpr⟩
     ·exact .inl ⟨rfl,hL0.trans hL,hE⟩
     ·exact .inr ⟨rfl,rfl,ZfN v,T', .inr ⟨rfl,by rw[hfi];rfl,hga,hwr⟩,hB,ZeY hL0 hL,hla,hpr⟩
   ·rw[hfi]
    go_wp2_with (first|go_skip|((with_reducible show wpList ..);first|(refine zA 43 (zeroD.cs) rfl SS ?_;clear SS;intro Xc Bc SS;simp only[nn])|(refine zS ((getD q.T k).cs) 3 43 rfl rfl rfl rfl (Ez _) szD SS rfl ?_;clear SS;intro Xz SS;simp only[nn])|(refine zL ((getD q.T k).cs) 43 18 3 rwD szD rfl rfl SS rfl rfl rfl ?_;simp only[nn])))
    refine(Kw (getD q.T k) _).mono ?_
    rintro _ Y2 ⟨rfl,hb2⟩
    replace SS:=Ab ((Aa SS).on hb2)
    clear hb2
    rw[show ((getD q.T k).g.k !=0)=true by simp[hga]]
    go_wp2_with fail
    go_ret2
    exact⟨h0,false, .nilIface,rfl, .inl ⟨rfl,hL0, .inl rfl⟩,HP.To.end H (Aa SS) hb0⟩
  ·rcases hE0.1 with rfl|rfl|rfl
   ·exact absurd rfl hne
   ·unfold Ax
    go_wp2_with (first|go_skip|((with_reducible show wpList ..);first|(refine zA 43 (zeroD.cs) rfl SS ?_;clear SS;intro Xc Bc SS;simp only[nn])|(refine zS (V.cs) 3 43 rfl rfl rfl rfl (Ez _) szD SS rfl ?_;clear SS;intro Xz SS;simp only[nn])|(refine rd rfl (Zs rfl rfl rfl) ?_)))
    go_ret2
    exact⟨h0,false,Ax 1,rfl, .inl ⟨rfl,hL0, .inr (.inl rfl)⟩,HP.To.end H (Aa SS) hb0⟩
   ·unfold Ax
    go_wp2_with (first|go_skip|((with_reducible show wpList ..);first|(refine zA 43 (zeroD.cs) rfl SS ?_;clear SS;intro Xc Bc SS;simp only[nn])|(refine zS (V.cs) 3 43 rfl rfl rfl rfl (Ez _) szD SS rfl ?_;clear SS;intro Xz SS;simp only[nn])|(refine rd rfl (Zs rfl rfl rfl) ?_)))
    go_ret2
    exact⟨h0,false,Ax 2,rfl, .inl ⟨rfl,hL0, .inr (.inr rfl)⟩,HP.To.end H (Aa SS) hb0⟩
theorem ZdR (h:HP) (t v r:VV) (w:World) (ht:t.k≠7):Calls prog 216 #[.pointer (some ⟨h.b,0,none⟩),t.agg,v.agg,r.agg] w fun e w'=>e= .returned (.tuple #[.bool false, .nilIface])/\Below w.heap.size w w':=by
 have SS:=Ab (Sy.nil w [])
 rw[Dg,Dg,Dg]
 go_enter func216,ntmps216
 go_wp2_with (first|go_skip|((with_reducible show wpList ..);first|(refine zB 40 (t.cs) rfl rfl rfl SS ?_;clear SS;intro Xa Ba SS;simp only[nn])|(refine zB 40 (v.cs) rfl rfl rfl SS ?_;clear SS;intro Xb Bb SS;simp only[nn])|(refine zB 40 (r.cs) rfl rfl rfl SS ?_;clear SS;intro Xc Bc SS;simp only[nn])|(refine rd rfl (Ad 3 isAgg3 rfl rfl ((Aa SS).hold 0 rfl) rfl) ?_)|(refine rd rfl (Mn rfl rfl rfl ht) ?_)))
 go_ret2
 exact⟨rfl,(Aa SS).fr.below⟩
def SetP (h:HP) (r:VV) (k:KK) (v:VV) (h1:HP) (y:Bool) (er:Value):Prop:=(y=false/\Low h h1/\Er er)∨(∃(i:Nat) (qr:OB),r.k=7/\r.i=(i:Int)+1/\h.l[i]? =some qr/\WriP h i qr k v h1 y er)
def SetC (n:Int):Prop:= ∀(h:HP) (j:Nat) (q:OB) (k:KK) (v r:VV) (w:World),h.fuel<=n->h.Is w->h.Wf->h.Few 90000->h.l[j]? =some q->Tabs w->OkK k->goodK k=true->v.x<2^64->(r.k=7->1<=r.i/\r.i<=(h.l.length:Int))->Calls prog 45 #[.pointer (some ⟨h.b,0,none⟩), .int .i64 ((j:Int)+1),k.agg,v.agg,r.agg] w fun e w'=> ∃(h1:HP) (y:Bool) (er:Value),e= .returned (.tuple #[.bool y,er])/\(SetP h r k v h1 y er/\Ja h h1 er)/\h.To h1 w w'
theorem WriP.er {h:HP} {j:Nat} {q:OB} {k:KK} {v:VV} {h1:HP} {y:Bool} {er:Value} (h0:WriP h j q k v h1 y er):Er er:=by
 rcases h0 with ⟨-, -,h⟩|⟨-,h, -⟩
 ·exact h
 ·exact .inl h
theorem WriP.ent {h:HP} {j:Nat} {q:OB} {k:KK} {v:VV} {h1:HP} {y:Bool} {er:Value} (h0:WriP h j q k v h1 y er):h1.ent=h.ent/\h1.fuel<=h.fuel:=by
 rcases h0 with ⟨-,h, -⟩|⟨-, -,d,T', -, -,h, -⟩
 ·exact⟨h.ent,h.le⟩
 ·exact⟨h.ent,h.le⟩
theorem SetP.er {h:HP} {r:VV} {k:KK} {v:VV} {h1:HP} {y:Bool} {er:Value} (h0:SetP h r k v h1 y er):Er er:=by
 rcases h0 with ⟨-, -,h⟩|⟨i,qr, -, -, -,h⟩
 ·exact h
 ·exact h.er
theorem SetP.ent {h:HP} {r:VV} {k:KK} {v:VV} {h1:HP} {y:Bool} {er:Value} (h0:SetP h r k v h1 y er):h1.ent=h.ent/\h1.fuel<=h.fuel:=by
 rcases h0 with ⟨-,h, -⟩|⟨i,qr, -, -, -,h⟩
 ·exact⟨h.ent,h.le⟩
 ·exact h.ent
theorem SetP.out {h:HP} {r:VV} {k:KK} {v:VV} {h1:HP} {y:Bool} {er:Value} (K:h.Ok) (hf:h.fuel≠0) (h0:SetP h.inn r k v h1 y er):SetP h r k v h1.out y er:=by
 rcases h0 with ⟨a,b,c⟩|⟨i,qr,a,b,c,h0⟩
 ·exact .inl ⟨a,(Vg K hf b).1,c⟩
 ·refine .inr ⟨i,qr,a,b,c, ?_⟩
  rcases h0 with ⟨a,b,c⟩|⟨a,b,d,T',e1,e2,e3,e4,e5⟩
  ·exact .inl ⟨a,(Vg K hf b).1,c⟩
  ·refine .inr ⟨a,b,d,T',e1,e2,(Vg (h:=h.tab i qr T') ⟨by show (h.l.set i _).length<=_;rw[List.length_set];exact K.len,K.f0,K.f1,K.e0,K.e1,K.d1⟩ hf e3).1,e4,e5⟩
theorem ord_set (h:HP) (j:Nat) (q:OB) (k:KK) (v r:VV) (n:Int) (w:World) (H:h.Is w) (K:h.Wf) (F:h.Few 90000) (hj:h.l[j]? =some q) (hT:Tabs w) (hk:OkK k) (hg:goodK k=true) (hv:v.x<2^64) (hr:r.k=7->1<=r.i/\r.i<=(h.l.length:Int)) (hI:SetC n) (hn:h.fuel<=n):Calls prog 208 #[.agg #[], .pointer (some ⟨h.b,0,none⟩), .int .i64 ((j:Int)+1),k.agg,v.agg,r.agg] w fun e w'=> ∃(h1:HP) (y:Bool) (er:Value),e= .returned (.tuple #[.bool y,er])/\SetP h r k v h1 y er/\h.To h1 w w':=by
 have hl:=K.ok.len
 cases hfi:q.T.find k with
 |some r0=>
  have hD:=(Zcu K hj hfi).2.2.2
  by_cases hga:(getD q.T k).g.k=0
  ·by_cases hwr:(getD q.T k).w=1
   ·have SS:=Ab H.start
    rw[Du,Dg,Dg]
    go_enter func208,ntmps208
    go_wp2_with (first|go_skip|((with_reducible show wpList ..);first|((refine bx0 109 rfl rfl (Aa SS) ?_);intro X0 B0 S0;replace SS:=Ab S0;clear S0;simp only[nn])|(refine zB 37 (k.cs) rfl rfl rfl SS ?_;clear SS;intro Xa Ba SS;simp only[nn])|(refine zB 40 (v.cs) rfl rfl rfl SS ?_;clear SS;intro Xe Be SS;simp only[nn])|(refine zB 40 (r.cs) rfl rfl rfl SS ?_;clear SS;intro Xg Bg SS;simp only[nn])|(refine zL (k.cs) 37 2 1 rwK szK rfl rfl SS rfl rfl rfl ?_;simp only[nn])))
    refine(Lu h j q k _ ((Aa SS).hp 0 rfl) hl hj hk).mono ?_
    rintro _ Y1 ⟨rfl,hb1⟩
    replace SS:=Ab ((Aa SS).on hb1)
    clear hb1
    rw[hfi]
    go_wp2_with (first|go_skip|((with_reducible show wpList ..);first|(refine zA 43 (zeroD.cs) rfl SS ?_;clear SS;intro Xb Bb SS;simp only[nn])|(refine zS ((getD q.T k).cs) 4 43 rfl rfl rfl rfl (Ez _) szD SS rfl ?_;clear SS;intro Xz SS;simp only[nn])))
    refine(Kv h j q _ ((Aa SS).hp 0 rfl) hj hl).mono ?_
    rintro _ _ ⟨rfl,rfl⟩
    have HO:=Ab (((Aa SS).hp 0 rfl).ob hj).1
    go_wp2_with (first|go_skip|((with_reducible show wpList ..);first|(refine rd rfl (Af (vs:=q.p.cs) 40 5 rwV szV rfl rfl (Aa HO) rfl rfl) ?_)|(refine zA 40 (Aq.cs) rfl SS ?_;clear SS;intro Xc Bc SS;simp only[nn])|(refine zS (q.p.cs) 5 40 rfl rfl rfl rfl (Gh _) szV SS rfl ?_;clear SS;intro Xy SS;simp only[nn])|(refine zL ((getD q.T k).cs) 43 18 4 rwD szD rfl rfl SS rfl rfl rfl ?_;simp only[nn])))
    refine(Kw ((getD q.T k)) _).mono ?_
    rintro _ Y4 ⟨rfl,hb1⟩
    replace SS:=Ab ((Aa SS).on hb1)
    clear hb1
    rw[show ((getD q.T k).g.k !=0)=false by simp[hga]]
    go_wp2_with (first|go_skip|((with_reducible show wpList ..);first|(refine rd rfl (Ad 41 isAgg41 rfl rfl ((Aa SS).hold 4 rfl) rfl) ?_)|(refine rd rfl (ZcC rfl rfl rfl hwr) ?_)))
    go_ret2
    exact⟨h,false, .nilIface,rfl, .inl ⟨rfl,Low.refl K.ok, .inl rfl⟩,HP.To.end H (Aa SS) rfl⟩
   ·by_cases hrk:r.k=7
    ·obtain⟨i,qr,hi,hqr⟩:=Mk (h:=h) (o:=r.i) (by unfold Ri;simp;exact hr hrk)
     have SS:=Ab H.start
     rw[Du,Dg,Dg]
     go_enter func208,ntmps208
     go_wp2_with (first|go_skip|((with_reducible show wpList ..);first|((refine bx0 109 rfl rfl (Aa SS) ?_);intro X0 B0 S0;replace SS:=Ab S0;clear S0;simp only[nn])|(refine zB 37 (k.cs) rfl rfl rfl SS ?_;clear SS;intro Xa Ba SS;simp only[nn])|(refine zB 40 (v.cs) rfl rfl rfl SS ?_;clear SS;intro Xe Be SS;simp only[nn])|(refine zB 40 (r.cs) rfl rfl rfl SS ?_;clear SS;intro Xg Bg SS;simp only[nn])|(refine zL (k.cs) 37 2 1 rwK szK rfl rfl SS rfl rfl rfl ?_;simp only[nn])))
     refine(Lu h j q k _ ((Aa SS).hp 0 rfl) hl hj hk).mono ?_
     rintro _ Y1 ⟨rfl,hb1⟩
     replace SS:=Ab ((Aa SS).on hb1)
     clear hb1
     rw[hfi]
     go_wp2_with (first|go_skip|((with_reducible show wpList ..);first|(refine zA 43 (zeroD.cs) rfl SS ?_;clear SS;intro Xb Bb SS;simp only[nn])|(refine zS ((getD q.T k).cs) 4 43 rfl rfl rfl rfl (Ez _) szD SS rfl ?_;clear SS;intro Xz SS;simp only[nn])))
     refine(Kv h j q _ ((Aa SS).hp 0 rfl) hj hl).mono ?_
     rintro _ _ ⟨rfl,rfl⟩
     have HO:=Ab (((Aa SS).hp 0 rfl).ob hj).1
     go_wp2_with (first|go_skip|((with_reducible show wpList ..);first|(refine rd rfl (Af (vs:=q.p.cs) 40 5 rwV szV rfl rfl (Aa HO) rfl rfl) ?_)|(refine zA 40 (Aq.cs) rfl SS ?_;clear SS;intro Xc Bc SS;simp only[nn])|(refine zS (q.p.cs) 5 40 rfl rfl rfl rfl (Gh _) szV SS rfl ?_;clear SS;intro Xy SS;simp only[nn])|(refine zL ((getD q.T k).cs) 43 18 4 rwD szD rfl rfl SS rfl rfl rfl ?_;simp only[nn])))
     refine(Kw ((getD q.T k)) _).mono ?_
     rintro _ Y4 ⟨rfl,hb1⟩
     replace SS:=Ab ((Aa SS).on hb1)
     clear hb1
     rw[show ((getD q.T k).g.k !=0)=false by simp[hga]]
     go_wp2_with (first|go_skip|((with_reducible show wpList ..);first|(refine rd rfl (Ad 41 isAgg41 rfl rfl ((Aa SS).hold 4 rfl) rfl) ?_)|(refine rd rfl (Rf rfl rfl rfl hwr) ?_)|(refine rd rfl (Ad 3 isAgg3 rfl rfl ((Aa SS).hold 3 rfl) rfl) ?_)|(refine rd rfl (Mm rfl rfl rfl hrk) ?_)|(refine zL (k.cs) 37 2 1 rwK szK rfl rfl SS rfl rfl rfl ?_;simp only[nn])|(refine zL (v.cs) 40 5 2 rwV szV rfl rfl SS rfl rfl rfl ?_;simp only[nn])))
     have HC:=ZeW h i qr k v _ ((Aa SS).hp 0 rfl) K F hqr (hT.fr (Aa SS).fr H.low) hk hg hv
     rw[Du,Dg] at HC
     refine HC.mono ?_
     rintro _ Y5 ⟨h1,y,er,rfl,hW,T2⟩
     replace SS:=Ab ((Aa SS).heap 0 rfl T2)
     have hb1:h1.b=h.b:=T2.hb
     clear T2 HC
     go_wp2
     go_ret2
     exact⟨h1,y,er,rfl, .inr ⟨i,qr,hrk,hi,hqr,hW⟩,HP.To.end H (Aa SS) hb1⟩
    ·have SS:=Ab H.start
     rw[Du,Dg,Dg]
     go_enter func208,ntmps208
     go_wp2_with (first|go_skip|((with_reducible show wpList ..);first|((refine bx0 109 rfl rfl (Aa SS) ?_);intro X0 B0 S0;replace SS:=Ab S0;clear S0;simp only[nn])|(refine zB 37 (k.cs) rfl rfl rfl SS ?_;clear SS;intro Xa Ba SS;simp only[nn])|(refine zB 40 (v.cs) rfl rfl rfl SS ?_;clear SS;intro Xe Be SS;simp only[nn])|(refine zB 40 (r.cs) rfl rfl rfl SS ?_;clear SS;intro Xg Bg SS;simp only[nn])|(refine zL (k.cs) 37 2 1 rwK szK rfl rfl SS rfl rfl rfl ?_;simp only[nn])))
     refine(Lu h j q k _ ((Aa SS).hp 0 rfl) hl hj hk).mono ?_
     rintro _ Y1 ⟨rfl,hb1⟩
     replace SS:=Ab ((Aa SS).on hb1)
     clear hb1
     rw[hfi]
     go_wp2_with (first|go_skip|((with_reducible show wpList ..);first|(refine zA 43 (zeroD.cs) rfl SS ?_;clear SS;intro Xb Bb SS;simp only[nn])|(refine zS ((getD q.T k).cs) 4 43 rfl rfl rfl rfl (Ez _) szD SS rfl ?_;clear SS;intro Xz SS;simp only[nn])))
     refine(Kv h j q _ ((Aa SS).hp 0 rfl) hj hl).mono ?_
     rintro _ _ ⟨rfl,rfl⟩
     have HO:=Ab (((Aa SS).hp 0 rfl).ob hj).1
     go_wp2_with (first|go_skip|((with_reducible show wpList ..);first|(refine rd rfl (Af (vs:=q.p.cs) 40 5 rwV szV rfl rfl (Aa HO) rfl rfl) ?_)|(refine zA 40 (Aq.cs) rfl SS ?_;clear SS;intro Xc Bc SS;simp only[nn])|(refine zS (q.p.cs) 5 40 rfl rfl rfl rfl (Gh _) szV SS rfl ?_;clear SS;intro Xy SS;simp only[nn])|(refine zL ((getD q.T k).cs) 43 18 4 rwD szD rfl rfl SS rfl rfl rfl ?_;simp only[nn])))
     refine(Kw ((getD q.T k)) _).mono ?_
     rintro _ Y4 ⟨rfl,hb1⟩
     replace SS:=Ab ((Aa SS).on hb1)
     clear hb1
     rw[show ((getD q.T k).g.k !=0)=false by simp[hga]]
     go_wp2_with (first|go_skip|((with_reducible show wpList ..);first|(refine rd rfl (Ad 41 isAgg41 rfl rfl ((Aa SS).hold 4 rfl) rfl) ?_)|(refine rd rfl (Rf rfl rfl rfl hwr) ?_)|(refine rd rfl (Ad 3 isAgg3 rfl rfl ((Aa SS).hold 3 rfl) rfl) ?_)|(refine rd rfl (Mn rfl rfl rfl hrk) ?_)))
     go_ret2
     exact⟨h,false, .nilIface,rfl, .inl ⟨rfl,Low.refl K.ok, .inl rfl⟩,HP.To.end H (Aa SS) rfl⟩
  ·have SS:=Ab H.start
   rw[Du,Dg,Dg]
   go_enter func208,ntmps208
   go_wp2_with (first|go_skip|((with_reducible show wpList ..);first|((refine bx0 109 rfl rfl (Aa SS) ?_);intro X0 B0 S0;replace SS:=Ab S0;clear S0;simp only[nn])|(refine zB 37 (k.cs) rfl rfl rfl SS ?_;clear SS;intro Xa Ba SS;simp only[nn])|(refine zB 40 (v.cs) rfl rfl rfl SS ?_;clear SS;intro Xe Be SS;simp only[nn])|(refine zB 40 (r.cs) rfl rfl rfl SS ?_;clear SS;intro Xg Bg SS;simp only[nn])|(refine zL (k.cs) 37 2 1 rwK szK rfl rfl SS rfl rfl rfl ?_;simp only[nn])))
   refine(Lu h j q k _ ((Aa SS).hp 0 rfl) hl hj hk).mono ?_
   rintro _ Y1 ⟨rfl,hb1⟩
   replace SS:=Ab ((Aa SS).on hb1)
   clear hb1
   rw[hfi]
   go_wp2_with (first|go_skip|((with_reducible show wpList ..);first|(refine zA 43 (zeroD.cs) rfl SS ?_;clear SS;intro Xb Bb SS;simp only[nn])|(refine zS ((getD q.T k).cs) 4 43 rfl rfl rfl rfl (Ez _) szD SS rfl ?_;clear SS;intro Xz SS;simp only[nn])))
   refine(Kv h j q _ ((Aa SS).hp 0 rfl) hj hl).mono ?_
   rintro _ _ ⟨rfl,rfl⟩
   have HO:=Ab (((Aa SS).hp 0 rfl).ob hj).1
   go_wp2_with (first|go_skip|((with_reducible show wpList ..);first|(refine rd rfl (Af (vs:=q.p.cs) 40 5 rwV szV rfl rfl (Aa HO) rfl rfl) ?_)|(refine zA 40 (Aq.cs) rfl SS ?_;clear SS;intro Xc Bc SS;simp only[nn])|(refine zS (q.p.cs) 5 40 rfl rfl rfl rfl (Gh _) szV SS rfl ?_;clear SS;intro Xy SS;simp only[nn])|(refine zL ((getD q.T k).cs) 43 18 4 rwD szD rfl rfl SS rfl rfl rfl ?_;simp only[nn])))
   refine(Kw ((getD q.T k)) _).mono ?_
   rintro _ Y4 ⟨rfl,hb1⟩
   replace SS:=Ab ((Aa SS).on hb1)
   clear hb1
   rw[show ((getD q.T k).g.k !=0)=true by simp[hga]]
   go_wp2_with (first|go_skip|((with_reducible show wpList ..);first|(refine rd rfl (Af (vs:=(getD q.T k).s.cs) 40 5 rwV szV rfl rfl ((Aa SS).hold 4 rfl) rfl rfl) ?_)|(refine zL (v.cs) 40 5 2 rwV szV rfl rfl SS rfl rfl rfl ?_;simp only[nn])|(refine zL (r.cs) 40 5 3 rwV szV rfl rfl SS rfl rfl rfl ?_;simp only[nn])))
   refine(ZdR h (getD q.T k).s v r _ hD).mono ?_
   rintro _ Y5 ⟨rfl,hb1⟩
   replace SS:=Ab ((Aa SS).on hb1)
   clear hb1
   go_wp2
   go_ret2
   exact⟨h,false, .nilIface,rfl, .inl ⟨rfl,Low.refl K.ok, .inl rfl⟩,HP.To.end H (Aa SS) rfl⟩
 |none=>
  by_cases hpk:q.p.k=7
  ·obtain⟨i,q2,hi,hq2⟩:=Rx K hj hpk
   have SS:=Ab H.start
   rw[Du,Dg,Dg]
   go_enter func208,ntmps208
   go_wp2_with (first|go_skip|((with_reducible show wpList ..);first|((refine bx0 109 rfl rfl (Aa SS) ?_);intro X0 B0 S0;replace SS:=Ab S0;clear S0;simp only[nn])|(refine zB 37 (k.cs) rfl rfl rfl SS ?_;clear SS;intro Xa Ba SS;simp only[nn])|(refine zB 40 (v.cs) rfl rfl rfl SS ?_;clear SS;intro Xe Be SS;simp only[nn])|(refine zB 40 (r.cs) rfl rfl rfl SS ?_;clear SS;intro Xg Bg SS;simp only[nn])|(refine zL (k.cs) 37 2 1 rwK szK rfl rfl SS rfl rfl rfl ?_;simp only[nn])))
   refine(Lu h j q k _ ((Aa SS).hp 0 rfl) hl hj hk).mono ?_
   rintro _ Y1 ⟨rfl,hb1⟩
   replace SS:=Ab ((Aa SS).on hb1)
   clear hb1
   rw[hfi]
   go_wp2_with (first|go_skip|((with_reducible show wpList ..);first|(refine zA 43 (zeroD.cs) rfl SS ?_;clear SS;intro Xb Bb SS;simp only[nn])|(refine zS ((getD q.T k).cs) 4 43 rfl rfl rfl rfl (Ez _) szD SS rfl ?_;clear SS;intro Xz SS;simp only[nn])))
   refine(Kv h j q _ ((Aa SS).hp 0 rfl) hj hl).mono ?_
   rintro _ _ ⟨rfl,rfl⟩
   have HO:=Ab (((Aa SS).hp 0 rfl).ob hj).1
   go_wp2_with (first|go_skip|((with_reducible show wpList ..);first|(refine rd rfl (Af (vs:=q.p.cs) 40 5 rwV szV rfl rfl (Aa HO) rfl rfl) ?_)|(refine zA 40 (Aq.cs) rfl SS ?_;clear SS;intro Xc Bc SS;simp only[nn])|(refine zS (q.p.cs) 5 40 rfl rfl rfl rfl (Gh _) szV SS rfl ?_;clear SS;intro Xy SS;simp only[nn])|(refine rd rfl (Ad 3 isAgg3 rfl rfl ((Aa SS).hold 5 rfl) rfl) ?_)|(refine zL (k.cs) 37 2 1 rwK szK rfl rfl SS rfl rfl rfl ?_;simp only[nn])|(refine zL (v.cs) 40 5 2 rwV szV rfl rfl SS rfl rfl rfl ?_;simp only[nn])|(refine zL (r.cs) 40 5 3 rwV szV rfl rfl SS rfl rfl rfl ?_;simp only[nn])|(refine rd rfl (Mo rfl rfl rfl hpk) ?_)))
   have HC:=hI h i q2 k v r _ hn ((Aa SS).hp 0 rfl) K F hq2 (hT.fr (Aa SS).fr H.low) hk hg hv hr
   rw[Du,Dg,Dg] at HC
   refine HC.mono ?_
   rintro _ Y2 ⟨h1,y,er,rfl,⟨hS,hE⟩,T2⟩
   replace SS:=Ab ((Aa SS).heap 0 rfl T2)
   have hb1:h1.b=h.b:=T2.hb
   clear T2 HC
   go_wp2
   go_ret2
   exact⟨h1,y,er,rfl,hS,HP.To.end H (Aa SS) hb1⟩
  ·by_cases hrk:r.k=7
   ·obtain⟨i,qr,hi,hqr⟩:=Mk (h:=h) (o:=r.i) (by unfold Ri;simp;exact hr hrk)
    have SS:=Ab H.start
    rw[Du,Dg,Dg]
    go_enter func208,ntmps208
    go_wp2_with (first|go_skip|((with_reducible show wpList ..);first|((refine bx0 109 rfl rfl (Aa SS) ?_);intro X0 B0 S0;replace SS:=Ab S0;clear S0;simp only[nn])|(refine zB 37 (k.cs) rfl rfl rfl SS ?_;clear SS;intro Xa Ba SS;simp only[nn])|(refine zB 40 (v.cs) rfl rfl rfl SS ?_;clear SS;intro Xe Be SS;simp only[nn])|(refine zB 40 (r.cs) rfl rfl rfl SS ?_;clear SS;intro Xg Bg SS;simp only[nn])|(refine zL (k.cs) 37 2 1 rwK szK rfl rfl SS rfl rfl rfl ?_;simp only[nn])))
    refine(Lu h j q k _ ((Aa SS).hp 0 rfl) hl hj hk).mono ?_
    rintro _ Y1 ⟨rfl,hb1⟩
    replace SS:=Ab ((Aa SS).on hb1)
    clear hb1
    rw[hfi]
    go_wp2_with (first|go_skip|((with_reducible show wpList ..);first|(refine zA 43 (zeroD.cs) rfl SS ?_;clear SS;intro Xb Bb SS;simp only[nn])|(refine zS ((getD q.T k).cs) 4 43 rfl rfl rfl rfl (Ez _) szD SS rfl ?_;clear SS;intro Xz SS;simp only[nn])))
    refine(Kv h j q _ ((Aa SS).hp 0 rfl) hj hl).mono ?_
    rintro _ _ ⟨rfl,rfl⟩
    have HO:=Ab (((Aa SS).hp 0 rfl).ob hj).1
    go_wp2_with (first|go_skip|((with_reducible show wpList ..);first|(refine rd rfl (Af (vs:=q.p.cs) 40 5 rwV szV rfl rfl (Aa HO) rfl rfl) ?_)|(refine zA 40 (Aq.cs) rfl SS ?_;clear SS;intro Xc Bc SS;simp only[nn])|(refine zS (q.p.cs) 5 40 rfl rfl rfl rfl (Gh _) szV SS rfl ?_;clear SS;intro Xy SS;simp only[nn])|(refine rd rfl (Ad 3 isAgg3 rfl rfl ((Aa SS).hold 5 rfl) rfl) ?_)|(refine rd rfl (Ma rfl rfl rfl hpk) ?_)))
    refine(Ju _).mono ?_
    rintro _ Y2 ⟨rfl,hb1⟩
    replace SS:=Ab ((Aa SS).on hb1)
    clear hb1
    rw[show VV.agg ⟨1,false,0,ByteArray.empty,0⟩=Dk.agg from rfl]
    go_wp2_with fail
    refine(Zas Dk _).mono ?_
    rintro _ Y3 ⟨rfl,hb1⟩
    replace SS:=Ab ((Aa SS).on hb1)
    clear hb1
    rw[Qj]
    go_wp2_with (first|go_skip|((with_reducible show wpList ..);first|(refine zS ((La Dk).cs) 4 43 rfl rfl rfl rfl (Ez _) szD SS rfl ?_;clear SS;intro Xx SS;simp only[nn])|(refine zL ((La Dk).cs) 43 18 4 rwD szD rfl rfl SS rfl rfl rfl ?_;simp only[nn])))
    refine(Kw (La Dk) _).mono ?_
    rintro _ Y4 ⟨rfl,hb1⟩
    replace SS:=Ab ((Aa SS).on hb1)
    clear hb1
    rw[show ((La Dk).g.k !=0)=false from rfl]
    go_wp2_with (first|go_skip|((with_reducible show wpList ..);first|(refine rd rfl (Ad 41 isAgg41 rfl rfl ((Aa SS).hold 4 rfl) rfl) ?_)|(refine rd rfl (Rf rfl rfl rfl (show (La Dk).w≠1 by decide)) ?_)|(refine rd rfl (Ad 3 isAgg3 rfl rfl ((Aa SS).hold 3 rfl) rfl) ?_)|(refine rd rfl (Mm rfl rfl rfl hrk) ?_)|(refine zL (k.cs) 37 2 1 rwK szK rfl rfl SS rfl rfl rfl ?_;simp only[nn])|(refine zL (v.cs) 40 5 2 rwV szV rfl rfl SS rfl rfl rfl ?_;simp only[nn])))
    have HC:=ZeW h i qr k v _ ((Aa SS).hp 0 rfl) K F hqr (hT.fr (Aa SS).fr H.low) hk hg hv
    rw[Du,Dg] at HC
    refine HC.mono ?_
    rintro _ Y5 ⟨h1,y,er,rfl,hW,T2⟩
    replace SS:=Ab ((Aa SS).heap 0 rfl T2)
    have hb1:h1.b=h.b:=T2.hb
    clear T2 HC
    go_wp2
    go_ret2
    exact⟨h1,y,er,rfl, .inr ⟨i,qr,hrk,hi,hqr,hW⟩,HP.To.end H (Aa SS) hb1⟩
   ·have SS:=Ab H.start
    rw[Du,Dg,Dg]
    go_enter func208,ntmps208
    go_wp2_with (first|go_skip|((with_reducible show wpList ..);first|((refine bx0 109 rfl rfl (Aa SS) ?_);intro X0 B0 S0;replace SS:=Ab S0;clear S0;simp only[nn])|(refine zB 37 (k.cs) rfl rfl rfl SS ?_;clear SS;intro Xa Ba SS;simp only[nn])|(refine zB 40 (v.cs) rfl rfl rfl SS ?_;clear SS;intro Xe Be SS;simp only[nn])|(refine zB 40 (r.cs) rfl rfl rfl SS ?_;clear SS;intro Xg Bg SS;simp only[nn])|(refine zL (k.cs) 37 2 1 rwK szK rfl rfl SS rfl rfl rfl ?_;simp only[nn])))
    refine(Lu h j q k _ ((Aa SS).hp 0 rfl) hl hj hk).mono ?_
    rintro _ Y1 ⟨rfl,hb1⟩
    replace SS:=Ab ((Aa SS).on hb1)
    clear hb1
    rw[hfi]
    go_wp2_with (first|go_skip|((with_reducible show wpList ..);first|(refine zA 43 (zeroD.cs) rfl SS ?_;clear SS;intro Xb Bb SS;simp only[nn])|(refine zS ((getD q.T k).cs) 4 43 rfl rfl rfl rfl (Ez _) szD SS rfl ?_;clear SS;intro Xz SS;simp only[nn])))
    refine(Kv h j q _ ((Aa SS).hp 0 rfl) hj hl).mono ?_
    rintro _ _ ⟨rfl,rfl⟩
    have HO:=Ab (((Aa SS).hp 0 rfl).ob hj).1
    go_wp2_with (first|go_skip|((with_reducible show wpList ..);first|(refine rd rfl (Af (vs:=q.p.cs) 40 5 rwV szV rfl rfl (Aa HO) rfl rfl) ?_)|(refine zA 40 (Aq.cs) rfl SS ?_;clear SS;intro Xc Bc SS;simp only[nn])|(refine zS (q.p.cs) 5 40 rfl rfl rfl rfl (Gh _) szV SS rfl ?_;clear SS;intro Xy SS;simp only[nn])|(refine rd rfl (Ad 3 isAgg3 rfl rfl ((Aa SS).hold 5 rfl) rfl) ?_)|(refine rd rfl (Ma rfl rfl rfl hpk) ?_)))
    refine(Ju _).mono ?_
    rintro _ Y2 ⟨rfl,hb1⟩
    replace SS:=Ab ((Aa SS).on hb1)
    clear hb1
    rw[show VV.agg ⟨1,false,0,ByteArray.empty,0⟩=Dk.agg from rfl]
    go_wp2_with fail
    refine(Zas Dk _).mono ?_
    rintro _ Y3 ⟨rfl,hb1⟩
    replace SS:=Ab ((Aa SS).on hb1)
    clear hb1
    rw[Qj]
    go_wp2_with (first|go_skip|((with_reducible show wpList ..);first|(refine zS ((La Dk).cs) 4 43 rfl rfl rfl rfl (Ez _) szD SS rfl ?_;clear SS;intro Xx SS;simp only[nn])|(refine zL ((La Dk).cs) 43 18 4 rwD szD rfl rfl SS rfl rfl rfl ?_;simp only[nn])))
    refine(Kw (La Dk) _).mono ?_
    rintro _ Y4 ⟨rfl,hb1⟩
    replace SS:=Ab ((Aa SS).on hb1)
    clear hb1
    rw[show ((La Dk).g.k !=0)=false from rfl]
    go_wp2_with (first|go_skip|((with_reducible show wpList ..);first|(refine rd rfl (Ad 41 isAgg41 rfl rfl ((Aa SS).hold 4 rfl) rfl) ?_)|(refine rd rfl (Rf rfl rfl rfl (show (La Dk).w≠1 by decide)) ?_)|(refine rd rfl (Ad 3 isAgg3 rfl rfl ((Aa SS).hold 3 rfl) rfl) ?_)|(refine rd rfl (Mn rfl rfl rfl hrk) ?_)))
    go_ret2
    exact⟨h,false, .nilIface,rfl, .inl ⟨rfl,Low.refl K.ok, .inl rfl⟩,HP.To.end H (Aa SS) rfl⟩
theorem set_all: ∀n:Nat,SetC (n:Int):=by
 have main: ∀n:Int,(∀m,m<n->0<=m->SetC m)->0<=n->SetC n:=by
  intro n ih hn h j q k v r w hf H K F hj hT hk hg hv hr
  by_cases h0:h.fuel=0
  ·refine(enSet_0 h j k v r w H h0).mono ?_
   rintro _ Y ⟨rfl,T⟩
   exact⟨h,false,Ax 1,rfl,⟨.inl ⟨rfl,Low.refl K.ok, .inr (.inl rfl)⟩, .inr (.inl rfl),fun _=>⟨rfl,rfl⟩,fun h1=>absurd h0 h1⟩,T⟩
  by_cases hd:h.ent=h.depth
  ·refine(enSet_d h j k v r w H K.ok h0 hd).mono ?_
   rintro _ Y ⟨rfl,T⟩
   exact⟨h.less,false,Ax 2,rfl,⟨.inl ⟨rfl,Ea K.ok h0, .inr (.inr rfl)⟩, .inr (.inr rfl),fun h1=>absurd h1 h0,fun _=>by show h.fuel - 1<h.fuel;omega⟩,T⟩
  ·have hp:=K.ok.f0
   refine(enSet_n h j q k v r (fun h1 y er=>SetP h.inn r k v h1 y er) w H K.ok hj h0 hd (fun X TX=> ?_)).mono ?_
   ·refine(ord_set h.inn j q k v r (n - 1) X TX.is (Zcr K h0 hd) F hj (TX.tabs H hT) hk hg hv hr (ih (n - 1) (by omega) (by omega)) (by show h.fuel - 1<=n - 1;omega)).mono ?_
    rintro e Y ⟨h1,y,er,rfl,hL,T⟩
    exact⟨h1,y,er,rfl,hL,hL.ent.1,T⟩
   ·rintro e Y ⟨h1,y,er,rfl,hL,T⟩
    have h2:h1.fuel<=h.fuel - 1:=hL.ent.2
    exact⟨h1.out,y,er,rfl,⟨hL.out K.ok h0,hL.er,fun h3=>absurd h3 h0,fun _=>by show h1.fuel<h.fuel;omega⟩,T⟩
 have all: ∀n:Nat,∀m:Int,0<=m->m<=n->SetC m:=by
  intro n
  induction n with
  |zero=>exact fun m h1 h2=>main m (fun m' h3 h4=>by omega) h1
  |succ n ih=>exact fun m h1 h2=>main m (fun m' h3 h4=>ih m' h4 (by omega)) h1
 exact fun n=>all n n (by omega) (Int.le_refl _)
theorem set_en (h:HP) (j:Nat) (q:OB) (k:KK) (v r:VV) (w:World) (H:h.Is w) (K:h.Wf) (F:h.Few 90000) (hj:h.l[j]? =some q) (hT:Tabs w) (hk:OkK k) (hg:goodK k=true) (hv:v.x<2^64) (hr:r.k=7->1<=r.i/\r.i<=(h.l.length:Int)):Calls prog 45 #[.pointer (some ⟨h.b,0,none⟩), .int .i64 ((j:Int)+1),k.agg,v.agg,r.agg] w fun e w'=> ∃(h1:HP) (y:Bool) (er:Value),e= .returned (.tuple #[.bool y,er])/\(SetP h r k v h1 y er/\Ja h h1 er)/\h.To h1 w w':=set_all h.fuel.toNat h j q k v r w (by have:=K.ok.f0;omega) H K F hj hT hk hg hv hr
end
section
open Go Go.Proofs Go.Maps Go.RowKit FM
attribute [local go_sem] Al Ak Ar Ah Am Ai Au Dd Db Bi Aj Bh
def HP.Ac (h:HP):Prop:= ∃rk:Nat->Nat,∀(j i:Nat) (q:OB),h.l[j]? =some q->q.p.k=7->q.p.i=(i:Int)+1->rk i<rk j
inductive Rch (h:HP) (o:Nat):Nat->Prop
 |here:Rch h o o
 |step {x y:Nat} {q:OB}:h.l[x]? =some q->q.p.k=7->q.p.i=(y:Int)+1->Rch h o y->Rch h o x
theorem Rch.back {h:HP} {o x y:Nat} {q:OB} (hx:h.l[x]? =some q) (hk:q.p.k=7) (hi:q.p.i=(y:Int)+1) (hne:x≠o) (hr:Rch h o x):Rch h o y:=by
 cases hr with
 |here=>exact absurd rfl hne
 | @step _ z _ h1 h2 h3 h4=>
  rw[hx] at h1
  cases h1
  rw[hi] at h3
  obtain rfl:y=z:=by omega
  exact h4
theorem HP.Ac.low {h h1:HP} (A:h.Ac) (L:Low h h1):h1.Ac:=by
 obtain⟨rk,hr⟩:=A
 exact⟨rk,fun j i q hj=>hr j i q (by rw[←L.l];exact hj)⟩
theorem HP.Ac.same {h h1:HP} (A:h.Ac) (e: ∀(j:Nat) (q:OB),h1.l[j]? =some q-> ∃q',h.l[j]? =some q'/\q'.p=q.p):h1.Ac:=by
 obtain⟨rk,hr⟩:=A
 refine⟨rk,fun j i q hj hk hi=> ?_⟩
 obtain⟨q',h1,h2⟩:=e j q hj
 exact hr j i q' h1 (by rw[h2];exact hk) (by rw[h2];exact hi)
def HP.prot (h:HP) (j:Nat) (q:OB) (v:VV):HP:={h with l:=h.l.set j {q with p:=v}}
open Classical in
theorem HP.Ac.prot {h:HP} (A:h.Ac) {j:Nat} {q:OB} (hj:h.l[j]? =some q) (v:VV) (hv: ∀i:Nat,v.k=7->v.i=(i:Int)+1-> ¬Rch h j i):(h.prot j q v).Ac:=by
 obtain⟨rk,hr⟩:=A
 have hlt:=(List.getElem?_eq_some_iff.1 hj).1
 refine⟨fun x=>if Rch h j x then rk x+rk (v.i - 1).toNat+1 else rk x,fun x y r hx hk hi=> ?_⟩
 have hx':(h.l.set j {q with p:=v})[x]? =some r:=hx
 by_cases e:j=x
 ·subst e
  rw[List.getElem?_set_self hlt] at hx'
  cases hx'
  have hn:=hv y hk hi
  dsimp only
  rw[if_neg hn,if_pos (Rch.here)]
  have:(v.i - 1).toNat=y:=by
   have:v.i=(y:Int)+1:=hi
   omega
  rw[this]
  omega
 ·rw[List.getElem?_set_ne e] at hx'
  have h1:=hr x y r hx' hk hi
  dsimp only
  by_cases hR:Rch h j y
  ·rw[if_pos hR,if_pos (Rch.step hx' hk hi hR)]
   omega
  ·rw[if_neg hR,if_neg (fun h2=>hR (h2.back hx' hk hi (fun e2=>e e2.symm)))]
   exact h1
theorem cput_v (a b:VV):Bt a.cs 0 b.cs=b.cs:=by simp[Bt,VV.cs]
theorem leads_h (h:HP) (v:VV) (o:Nat) (w:World) (H:h.Is w) (K:h.Wf) (A:h.Ac) (hv:v.k=7->1<=v.i/\v.i<=(h.l.length:Int)):Calls Tryz.prog 218 #[.pointer (some ⟨h.b,0,none⟩),v.agg, .int .i64 ((o:Int)+1)] w fun e w'=> ∃b:Bool,e= .returned (.bool b)/\Below w.heap.size w w'/\(b=false-> ∀i:Nat,v.k=7->v.i=(i:Int)+1-> ¬Rch h o i):=by
 obtain⟨rk,hrk⟩:=A
 have HRK:=Ab hrk
 have SS:=Ab (Sy.nil w [])
 have HV:=Ab hv
 clear hrk hv
 rw[Dg]
 go_enter Tryz.func218,Tryz.ntmps218
 go_wp2_with (first|go_skip|((with_reducible show wpList ..);(refine zB 40 (v.cs) rfl rfl rfl SS ?_;clear SS;intro Xa Ba SS;simp only[nn])))
 go_loopg [7] (rk (v.i - 1).toNat+1) (fun gm s7 wr=> ∃cv:VV,Hid (Sy w wr [] [Av Ba cv.cs])/\Hid (cv.k=7->1<=cv.i/\cv.i<=(h.l.length:Int))/\Hid (∀i:Nat,cv.k=7->cv.i=(i:Int)+1->rk i+1<=gm)/\Hid ((∀i:Nat,cv.k=7->cv.i=(i:Int)+1-> ¬Rch h o i)-> ∀i:Nat,v.k=7->v.i=(i:Int)+1-> ¬Rch h o i))
 case atStart=>exact⟨v,SS,HV,Ab (fun i hk hi=>by rw[show (v.i - 1).toNat=i by omega];exact Nat.le_refl _),Ab (fun h=>h)⟩
 case round=>
  obtain⟨cv,S2,HC,HM,HE⟩:=hrel
  clear SS
  have SS:=S2
  clear S2
  by_cases hk:cv.k=7
  ·obtain⟨i,q,hi,hq⟩:=Mk (h:=h) (o:=cv.i) (by unfold Ri;simp;exact Aa HC hk)
   by_cases ho:cv.i=(o:Int)+1
   ·clear hi
    go_wp2_with (first|go_skip|((with_reducible show wpList ..);first|(refine rd rfl (Ad 3 Tryz.isAgg3 rfl rfl ((Aa SS).hold 0 rfl) rfl) ?_)|(refine rd rfl (Mo rfl rfl rfl hk) ?_)|(refine rd rfl (Mm rfl rfl rfl ho) ?_)))
    go_ret
    exact⟨true,rfl,(Aa SS).fr.below,fun h=>by cases h⟩
   ·have hne:i≠o:=fun e=>ho (by rw[hi,e])
    have hcl:q.c≠9:=by have:=(K.ob i q hq).c;omega
    have hm:=Aa HM i hk hi
    have HI:=Ab hi
    clear hi
    go_wp2_with (first|go_skip|((with_reducible show wpList ..);first|(refine rd rfl (Ad 3 Tryz.isAgg3 rfl rfl ((Aa SS).hold 0 rfl) rfl) ?_)|(refine rd rfl (Mo rfl rfl rfl hk) ?_)|(refine rd rfl (Mn rfl rfl rfl ho) ?_)))
    have HA:=Kv h i q _ (H.on (Aa SS).fr.below) hq K.ok.len
    rw[←Aa HI] at HA
    refine HA.mono ?_
    rintro _ _ ⟨rfl,rfl⟩
    have HO:=Ab ((H.on (Aa SS).fr.below).ob hq).1
    go_wp2_with (first|go_skip|((with_reducible show wpList ..);first|(refine rd rfl (Ad 3 Tryz.isAgg3 rfl rfl (Aa HO) rfl) ?_)|(refine rd rfl (Ma rfl rfl rfl hcl) ?_)|(refine rd rfl (Af (vs:=q.p.cs) 40 5 rwV szV rfl rfl (Aa HO) rfl rfl) ?_)|(refine zS (q.p.cs) 0 40 rfl rfl rfl rfl (Gh _) szV SS rfl ?_;clear SS;intro Xz SS;simp only[nn])))
    have hs:=Aa SS
    simp only[List.set_cons_zero,cput_v] at hs
    go_roundg (gk - 1)
    case measure=>omega
    case rel=>exact⟨q.p,Ab hs,Ab ((K.ob i q hq).pi),Ab (fun i2 hk2 hi2=>by have:=Aa HRK i i2 q hq hk2 hi2;omega),Ab (fun h2=>Aa HE (fun i3 hk3 hi3 hR=>by
     have e3:i3=i:=by have:=Aa HI;omega
     subst e3
     cases hR with
     |here=>exact hne rfl
     |step a b c d=>
      rw[hq] at a
      cases a
      exact h2 _ b c d))⟩
  ·go_wp2_with (first|go_skip|((with_reducible show wpList ..);first|(refine rd rfl (Ad 3 Tryz.isAgg3 rfl rfl ((Aa SS).hold 0 rfl) rfl) ?_)|(refine rd rfl (Ma rfl rfl rfl hk) ?_)))
   go_ret
   exact⟨false,rfl,(Aa SS).fr.below,fun _=>Aa HE (fun i h1=>absurd h1 hk)⟩
end
section
open Go Go.Proofs Go.Maps Go.RowKit FM Tryz
attribute [local go_sem] Al Ak Ar Ah Am Ai Au Dd Db Bi Aj Bh
def veqV (a b:VV):Bool:=decide (a.k=b.k) && (decide (a.b=b.b) && ((FloatKind.f64.format.order a.x b.x==some .eq) && (decide (a.s.toList=b.s.toList) && decide (a.i=b.i))))
theorem eqlV (a b:VV) (w:World):(binOp .eql 40 a.agg b.agg).run prog w= .ok (.bool (veqV a b)) w:=by
 unfold VV.agg veqV
 have ht:prog.underlying 40=some (.struct (prog.fieldsOf 40)):=by kernel_rfl
 have hf:prog.fieldsOf 40=(match prog.underlying 40 with|some (.struct f)=>f|_=> #[]):=by kernel_rfl
 rw[run_eql_struct,show (10000:Nat)=9998+1+1 from rfl,run_equalIn_struct _ _ _ _ _ ht (by kernel_rfl)]
 rw[hf,underlying40]
 have hc:=Mw (P:=prog) 9998 38 a.x b.x w underlying38
 generalize (FloatKind.f64.format.order a.x b.x==some .eq)=c at *
 simp[Op.eqFields,go_sem,part,hc]
 by_cases h1:a.k=b.k<;>by_cases h2:a.b=b.b<;>cases c<;>by_cases h3:a.s.toList=b.s.toList<;>by_cases h4:a.i=b.i<;>simp[h1,h2,h3,h4]
theorem ex_eqV {o:Oper} {a:Act} {w:World} {x y:Operand} {p q:VV} (ho:o.op= .binOp .eql 40 x y 40) (hx:a.eval x= .agg p.cs.toArray) (hc:a.eval y= .agg q.cs.toArray):(execOp a.eval o).run prog w= .ok (.value (.bool (veqV p q))) w:=by
 have h2:=eqlV p q w
 rw[Dg,Dg] at h2
 unfold execOp
 simp only[ho,hx,hc]
 simp[eqGuard,h2]
