import Derived.Test.YtfnohipnenkhoaaGreatDoorRa
set_option linter.all false
namespace Go.Proofs.YtfnohipnenkhoaaGreatDoor
set_option maxRecDepth 100000
set_option maxHeartbeats 0
section
open Go Go.Proofs Go.Maps Go.RowKit FM Tryz
attribute [local go_sem] Am Al Ar Ah Ao Ai Aw Do Dn Bq Aj Bo
theorem ZcZ (h:HP) (t v r:VV) (w:World) (ht:t.k≠7):Calls prog 169 #[.pointer (some ⟨h.b,0,none⟩),t.agg,v.agg,r.agg] w fun e w'=>e= .returned (.tuple #[.bool false, .nilIface])/\Below w.heap.size w w':=by
 have SS:=Ab (Sy.nil w [])
 rw[Db,Db,Db]
 go_enter func169,ntmps169
 go_wp2_with (first|go_skip|((with_reducible show wpList ..);first|(refine zB 36 (t.cs) (by rfl) rfl rfl rfl SS ?_;clear SS;intro Xa Ba SS;simp only[nn])|(refine zB 36 (v.cs) (by rfl) rfl rfl rfl SS ?_;clear SS;intro Xb Bb SS;simp only[nn])|(refine zB 36 (r.cs) (by rfl) rfl rfl rfl SS ?_;clear SS;intro Xc Bc SS;simp only[nn])|(refine rd rfl (Ad 3 isAgg3 rfl rfl ((Aa SS).hold 0 rfl) rfl) ?_)|(refine rd rfl (Jy rfl rfl rfl ht) ?_)))
 go_ret2
 exact⟨rfl,(Aa SS).fr.below⟩
def SetP (h:HP) (r:VV) (k:KK) (v:VV) (h1:HP) (y:Bool) (er:Value):Prop:=(y=false/\Low h h1/\Er er)∨(∃(i:Nat) (qr:OB),r.k=7/\r.i=(i:Int)+1/\h.l[i]? =some qr/\WriP h i qr k v h1 y er)
def SetC (n:Int):Prop:= ∀(h:HP) (j:Nat) (q:OB) (k:KK) (v r:VV) (w:World),h.fuel<=n->h.Is w->h.Wf->h.Few 90000->h.l[j]? =some q->Tabs w->OkK k->goodK k=true->v.x<2^64->(r.k=7->1<=r.i/\r.i<=(h.l.length:Int))->Calls prog 37 #[.pointer (some ⟨h.b,0,none⟩), .int .i64 ((j:Int)+1),k.agg,v.agg,r.agg] w fun e w'=> ∃(h1:HP) (y:Bool) (er:Value),e= .returned (.tuple #[.bool y,er])/\(SetP h r k v h1 y er/\Jj h h1 er)/\h.To h1 w w'
theorem WriP.er {h:HP} {j:Nat} {q:OB} {k:KK} {v:VV} {h1:HP} {y:Bool} {er:Value} (h0:WriP h j q k v h1 y er):Er er:=by
 rcases h0 with ⟨-, -,h⟩|⟨-,h, -⟩
 ·exact h
 ·exact .inl h
theorem WriP.ent {h:HP} {j:Nat} {q:OB} {k:KK} {v:VV} {h1:HP} {y:Bool} {er:Value} (h0:WriP h j q k v h1 y er):h1.ent=h.ent/\h1.fuel<=h.fuel:=by
 rcases h0 with ⟨-,h, -⟩|⟨-, -,d,T', -, -,h, -⟩
 ·exact⟨h.ent,h.le⟩
 ·exact⟨h.ent,h.le⟩
theorem SetP.er {h:HP} {r:VV} {k:KK} {v:VV} {h1:HP} {y:Bool} {er:Value} (h0:SetP h r k v h1 y er):Er er:=by
 rcases h0 with ⟨-, -,h⟩|⟨i,qr, -, -, -,h⟩
 ·exact h
 ·exact h.er
theorem SetP.ent {h:HP} {r:VV} {k:KK} {v:VV} {h1:HP} {y:Bool} {er:Value} (h0:SetP h r k v h1 y er):h1.ent=h.ent/\h1.fuel<=h.fuel:=by
 rcases h0 with ⟨-,h, -⟩|⟨i,qr, -, -, -,h⟩
 ·exact⟨h.ent,h.le⟩
 ·exact h.ent
theorem SetP.out {h:HP} {r:VV} {k:KK} {v:VV} {h1:HP} {y:Bool} {er:Value} (K:h.Ok) (hf:h.fuel≠0) (h0:SetP h.inn r k v h1 y er):SetP h r k v h1.out y er:=by
 rcases h0 with ⟨a,b,c⟩|⟨i,qr,a,b,c,h0⟩
 ·exact .inl ⟨a,(Uu K hf b).1,c⟩
 ·refine .inr ⟨i,qr,a,b,c, ?_⟩
  rcases h0 with ⟨a,b,c⟩|⟨a,b,d,T',e1,e2,e3,e4,e5⟩
  ·exact .inl ⟨a,(Uu K hf b).1,c⟩
  ·refine .inr ⟨a,b,d,T',e1,e2,(Uu (h:=h.tab i qr T') ⟨by show (h.l.set i _).length<=_;rw[List.length_set];exact K.len,K.f0,K.f1,K.e0,K.e1,K.d1⟩ hf e3).1,e4,e5⟩
theorem ord_set (h:HP) (j:Nat) (q:OB) (k:KK) (v r:VV) (n:Int) (w:World) (H:h.Is w) (K:h.Wf) (F:h.Few 90000) (hj:h.l[j]? =some q) (hT:Tabs w) (hk:OkK k) (hg:goodK k=true) (hv:v.x<2^64) (hr:r.k=7->1<=r.i/\r.i<=(h.l.length:Int)) (hI:SetC n) (hn:h.fuel<=n):Calls prog 161 #[.agg #[], .pointer (some ⟨h.b,0,none⟩), .int .i64 ((j:Int)+1),k.agg,v.agg,r.agg] w fun e w'=> ∃(h1:HP) (y:Bool) (er:Value),e= .returned (.tuple #[.bool y,er])/\SetP h r k v h1 y er/\h.To h1 w w':=by
 have hl:=K.ok.len
 cases hfi:q.T.find k with
 |some r0=>
  have hD:=(ZbP K hj hfi).2.2.2
  by_cases hga:(getD q.T k).g.k=0
  ·by_cases hwr:(getD q.T k).w=1
   ·have SS:=Ab H.start
    rw[Ds,Db,Db]
    go_enter func161,ntmps161
    go_wp2_with (first|go_skip|((with_reducible show wpList ..);first|((refine bx0 91 (by rfl) rfl rfl (Aa SS) ?_);intro X0 B0 S0;replace SS:=Ab S0;clear S0;simp only[nn])|(refine zB 48 (k.cs) (by rfl) rfl rfl rfl SS ?_;clear SS;intro Xa Ba SS;simp only[nn])|(refine zB 36 (v.cs) (by rfl) rfl rfl rfl SS ?_;clear SS;intro Xe Be SS;simp only[nn])|(refine zB 36 (r.cs) (by rfl) rfl rfl rfl SS ?_;clear SS;intro Xg Bg SS;simp only[nn])|(refine zL (k.cs) 48 2 1 rwK szK (by rfl) rfl rfl SS rfl rfl rfl ?_;simp only[nn])))
    refine(Ki h j q k _ ((Aa SS).hp 0 rfl) hl hj hk).mono ?_
    rintro _ Y1 ⟨rfl,hb1⟩
    replace SS:=Ab ((Aa SS).on hb1)
    clear hb1
    rw[hfi]
    go_wp2_with (first|go_skip|((with_reducible show wpList ..);first|(refine zA 39 (Ak.cs) (by rfl) rfl SS ?_;clear SS;intro Xb Bb SS;simp only[nn])|(refine zS ((getD q.T k).cs) 4 39 (by rfl) rfl rfl rfl rfl (Ek _) szD SS rfl ?_;clear SS;intro Xz SS;simp only[nn])))
    refine(Kg h j q _ ((Aa SS).hp 0 rfl) hj hl).mono ?_
    rintro _ _ ⟨rfl,rfl⟩
    have HO:=Ab (((Aa SS).hp 0 rfl).ob hj).1
    go_wp2_with (first|go_skip|((with_reducible show wpList ..);first|(refine rd rfl (Af (vs:=q.p.cs) 36 5 rwV szV rfl rfl (Aa HO) rfl rfl) ?_)|(refine zA 36 (Av.cs) (by rfl) rfl SS ?_;clear SS;intro Xc Bc SS;simp only[nn])|(refine zS (q.p.cs) 5 36 (by rfl) rfl rfl rfl rfl (Em _) szV SS rfl ?_;clear SS;intro Xy SS;simp only[nn])|(refine zL ((getD q.T k).cs) 39 18 4 rwD szD (by rfl) rfl rfl SS rfl rfl rfl ?_;simp only[nn])))
    refine(Js ((getD q.T k)) _).mono ?_
    rintro _ Y4 ⟨rfl,hb1⟩
    replace SS:=Ab ((Aa SS).on hb1)
    clear hb1
    rw[show ((getD q.T k).g.k !=0)=false by simp[hga]]
    go_wp2_with (first|go_skip|((with_reducible show wpList ..);first|(refine rd rfl (Ad 37 isAgg37 rfl rfl ((Aa SS).hold 4 rfl) rfl) ?_)|(refine rd rfl (ZbU rfl rfl rfl hwr) ?_)))
    go_ret2
    exact⟨h,false, .nilIface,rfl, .inl ⟨rfl,Low.refl K.ok, .inl rfl⟩,HP.To.end H (Aa SS) rfl⟩
   ·by_cases hrk:r.k=7
    ·obtain⟨i,qr,hi,hqr⟩:=Oc (h:=h) (o:=r.i) (by unfold Rm;simp;exact hr hrk)
     have SS:=Ab H.start
     rw[Ds,Db,Db]
     go_enter func161,ntmps161
     go_wp2_with (first|go_skip|((with_reducible show wpList ..);first|((refine bx0 91 (by rfl) rfl rfl (Aa SS) ?_);intro X0 B0 S0;replace SS:=Ab S0;clear S0;simp only[nn])|(refine zB 48 (k.cs) (by rfl) rfl rfl rfl SS ?_;clear SS;intro Xa Ba SS;simp only[nn])|(refine zB 36 (v.cs) (by rfl) rfl rfl rfl SS ?_;clear SS;intro Xe Be SS;simp only[nn])|(refine zB 36 (r.cs) (by rfl) rfl rfl rfl SS ?_;clear SS;intro Xg Bg SS;simp only[nn])|(refine zL (k.cs) 48 2 1 rwK szK (by rfl) rfl rfl SS rfl rfl rfl ?_;simp only[nn])))
     refine(Ki h j q k _ ((Aa SS).hp 0 rfl) hl hj hk).mono ?_
     rintro _ Y1 ⟨rfl,hb1⟩
     replace SS:=Ab ((Aa SS).on hb1)
     clear hb1
     rw[hfi]
     go_wp2_with (first|go_skip|((with_reducible show wpList ..);first|(refine zA 39 (Ak.cs) (by rfl) rfl SS ?_;clear SS;intro Xb Bb SS;simp only[nn])|(refine zS ((getD q.T k).cs) 4 39 (by rfl) rfl rfl rfl rfl (Ek _) szD SS rfl ?_;clear SS;intro Xz SS;simp only[nn])))
     refine(Kg h j q _ ((Aa SS).hp 0 rfl) hj hl).mono ?_
     rintro _ _ ⟨rfl,rfl⟩
     have HO:=Ab (((Aa SS).hp 0 rfl).ob hj).1
     go_wp2_with (first|go_skip|((with_reducible show wpList ..);first|(refine rd rfl (Af (vs:=q.p.cs) 36 5 rwV szV rfl rfl (Aa HO) rfl rfl) ?_)|(refine zA 36 (Av.cs) (by rfl) rfl SS ?_;clear SS;intro Xc Bc SS;simp only[nn])|(refine zS (q.p.cs) 5 36 (by rfl) rfl rfl rfl rfl (Em _) szV SS rfl ?_;clear SS;intro Xy SS;simp only[nn])|(refine zL ((getD q.T k).cs) 39 18 4 rwD szD (by rfl) rfl rfl SS rfl rfl rfl ?_;simp only[nn])))
     refine(Js ((getD q.T k)) _).mono ?_
     rintro _ Y4 ⟨rfl,hb1⟩
     replace SS:=Ab ((Aa SS).on hb1)
     clear hb1
     rw[show ((getD q.T k).g.k !=0)=false by simp[hga]]
     go_wp2_with (first|go_skip|((with_reducible show wpList ..);first|(refine rd rfl (Ad 37 isAgg37 rfl rfl ((Aa SS).hold 4 rfl) rfl) ?_)|(refine rd rfl (Ou rfl rfl rfl hwr) ?_)|(refine rd rfl (Ad 3 isAgg3 rfl rfl ((Aa SS).hold 3 rfl) rfl) ?_)|(refine rd rfl (Eh rfl rfl rfl hrk) ?_)|(refine zL (k.cs) 48 2 1 rwK szK (by rfl) rfl rfl SS rfl rfl rfl ?_;simp only[nn])|(refine zL (v.cs) 36 5 2 rwV szV (by rfl) rfl rfl SS rfl rfl rfl ?_;simp only[nn])))
     have HC:=ZdT h i qr k v _ ((Aa SS).hp 0 rfl) K F hqr (hT.fr (Aa SS).fr H.low) hk hg hv
     rw[Ds,Db] at HC
     refine HC.mono ?_
     rintro _ Y5 ⟨h1,y,er,rfl,hW,T2⟩
     replace SS:=Ab ((Aa SS).heap 0 rfl T2)
     have hb1:h1.b=h.b:=T2.hb
     clear T2 HC
     go_wp2
     go_ret2
     exact⟨h1,y,er,rfl, .inr ⟨i,qr,hrk,hi,hqr,hW⟩,HP.To.end H (Aa SS) hb1⟩
    ·have SS:=Ab H.start
     rw[Ds,Db,Db]
     go_enter func161,ntmps161
     go_wp2_with (first|go_skip|((with_reducible show wpList ..);first|((refine bx0 91 (by rfl) rfl rfl (Aa SS) ?_);intro X0 B0 S0;replace SS:=Ab S0;clear S0;simp only[nn])|(refine zB 48 (k.cs) (by rfl) rfl rfl rfl SS ?_;clear SS;intro Xa Ba SS;simp only[nn])|(refine zB 36 (v.cs) (by rfl) rfl rfl rfl SS ?_;clear SS;intro Xe Be SS;simp only[nn])|(refine zB 36 (r.cs) (by rfl) rfl rfl rfl SS ?_;clear SS;intro Xg Bg SS;simp only[nn])|(refine zL (k.cs) 48 2 1 rwK szK (by rfl) rfl rfl SS rfl rfl rfl ?_;simp only[nn])))
     refine(Ki h j q k _ ((Aa SS).hp 0 rfl) hl hj hk).mono ?_
     rintro _ Y1 ⟨rfl,hb1⟩
     replace SS:=Ab ((Aa SS).on hb1)
     clear hb1
     rw[hfi]
     go_wp2_with (first|go_skip|((with_reducible show wpList ..);first|(refine zA 39 (Ak.cs) (by rfl) rfl SS ?_;clear SS;intro Xb Bb SS;simp only[nn])|(refine zS ((getD q.T k).cs) 4 39 (by rfl) rfl rfl rfl rfl (Ek _) szD SS rfl ?_;clear SS;intro Xz SS;simp only[nn])))
     refine(Kg h j q _ ((Aa SS).hp 0 rfl) hj hl).mono ?_
     rintro _ _ ⟨rfl,rfl⟩
     have HO:=Ab (((Aa SS).hp 0 rfl).ob hj).1
     go_wp2_with (first|go_skip|((with_reducible show wpList ..);first|(refine rd rfl (Af (vs:=q.p.cs) 36 5 rwV szV rfl rfl (Aa HO) rfl rfl) ?_)|(refine zA 36 (Av.cs) (by rfl) rfl SS ?_;clear SS;intro Xc Bc SS;simp only[nn])|(refine zS (q.p.cs) 5 36 (by rfl) rfl rfl rfl rfl (Em _) szV SS rfl ?_;clear SS;intro Xy SS;simp only[nn])|(refine zL ((getD q.T k).cs) 39 18 4 rwD szD (by rfl) rfl rfl SS rfl rfl rfl ?_;simp only[nn])))
     refine(Js ((getD q.T k)) _).mono ?_
     rintro _ Y4 ⟨rfl,hb1⟩
     replace SS:=Ab ((Aa SS).on hb1)
     clear hb1
     rw[show ((getD q.T k).g.k !=0)=false by simp[hga]]
     go_wp2_with (first|go_skip|((with_reducible show wpList ..);first|(refine rd rfl (Ad 37 isAgg37 rfl rfl ((Aa SS).hold 4 rfl) rfl) ?_)|(refine rd rfl (Ou rfl rfl rfl hwr) ?_)|(refine rd rfl (Ad 3 isAgg3 rfl rfl ((Aa SS).hold 3 rfl) rfl) ?_)|(refine rd rfl (Jy rfl rfl rfl hrk) ?_)))
     go_ret2
     exact⟨h,false, .nilIface,rfl, .inl ⟨rfl,Low.refl K.ok, .inl rfl⟩,HP.To.end H (Aa SS) rfl⟩
  ·have SS:=Ab H.start
   rw[Ds,Db,Db]
   go_enter func161,ntmps161
   go_wp2_with (first|go_skip|((with_reducible show wpList ..);first|((refine bx0 91 (by rfl) rfl rfl (Aa SS) ?_);intro X0 B0 S0;replace SS:=Ab S0;clear S0;simp only[nn])|(refine zB 48 (k.cs) (by rfl) rfl rfl rfl SS ?_;clear SS;intro Xa Ba SS;simp only[nn])|(refine zB 36 (v.cs) (by rfl) rfl rfl rfl SS ?_;clear SS;intro Xe Be SS;simp only[nn])|(refine zB 36 (r.cs) (by rfl) rfl rfl rfl SS ?_;clear SS;intro Xg Bg SS;simp only[nn])|(refine zL (k.cs) 48 2 1 rwK szK (by rfl) rfl rfl SS rfl rfl rfl ?_;simp only[nn])))
   refine(Ki h j q k _ ((Aa SS).hp 0 rfl) hl hj hk).mono ?_
   rintro _ Y1 ⟨rfl,hb1⟩
   replace SS:=Ab ((Aa SS).on hb1)
   clear hb1
   rw[hfi]
   go_wp2_with (first|go_skip|((with_reducible show wpList ..);first|(refine zA 39 (Ak.cs) (by rfl) rfl SS ?_;clear SS;intro Xb Bb SS;simp only[nn])|(refine zS ((getD q.T k).cs) 4 39 (by rfl) rfl rfl rfl rfl (Ek _) szD SS rfl ?_;clear SS;intro Xz SS;simp only[nn])))
   refine(Kg h j q _ ((Aa SS).hp 0 rfl) hj hl).mono ?_
   rintro _ _ ⟨rfl,rfl⟩
   have HO:=Ab (((Aa SS).hp 0 rfl).ob hj).1
   go_wp2_with (first|go_skip|((with_reducible show wpList ..);first|(refine rd rfl (Af (vs:=q.p.cs) 36 5 rwV szV rfl rfl (Aa HO) rfl rfl) ?_)|(refine zA 36 (Av.cs) (by rfl) rfl SS ?_;clear SS;intro Xc Bc SS;simp only[nn])|(refine zS (q.p.cs) 5 36 (by rfl) rfl rfl rfl rfl (Em _) szV SS rfl ?_;clear SS;intro Xy SS;simp only[nn])|(refine zL ((getD q.T k).cs) 39 18 4 rwD szD (by rfl) rfl rfl SS rfl rfl rfl ?_;simp only[nn])))
   refine(Js ((getD q.T k)) _).mono ?_
   rintro _ Y4 ⟨rfl,hb1⟩
   replace SS:=Ab ((Aa SS).on hb1)
   clear hb1
   rw[show ((getD q.T k).g.k !=0)=true by simp[hga]]
   go_wp2_with (first|go_skip|((with_reducible show wpList ..);first|(refine rd rfl (Af (vs:=(getD q.T k).s.cs) 36 5 rwV szV rfl rfl ((Aa SS).hold 4 rfl) rfl rfl) ?_)|(refine zL (v.cs) 36 5 2 rwV szV (by rfl) rfl rfl SS rfl rfl rfl ?_;simp only[nn])|(refine zL (r.cs) 36 5 3 rwV szV (by rfl) rfl rfl SS rfl rfl rfl ?_;simp only[nn])))
   refine(ZcZ h (getD q.T k).s v r _ hD).mono ?_
   rintro _ Y5 ⟨rfl,hb1⟩
   replace SS:=Ab ((Aa SS).on hb1)
   clear hb1
   go_wp2
   go_ret2
   exact⟨h,false, .nilIface,rfl, .inl ⟨rfl,Low.refl K.ok, .inl rfl⟩,HP.To.end H (Aa SS) rfl⟩
 |none=>
  by_cases hpk:q.p.k=7
  ·obtain⟨i,q2,hi,hq2⟩:=Rh K hj hpk
   have SS:=Ab H.start
   rw[Ds,Db,Db]
   go_enter func161,ntmps161
   go_wp2_with (first|go_skip|((with_reducible show wpList ..);first|((refine bx0 91 (by rfl) rfl rfl (Aa SS) ?_);intro X0 B0 S0;replace SS:=Ab S0;clear S0;simp only[nn])|(refine zB 48 (k.cs) (by rfl) rfl rfl rfl SS ?_;clear SS;intro Xa Ba SS;simp only[nn])|(refine zB 36 (v.cs) (by rfl) rfl rfl rfl SS ?_;clear SS;intro Xe Be SS;simp only[nn])|(refine zB 36 (r.cs) (by rfl) rfl rfl rfl SS ?_;clear SS;intro Xg Bg SS;simp only[nn])|(refine zL (k.cs) 48 2 1 rwK szK (by rfl) rfl rfl SS rfl rfl rfl ?_;simp only[nn])))
   refine(Ki h j q k _ ((Aa SS).hp 0 rfl) hl hj hk).mono ?_
   rintro _ Y1 ⟨rfl,hb1⟩
   replace SS:=Ab ((Aa SS).on hb1)
   clear hb1
   rw[hfi]
   go_wp2_with (first|go_skip|((with_reducible show wpList ..);first|(refine zA 39 (Ak.cs) (by rfl) rfl SS ?_;clear SS;intro Xb Bb SS;simp only[nn])|(refine zS ((getD q.T k).cs) 4 39 (by rfl) rfl rfl rfl rfl (Ek _) szD SS rfl ?_;clear SS;intro Xz SS;simp only[nn])))
   refine(Kg h j q _ ((Aa SS).hp 0 rfl) hj hl).mono ?_
   rintro _ _ ⟨rfl,rfl⟩
   have HO:=Ab (((Aa SS).hp 0 rfl).ob hj).1
   go_wp2_with (first|go_skip|((with_reducible show wpList ..);first|(refine rd rfl (Af (vs:=q.p.cs) 36 5 rwV szV rfl rfl (Aa HO) rfl rfl) ?_)|(refine zA 36 (Av.cs) (by rfl) rfl SS ?_;clear SS;intro Xc Bc SS;simp only[nn])|(refine zS (q.p.cs) 5 36 (by rfl) rfl rfl rfl rfl (Em _) szV SS rfl ?_;clear SS;intro Xy SS;simp only[nn])|(refine rd rfl (Ad 3 isAgg3 rfl rfl ((Aa SS).hold 5 rfl) rfl) ?_)|(refine zL (k.cs) 48 2 1 rwK szK (by rfl) rfl rfl SS rfl rfl rfl ?_;simp only[nn])|(refine zL (v.cs) 36 5 2 rwV szV (by rfl) rfl rfl SS rfl rfl rfl ?_;simp only[nn])|(refine zL (r.cs) 36 5 3 rwV szV (by rfl) rfl rfl SS rfl rfl rfl ?_;simp only[nn])|(refine rd rfl (Jb rfl rfl rfl hpk) ?_)))
   have HC:=hI h i q2 k v r _ hn ((Aa SS).hp 0 rfl) K F hq2 (hT.fr (Aa SS).fr H.low) hk hg hv hr
   rw[Ds,Db,Db] at HC
   refine HC.mono ?_
   rintro _ Y2 ⟨h1,y,er,rfl,⟨hS,hE⟩,T2⟩
   replace SS:=Ab ((Aa SS).heap 0 rfl T2)
   have hb1:h1.b=h.b:=T2.hb
   clear T2 HC
   go_wp2
   go_ret2
   exact⟨h1,y,er,rfl,hS,HP.To.end H (Aa SS) hb1⟩
  ·by_cases hrk:r.k=7
   ·obtain⟨i,qr,hi,hqr⟩:=Oc (h:=h) (o:=r.i) (by unfold Rm;simp;exact hr hrk)
    have SS:=Ab H.start
    rw[Ds,Db,Db]
    go_enter func161,ntmps161
    go_wp2_with (first|go_skip|((with_reducible show wpList ..);first|((refine bx0 91 (by rfl) rfl rfl (Aa SS) ?_);intro X0 B0 S0;replace SS:=Ab S0;clear S0;simp only[nn])|(refine zB 48 (k.cs) (by rfl) rfl rfl rfl SS ?_;clear SS;intro Xa Ba SS;simp only[nn])|(refine zB 36 (v.cs) (by rfl) rfl rfl rfl SS ?_;clear SS;intro Xe Be SS;simp only[nn])|(refine zB 36 (r.cs) (by rfl) rfl rfl rfl SS ?_;clear SS;intro Xg Bg SS;simp only[nn])|(refine zL (k.cs) 48 2 1 rwK szK (by rfl) rfl rfl SS rfl rfl rfl ?_;simp only[nn])))
    refine(Ki h j q k _ ((Aa SS).hp 0 rfl) hl hj hk).mono ?_
    rintro _ Y1 ⟨rfl,hb1⟩
    replace SS:=Ab ((Aa SS).on hb1)
    clear hb1
    rw[hfi]
    go_wp2_with (first|go_skip|((with_reducible show wpList ..);first|(refine zA 39 (Ak.cs) (by rfl) rfl SS ?_;clear SS;intro Xb Bb SS;simp only[nn])|(refine zS ((getD q.T k).cs) 4 39 (by rfl) rfl rfl rfl rfl (Ek _) szD SS rfl ?_;clear SS;intro Xz SS;simp only[nn])))
    refine(Kg h j q _ ((Aa SS).hp 0 rfl) hj hl).mono ?_
    rintro _ _ ⟨rfl,rfl⟩
    have HO:=Ab (((Aa SS).hp 0 rfl).ob hj).1
    go_wp2_with (first|go_skip|((with_reducible show wpList ..);first|(refine rd rfl (Af (vs:=q.p.cs) 36 5 rwV szV rfl rfl (Aa HO) rfl rfl) ?_)|(refine zA 36 (Av.cs) (by rfl) rfl SS ?_;clear SS;intro Xc Bc SS;simp only[nn])|(refine zS (q.p.cs) 5 36 (by rfl) rfl rfl rfl rfl (Em _) szV SS rfl ?_;clear SS;intro Xy SS;simp only[nn])|(refine rd rfl (Ad 3 isAgg3 rfl rfl ((Aa SS).hold 5 rfl) rfl) ?_)|(refine rd rfl (Kk rfl rfl rfl hpk) ?_)))
    refine(Gp _).mono ?_
    rintro _ Y2 ⟨rfl,hb1⟩
    replace SS:=Ab ((Aa SS).on hb1)
    clear hb1
    rw[show VV.agg ⟨1,false,0,ByteArray.empty,0⟩=Dr.agg from rfl]
    go_wp2_with fail
    refine(Un Dr _).mono ?_
    rintro _ Y3 ⟨rfl,hb1⟩
    replace SS:=Ab ((Aa SS).on hb1)
    clear hb1
    rw[Mw]
    go_wp2_with (first|go_skip|((with_reducible show wpList ..);first|(refine zS ((Eu Dr).cs) 4 39 (by rfl) rfl rfl rfl rfl (Ek _) szD SS rfl ?_;clear SS;intro Xx SS;simp only[nn])|(refine zL ((Eu Dr).cs) 39 18 4 rwD szD (by rfl) rfl rfl SS rfl rfl rfl ?_;simp only[nn])))
    refine(Js (Eu Dr) _).mono ?_
    rintro _ Y4 ⟨rfl,hb1⟩
    replace SS:=Ab ((Aa SS).on hb1)
    clear hb1
    rw[show ((Eu Dr).g.k !=0)=false from rfl]
    go_wp2_with (first|go_skip|((with_reducible show wpList ..);first|(refine rd rfl (Ad 37 isAgg37 rfl rfl ((Aa SS).hold 4 rfl) rfl) ?_)|(refine rd rfl (Ou rfl rfl rfl (show (Eu Dr).w≠1 by decide)) ?_)|(refine rd rfl (Ad 3 isAgg3 rfl rfl ((Aa SS).hold 3 rfl) rfl) ?_)|(refine rd rfl (Eh rfl rfl rfl hrk) ?_)|(refine zL (k.cs) 48 2 1 rwK szK (by rfl) rfl rfl SS rfl rfl rfl ?_;simp only[nn])|(refine zL (v.cs) 36 5 2 rwV szV (by rfl) rfl rfl SS rfl rfl rfl ?_;simp only[nn])))
    have HC:=ZdT h i qr k v _ ((Aa SS).hp 0 rfl) K F hqr (hT.fr (Aa SS).fr H.low) hk hg hv
    rw[Ds,Db] at HC
    refine HC.mono ?_
    rintro _ Y5 ⟨h1,y,er,rfl,hW,T2⟩
    replace SS:=Ab ((Aa SS).heap 0 rfl T2)
    have hb1:h1.b=h.b:=T2.hb
    clear T2 HC
    go_wp2
    go_ret2
    exact⟨h1,y,er,rfl, .inr ⟨i,qr,hrk,hi,hqr,hW⟩,HP.To.end H (Aa SS) hb1⟩
   ·have SS:=Ab H.start
    rw[Ds,Db,Db]
    go_enter func161,ntmps161
    go_wp2_with (first|go_skip|((with_reducible show wpList ..);first|((refine bx0 91 (by rfl) rfl rfl (Aa SS) ?_);intro X0 B0 S0;replace SS:=Ab S0;clear S0;simp only[nn])|(refine zB 48 (k.cs) (by rfl) rfl rfl rfl SS ?_;clear SS;intro Xa Ba SS;simp only[nn])|(refine zB 36 (v.cs) (by rfl) rfl rfl rfl SS ?_;clear SS;intro Xe Be SS;simp only[nn])|(refine zB 36 (r.cs) (by rfl) rfl rfl rfl SS ?_;clear SS;intro Xg Bg SS;simp only[nn])|(refine zL (k.cs) 48 2 1 rwK szK (by rfl) rfl rfl SS rfl rfl rfl ?_;simp only[nn])))
    refine(Ki h j q k _ ((Aa SS).hp 0 rfl) hl hj hk).mono ?_
    rintro _ Y1 ⟨rfl,hb1⟩
    replace SS:=Ab ((Aa SS).on hb1)
    clear hb1
    rw[hfi]
    go_wp2_with (first|go_skip|((with_reducible show wpList ..);first|(refine zA 39 (Ak.cs) (by rfl) rfl SS ?_;clear SS;intro Xb Bb SS;simp only[nn])|(refine zS ((getD q.T k).cs) 4 39 (by rfl) rfl rfl rfl rfl (Ek _) szD SS rfl ?_;clear SS;intro Xz SS;simp only[nn])))
    refine(Kg h j q _ ((Aa SS).hp 0 rfl) hj hl).mono ?_
    rintro _ _ ⟨rfl,rfl⟩
    have HO:=Ab (((Aa SS).hp 0 rfl).ob hj).1
    go_wp2_with (first|go_skip|((with_reducible show wpList ..);first|(refine rd rfl (Af (vs:=q.p.cs) 36 5 rwV szV rfl rfl (Aa HO) rfl rfl) ?_)|(refine zA 36 (Av.cs) (by rfl) rfl SS ?_;clear SS;intro Xc Bc SS;simp only[nn])|(refine zS (q.p.cs) 5 36 (by rfl) rfl rfl rfl rfl (Em _) szV SS rfl ?_;clear SS;intro Xy SS;simp only[nn])|(refine rd rfl (Ad 3 isAgg3 rfl rfl ((Aa SS).hold 5 rfl) rfl) ?_)|(refine rd rfl (Kk rfl rfl rfl hpk) ?_)))
    refine(Gp _).mono ?_
    rintro _ Y2 ⟨rfl,hb1⟩
    replace SS:=Ab ((Aa SS).on hb1)
    clear hb1
    rw[show VV.agg ⟨1,false,0,ByteArray.empty,0⟩=Dr.agg from rfl]
    go_wp2_with fail
    refine(Un Dr _).mono ?_
    rintro _ Y3 ⟨rfl,hb1⟩
    replace SS:=Ab ((Aa SS).on hb1)
    clear hb1
    rw[Mw]
    go_wp2_with (first|go_skip|((with_reducible show wpList ..);first|(refine zS ((Eu Dr).cs) 4 39 (by rfl) rfl rfl rfl rfl (Ek _) szD SS rfl ?_;clear SS;intro Xx SS;simp only[nn])|(refine zL ((Eu Dr).cs) 39 18 4 rwD szD (by rfl) rfl rfl SS rfl rfl rfl ?_;simp only[nn])))
    refine(Js (Eu Dr) _).mono ?_
    rintro _ Y4 ⟨rfl,hb1⟩
    replace SS:=Ab ((Aa SS).on hb1)
    clear hb1
    rw[show ((Eu Dr).g.k !=0)=false from rfl]
    go_wp2_with (first|go_skip|((with_reducible show wpList ..);first|(refine rd rfl (Ad 37 isAgg37 rfl rfl ((Aa SS).hold 4 rfl) rfl) ?_)|(refine rd rfl (Ou rfl rfl rfl (show (Eu Dr).w≠1 by decide)) ?_)|(refine rd rfl (Ad 3 isAgg3 rfl rfl ((Aa SS).hold 3 rfl) rfl) ?_)|(refine rd rfl (Jy rfl rfl rfl hrk) ?_)))
    go_ret2
    exact⟨h,false, .nilIface,rfl, .inl ⟨rfl,Low.refl K.ok, .inl rfl⟩,HP.To.end H (Aa SS) rfl⟩
theorem set_all: ∀n:Nat,SetC (n:Int):=by
 have main: ∀n:Int,(∀m,m<n->0<=m->SetC m)->0<=n->SetC n:=by
  intro n ih hn h j q k v r w hf H K F hj hT hk hg hv hr
  by_cases h0:h.fuel=0
  ·refine(enSet_0 h j k v r w H h0).mono ?_
   rintro _ Y ⟨rfl,T⟩
   exact⟨h,false,Bs 1,rfl,⟨.inl ⟨rfl,Low.refl K.ok, .inr (.inl rfl)⟩, .inr (.inl rfl),fun _=>⟨rfl,rfl⟩,fun h1=>absurd h0 h1⟩,T⟩
  by_cases hd:h.ent=h.depth
  ·refine(enSet_d h j k v r w H K.ok h0 hd).mono ?_
   rintro _ Y ⟨rfl,T⟩
   exact⟨h.less,false,Bs 2,rfl,⟨.inl ⟨rfl,Ej K.ok h0, .inr (.inr rfl)⟩, .inr (.inr rfl),fun h1=>absurd h1 h0,fun _=>by show h.fuel - 1<h.fuel;omega⟩,T⟩
  ·have hp:=K.ok.f0
   refine(ZbX h j q k v r (fun h1 y er=>SetP h.inn r k v h1 y er) w H K.ok hj h0 hd (fun X TX=> ?_)).mono ?_
   ·refine(ord_set h.inn j q k v r (n - 1) X TX.is (ZbJ K h0 hd) F hj (TX.tabs H hT) hk hg hv hr (ih (n - 1) (by omega) (by omega)) (by show h.fuel - 1<=n - 1;omega)).mono ?_
    rintro e Y ⟨h1,y,er,rfl,hL,T⟩
    exact⟨h1,y,er,rfl,hL,hL.ent.1,T⟩
   ·rintro e Y ⟨h1,y,er,rfl,hL,T⟩
    have h2:h1.fuel<=h.fuel - 1:=hL.ent.2
    exact⟨h1.out,y,er,rfl,⟨hL.out K.ok h0,hL.er,fun h3=>absurd h3 h0,fun _=>by show h1.fuel<h.fuel;omega⟩,T⟩
 have all: ∀n:Nat,∀m:Int,0<=m->m<=n->SetC m:=by
  intro n
  induction n with
  |zero=>exact fun m h1 h2=>main m (fun m' h3 h4=>by omega) h1
  |succ n ih=>exact fun m h1 h2=>main m (fun m' h3 h4=>ih m' h4 (by omega)) h1
 exact fun n=>all n n (by omega) (Int.le_refl _)
theorem set_en (h:HP) (j:Nat) (q:OB) (k:KK) (v r:VV) (w:World) (H:h.Is w) (K:h.Wf) (F:h.Few 90000) (hj:h.l[j]? =some q) (hT:Tabs w) (hk:OkK k) (hg:goodK k=true) (hv:v.x<2^64) (hr:r.k=7->1<=r.i/\r.i<=(h.l.length:Int)):Calls prog 37 #[.pointer (some ⟨h.b,0,none⟩), .int .i64 ((j:Int)+1),k.agg,v.agg,r.agg] w fun e w'=> ∃(h1:HP) (y:Bool) (er:Value),e= .returned (.tuple #[.bool y,er])/\(SetP h r k v h1 y er/\Jj h h1 er)/\h.To h1 w w':=set_all h.fuel.toNat h j q k v r w (by have:=K.ok.f0;omega) H K F hj hT hk hg hv hr
