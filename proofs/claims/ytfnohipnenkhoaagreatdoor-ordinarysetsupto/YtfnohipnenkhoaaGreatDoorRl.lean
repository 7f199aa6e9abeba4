import Derived.Test.YtfnohipnenkhoaaGreatDoorRk
set_option linter.all false
namespace Go.Proofs.YtfnohipnenkhoaaGreatDoor
set_option maxRecDepth 100000
set_option maxHeartbeats 0
section
open Go Go.Proofs Go.Maps Go.RowKit FM Tryz
attribute [local go_sem] Am Al Ar Ah Ao Ai Aw Do Dn Bq Aj Bo
def rdV (d:DD):VV:=if d.g.k=0 then d.v else Dr
theorem read_x (h:HP) (d:DD) (r:VV) (w:World) (hg:d.g.k≠7):Calls prog 165 #[.pointer (some ⟨h.b,0,none⟩),d.agg,r.agg] w fun e w'=>e= .returned (.tuple #[(rdV d).agg, .nilIface])/\Below w.heap.size w w':=by
 by_cases h0:d.g.k=0
 ·rw[show rdV d=d.v by unfold rdV;rw[if_pos h0]]
  have SS:=Ab (Sy.nil w [])
  rw[Mw,Db]
  go_enter func165,ntmps165
  go_wp2_with (first|go_skip|((with_reducible show wpList ..);first|(refine zB 39 (d.cs) (by rfl) rfl rfl rfl SS ?_;clear SS;intro Xa Ba SS;simp only[nn])|(refine zB 36 (r.cs) (by rfl) rfl rfl rfl SS ?_;clear SS;intro Xb Bb SS;simp only[nn])|(refine zA 36 (Av.cs) (by rfl) rfl SS ?_;clear SS;intro Xc Bc SS;simp only[nn])|(refine zL (d.cs) 39 18 0 rwD szD (by rfl) rfl rfl SS rfl rfl rfl ?_;simp only[nn])))
  refine(Js d _).mono ?_
  rintro _ Y1 ⟨rfl,hb1⟩
  replace SS:=Ab ((Aa SS).on hb1)
  clear hb1
  rw[show (d.g.k !=0)=false by simp[h0]]
  go_wp2_with (first|go_skip|((with_reducible show wpList ..);first|(refine rd rfl (Af (vs:=d.v.cs) 36 5 rwV szV rfl rfl ((Aa SS).hold 0 rfl) rfl rfl) ?_)|(refine zS (d.v.cs) 2 36 (by rfl) rfl rfl rfl rfl (Em _) szV SS rfl ?_;clear SS;intro Xz SS;simp only[nn])))
  refine bodyPost_ret (Gr rwV szV rfl rfl rfl ((Aa SS).hold 2 rfl) rfl) rfl ?_
  exact⟨rfl,(Aa SS).fr.below⟩
 ·rw[show rdV d=Dr by unfold rdV;rw[if_neg h0]]
  have SS:=Ab (Sy.nil w [])
  rw[Mw,Db]
  go_enter func165,ntmps165
  go_wp2_with (first|go_skip|((with_reducible show wpList ..);first|(refine zB 39 (d.cs) (by rfl) rfl rfl rfl SS ?_;clear SS;intro Xa Ba SS;simp only[nn])|(refine zB 36 (r.cs) (by rfl) rfl rfl rfl SS ?_;clear SS;intro Xb Bb SS;simp only[nn])|(refine zA 36 (Av.cs) (by rfl) rfl SS ?_;clear SS;intro Xc Bc SS;simp only[nn])|(refine zL (d.cs) 39 18 0 rwD szD (by rfl) rfl rfl SS rfl rfl rfl ?_;simp only[nn])))
  refine(Js d _).mono ?_
  rintro _ Y1 ⟨rfl,hb1⟩
  replace SS:=Ab ((Aa SS).on hb1)
  clear hb1
  rw[show (d.g.k !=0)=true by simp[h0]]
  go_wp2_with (first|go_skip|((with_reducible show wpList ..);first|(refine rd rfl (Ad 3 isAgg3 rfl rfl ((Aa SS).hold 0 rfl) rfl) ?_)|(refine rd rfl (Jy rfl rfl rfl hg) ?_)))
  refine(Gp _).mono ?_
  rintro _ Y2 ⟨rfl,hb1⟩
  replace SS:=Ab ((Aa SS).on hb1)
  clear hb1
  rw[show VV.agg ⟨1,false,0,ByteArray.empty,0⟩= .agg Dr.cs.toArray from rfl]
  go_wp2_with (first|go_skip|((with_reducible show wpList ..);(refine zS (Dr.cs) 2 36 (by rfl) rfl rfl rfl rfl (Em _) szV SS rfl ?_;clear SS;intro Xz SS;simp only[nn])))
  refine bodyPost_ret (Gr rwV szV rfl rfl rfl ((Aa SS).hold 2 rfl) rfl) rfl ?_
  exact⟨rfl,(Aa SS).fr.below⟩
theorem Zcq (h:HP) (j:Nat) (q:OB) (k:KK) (r:VV) (P:HP->VV->Value->Prop) (w:World) (H:h.Is w) (hl:h.l.length<=65536) (hj:h.l[j]? =some q) (hk:OkK k) (hF:(q.T.find k).isSome=true->(getD q.T k).g.k≠7/\P h (rdV (getD q.T k)) .nilIface) (hU:q.T.find k=none->q.p.k≠7->P h Dr .nilIface) (hR:q.T.find k=none->q.p.k=7-> ∃i:Nat,q.p.i=(i:Int)+1/\ ∀X,h.To h w X->Calls prog 36 #[.pointer (some ⟨h.b,0,none⟩), .int .i64 ((i:Int)+1),k.agg,r.agg] X fun e w'=> ∃(h1:HP) (V:VV) (er:Value),e= .returned (.tuple #[V.agg,er])/\P h1 V er/\h.To h1 X w'):Calls prog 154 #[.agg #[], .pointer (some ⟨h.b,0,none⟩), .int .i64 ((j:Int)+1),k.agg,r.agg] w fun e w'=> ∃(h1:HP) (V:VV) (er:Value),e= .returned (.tuple #[V.agg,er])/\P h1 V er/\h.To h1 w w':=by
 cases hfi:q.T.find k with
 |some r0=>
  obtain⟨hD,hP⟩:=hF (by rw[hfi];rfl)
  have SS:=Ab H.start
  rw[Ds,Db]
  go_enter func154,ntmps154
  go_wp2_with (first|go_skip|((with_reducible show wpList ..);first|((refine bx0 91 (by rfl) rfl rfl (Aa SS) ?_);intro X0 B0 S0;replace SS:=Ab S0;clear S0;simp only[nn])|(refine zB 48 (k.cs) (by rfl) rfl rfl rfl SS ?_;clear SS;intro Xa Ba SS;simp only[nn])|(refine zB 36 (r.cs) (by rfl) rfl rfl rfl SS ?_;clear SS;intro Xe Be SS;simp only[nn])|(refine zA 36 (Av.cs) (by rfl) rfl SS ?_;clear SS;intro Xg Bg SS;simp only[nn])|(refine zL (k.cs) 48 2 1 rwK szK (by rfl) rfl rfl SS rfl rfl rfl ?_;simp only[nn])))
  refine(Ki h j q k _ ((Aa SS).hp 0 rfl) hl hj hk).mono ?_
  rintro _ Y1 ⟨rfl,hb1⟩
  replace SS:=Ab ((Aa SS).on hb1)
  clear hb1
  rw[hfi]
  go_wp2_with (first|go_skip|((with_reducible show wpList ..);first|(refine zA 39 (Ak.cs) (by rfl) rfl SS ?_;clear SS;intro Xb Bb SS;simp only[nn])|(refine zS ((getD q.T k).cs) 4 39 (by rfl) rfl rfl rfl rfl (Ek _) szD SS rfl ?_;clear SS;intro Xz SS;simp only[nn])|(refine zL ((getD q.T k).cs) 39 18 4 rwD szD (by rfl) rfl rfl SS rfl rfl rfl ?_;simp only[nn])|(refine zL (r.cs) 36 5 2 rwV szV (by rfl) rfl rfl SS rfl rfl rfl ?_;simp only[nn])))
  refine(read_x h (getD q.T k) r _ hD).mono ?_
  rintro _ Y2 ⟨rfl,hb1⟩
  replace SS:=Ab ((Aa SS).on hb1)
  clear hb1
  rw[Db]
  go_wp2_with (first|go_skip|((with_reducible show wpList ..);(refine zS ((rdV (getD q.T k)).cs) 3 36 (by rfl) rfl rfl rfl rfl (Em _) szV SS rfl ?_;clear SS;intro Xy SS;simp only[nn])))
  refine bodyPost_ret (Gr rwV szV rfl rfl rfl ((Aa SS).hold 3 rfl) rfl) rfl ?_
  exact⟨h,_, .nilIface,rfl,hP,HP.To.end H (Aa SS) rfl⟩
 |none=>
  by_cases hpk:q.p.k=7
  ·obtain⟨i,hi,hI⟩:=hR hfi hpk
   have SS:=Ab H.start
   rw[Ds,Db]
   go_enter func154,ntmps154
   go_wp2_with (first|go_skip|((with_reducible show wpList ..);first|((refine bx0 91 (by rfl) rfl rfl (Aa SS) ?_);intro X0 B0 S0;replace SS:=Ab S0;clear S0;simp only[nn])|(refine zB 48 (k.cs) (by rfl) rfl rfl rfl SS ?_;clear SS;intro Xa Ba SS;simp only[nn])|(refine zB 36 (r.cs) (by rfl) rfl rfl rfl SS ?_;clear SS;intro Xe Be SS;simp only[nn])|(refine zA 36 (Av.cs) (by rfl) rfl SS ?_;clear SS;intro Xg Bg SS;simp only[nn])|(refine zL (k.cs) 48 2 1 rwK szK (by rfl) rfl rfl SS rfl rfl rfl ?_;simp only[nn])))
   refine(Ki h j q k _ ((Aa SS).hp 0 rfl) hl hj hk).mono ?_
   rintro _ Y1 ⟨rfl,hb1⟩
   replace SS:=Ab ((Aa SS).on hb1)
   clear hb1
   rw[hfi]
   go_wp2_with (first|go_skip|((with_reducible show wpList ..);first|(refine zA 39 (Ak.cs) (by rfl) rfl SS ?_;clear SS;intro Xb Bb SS;simp only[nn])|(refine zS ((getD q.T k).cs) 4 39 (by rfl) rfl rfl rfl rfl (Ek _) szD SS rfl ?_;clear SS;intro Xz SS;simp only[nn])))
   refine(Kg h j q _ ((Aa SS).hp 0 rfl) hj hl).mono ?_
   rintro _ _ ⟨rfl,rfl⟩
   have HO:=Ab (((Aa SS).hp 0 rfl).ob hj).1
   go_wp2_with (first|go_skip|((with_reducible show wpList ..);first|(refine rd rfl (Af (vs:=q.p.cs) 36 5 rwV szV rfl rfl (Aa HO) rfl rfl) ?_)|(refine zA 36 (Av.cs) (by rfl) rfl SS ?_;clear SS;intro Xc Bc SS;simp only[nn])|(refine zS (q.p.cs) 5 36 (by rfl) rfl rfl rfl rfl (Em _) szV SS rfl ?_;clear SS;intro Xy SS;simp only[nn])|(refine rd rfl (Ad 3 isAgg3 rfl rfl ((Aa SS).hold 5 rfl) rfl) ?_)|(refine zL (k.cs) 48 2 1 rwK szK (by rfl) rfl rfl SS rfl rfl rfl ?_;simp only[nn])|(refine zL (r.cs) 36 5 2 rwV szV (by rfl) rfl rfl SS rfl rfl rfl ?_;simp only[nn])|(refine rd rfl (Eh rfl rfl rfl hpk) ?_)))
   have HC:=Ab (hI _ (HP.To.end H (Aa SS) rfl))
   rw[Ds,Db] at HC
   refine(Aa HC).mono ?_
   rintro _ Y2 ⟨h1,V,er,rfl,hP,T2⟩
   replace SS:=Ab ((Aa SS).heap 0 rfl T2)
   have hb1:h1.b=h.b:=T2.hb
   clear T2 HC
   rw[Db]
   go_wp2_with (first|go_skip|((with_reducible show wpList ..);(refine zS (V.cs) 3 36 (by rfl) rfl rfl rfl rfl (Em _) szV SS rfl ?_;clear SS;intro Xx SS;simp only[nn])))
   refine bodyPost_ret (Gr rwV szV rfl rfl rfl ((Aa SS).hold 3 rfl) rfl) rfl ?_
   exact⟨h1,V,er,rfl,hP,HP.To.end H (Aa SS) hb1⟩
  ·have hP:=hU hfi hpk
   have SS:=Ab H.start
   rw[Ds,Db]
   go_enter func154,ntmps154
   go_wp2_with (first|go_skip|((with_reducible show wpList ..);first|((refine bx0 91 (by rfl) rfl rfl (Aa SS) ?_);intro X0 B0 S0;replace SS:=Ab S0;clear S0;simp only[nn])|(refine zB 48 (k.cs) (by rfl) rfl rfl rfl SS ?_;clear SS;intro Xa Ba SS;simp only[nn])|(refine zB 36 (r.cs) (by rfl) rfl rfl rfl SS ?_;clear SS;intro Xe Be SS;simp only[nn])|(refine zA 36 (Av.cs) (by rfl) rfl SS ?_;clear SS;intro Xg Bg SS;simp only[nn])|(refine zL (k.cs) 48 2 1 rwK szK (by rfl) rfl rfl SS rfl rfl rfl ?_;simp only[nn])))
   refine(Ki h j q k _ ((Aa SS).hp 0 rfl) hl hj hk).mono ?_
   rintro _ Y1 ⟨rfl,hb1⟩
   replace SS:=Ab ((Aa SS).on hb1)
   clear hb1
   rw[hfi]
   go_wp2_with (first|go_skip|((with_reducible show wpList ..);first|(refine zA 39 (Ak.cs) (by rfl) rfl SS ?_;clear SS;intro Xb Bb SS;simp only[nn])|(refine zS ((getD q.T k).cs) 4 39 (by rfl) rfl rfl rfl rfl (Ek _) szD SS rfl ?_;clear SS;intro Xz SS;simp only[nn])))
   refine(Kg h j q _ ((Aa SS).hp 0 rfl) hj hl).mono ?_
   rintro _ _ ⟨rfl,rfl⟩
   have HO:=Ab (((Aa SS).hp 0 rfl).ob hj).1
   go_wp2_with (first|go_skip|((with_reducible show wpList ..);first|(refine rd rfl (Af (vs:=q.p.cs) 36 5 rwV szV rfl rfl (Aa HO) rfl rfl) ?_)|(refine zA 36 (Av.cs) (by rfl) rfl SS ?_;clear SS;intro Xc Bc SS;simp only[nn])|(refine zS (q.p.cs) 5 36 (by rfl) rfl rfl rfl rfl (Em _) szV SS rfl ?_;clear SS;intro Xy SS;simp only[nn])|(refine rd rfl (Ad 3 isAgg3 rfl rfl ((Aa SS).hold 5 rfl) rfl) ?_)|(refine rd rfl (Jy rfl rfl rfl hpk) ?_)))
   refine(Gp _).mono ?_
   rintro _ Y2 ⟨rfl,hb1⟩
   replace SS:=Ab ((Aa SS).on hb1)
   clear hb1
   rw[show VV.agg ⟨1,false,0,ByteArray.empty,0⟩= .agg Dr.cs.toArray from rfl]
   go_wp2_with (first|go_skip|((with_reducible show wpList ..);(refine zS (Dr.cs) 3 36 (by rfl) rfl rfl rfl rfl (Em _) szV SS rfl ?_;clear SS;intro Xx SS;simp only[nn])))
   refine bodyPost_ret (Gr rwV szV rfl rfl rfl ((Aa SS).hold 3 rfl) rfl) rfl ?_
   exact⟨h,Dr, .nilIface,rfl,hP,HP.To.end H (Aa SS) rfl⟩
theorem set_up (h:HP) (j:Nat) (q:OB) (k:KK) (v r:VV) (i:Nat) (P:HP->Bool->Value->Prop) (w:World) (H:h.Is w) (hl:h.l.length<=65536) (hj:h.l[j]? =some q) (hk:OkK k) (hfi:q.T.find k=none) (hpk:q.p.k=7) (hi:q.p.i=(i:Int)+1) (hC: ∀X,h.To h w X->Calls prog 37 #[.pointer (some ⟨h.b,0,none⟩), .int .i64 ((i:Int)+1),k.agg,v.agg,r.agg] X fun e w'=> ∃(h1:HP) (y:Bool) (er:Value),e= .returned (.tuple #[.bool y,er])/\P h1 y er/\h.To h1 X w'):Calls prog 161 #[.agg #[], .pointer (some ⟨h.b,0,none⟩), .int .i64 ((j:Int)+1),k.agg,v.agg,r.agg] w fun e w'=> ∃(h1:HP) (y:Bool) (er:Value),e= .returned (.tuple #[.bool y,er])/\P h1 y er/\h.To h1 w w':=by
 have SS:=Ab H.start
 rw[Ds,Db,Db]
 go_enter func161,ntmps161
 go_wp2_with (first|go_skip|((with_reducible show wpList ..);first|((refine bx0 91 (by rfl) rfl rfl (Aa SS) ?_);intro X0 B0 S0;replace SS:=Ab S0;clear S0;simp only[nn])|(refine zB 48 (k.cs) (by rfl) rfl rfl rfl SS ?_;clear SS;intro Xa Ba SS;simp only[nn])|(refine zB 36 (v.cs) (by rfl) rfl rfl rfl SS ?_;clear SS;intro Xe Be SS;simp only[nn])|(refine zB 36 (r.cs) (by rfl) rfl rfl rfl SS ?_;clear SS;intro Xg Bg SS;simp only[nn])|(refine zL (k.cs) 48 2 1 rwK szK (by rfl) rfl rfl SS rfl rfl rfl ?_;simp only[nn])))
 refine(Ki h j q k _ ((Aa SS).hp 0 rfl) hl hj hk).mono ?_
 rintro _ Y1 ⟨rfl,hb1⟩
 replace SS:=Ab ((Aa SS).on hb1)
 clear hb1
 rw[hfi]
 go_wp2_with (first|go_skip|((with_reducible show wpList ..);first|(refine zA 39 (Ak.cs) (by rfl) rfl SS ?_;clear SS;intro Xb Bb SS;simp only[nn])|(refine zS ((getD q.T k).cs) 4 39 (by rfl) rfl rfl rfl rfl (Ek _) szD SS rfl ?_;clear SS;intro Xz SS;simp only[nn])))
 refine(Kg h j q _ ((Aa SS).hp 0 rfl) hj hl).mono ?_
 rintro _ _ ⟨rfl,rfl⟩
 have HO:=Ab (((Aa SS).hp 0 rfl).ob hj).1
 go_wp2_with (first|go_skip|((with_reducible show wpList ..);first|(refine rd rfl (Af (vs:=q.p.cs) 36 5 rwV szV rfl rfl (Aa HO) rfl rfl) ?_)|(refine zA 36 (Av.cs) (by rfl) rfl SS ?_;clear SS;intro Xc Bc SS;simp only[nn])|(refine zS (q.p.cs) 5 36 (by rfl) rfl rfl rfl rfl (Em _) szV SS rfl ?_;clear SS;intro Xy SS;simp only[nn])|(refine rd rfl (Ad 3 isAgg3 rfl rfl ((Aa SS).hold 5 rfl) rfl) ?_)|(refine zL (k.cs) 48 2 1 rwK szK (by rfl) rfl rfl SS rfl rfl rfl ?_;simp only[nn])|(refine zL (v.cs) 36 5 2 rwV szV (by rfl) rfl rfl SS rfl rfl rfl ?_;simp only[nn])|(refine zL (r.cs) 36 5 3 rwV szV (by rfl) rfl rfl SS rfl rfl rfl ?_;simp only[nn])|(refine rd rfl (Jb rfl rfl rfl hpk) ?_)))
 have HC:=hC _ (HP.To.end H (Aa SS) rfl)
 rw[Ds,Db,Db] at HC
 refine HC.mono ?_
 rintro _ Y5 ⟨h1,y,er,rfl,hP,T2⟩
 replace SS:=Ab ((Aa SS).heap 0 rfl T2)
 have hb1:h1.b=h.b:=T2.hb
 clear T2 HC
 go_wp2
 go_ret2
 exact⟨h1,y,er,rfl,hP,HP.To.end H (Aa SS) hb1⟩
theorem set_here (h:HP) (j:Nat) (q:OB) (k:KK) (v r:VV) (i:Nat) (r0:RR) (P:HP->Bool->Value->Prop) (w:World) (H:h.Is w) (hl:h.l.length<=65536) (hj:h.l[j]? =some q) (hk:OkK k) (hfi:q.T.find k=some r0) (hga:(getD q.T k).g.k=0) (hwr:(getD q.T k).w≠1) (hrk:r.k=7) (hi:r.i=(i:Int)+1) (hC: ∀X,h.To h w X->Calls prog 170 #[.pointer (some ⟨h.b,0,none⟩), .int .i64 ((i:Int)+1),k.agg,v.agg] X fun e w'=> ∃(h1:HP) (y:Bool) (er:Value),e= .returned (.tuple #[.bool y,er])/\P h1 y er/\h.To h1 X w'):Calls prog 161 #[.agg #[], .pointer (some ⟨h.b,0,none⟩), .int .i64 ((j:Int)+1),k.agg,v.agg,r.agg] w fun e w'=> ∃(h1:HP) (y:Bool) (er:Value),e= .returned (.tuple #[.bool y,er])/\P h1 y er/\h.To h1 w w':=by
 have SS:=Ab H.start
 rw[Ds,Db,Db]
 go_enter func161,ntmps161
 go_wp2_with (first|go_skip|((with_reducible show wpList ..);first|((refine bx0 91 (by rfl) rfl rfl (Aa SS) ?_);intro X0 B0 S0;replace SS:=Ab S0;clear S0;simp only[nn])|(refine zB 48 (k.cs) (by rfl) rfl rfl rfl SS ?_;clear SS;intro Xa Ba SS;simp only[nn])|(refine zB 36 (v.cs) (by rfl) rfl rfl rfl SS ?_;clear SS;intro Xe Be SS;simp only[nn])|(refine zB 36 (r.cs) (by rfl) rfl rfl rfl SS ?_;clear SS;intro Xg Bg SS;simp only[nn])|(refine zL (k.cs) 48 2 1 rwK szK (by rfl) rfl rfl SS rfl rfl rfl ?_;simp only[nn])))
 refine(Ki h j q k _ ((Aa SS).hp 0 rfl) hl hj hk).mono ?_
 rintro _ Y1 ⟨rfl,hb1⟩
 replace SS:=Ab ((Aa SS).on hb1)
 clear hb1
 rw[hfi]
 go_wp2_with (first|go_skip|((with_reducible show wpList ..);first|(refine zA 39 (Ak.cs) (by rfl) rfl SS ?_;clear SS;intro Xb Bb SS;simp only[nn])|(refine zS ((getD q.T k).cs) 4 39 (by rfl) rfl rfl rfl rfl (Ek _) szD SS rfl ?_;clear SS;intro Xz SS;simp only[nn])))
 refine(Kg h j q _ ((Aa SS).hp 0 rfl) hj hl).mono ?_
 rintro _ _ ⟨rfl,rfl⟩
 have HO:=Ab (((Aa SS).hp 0 rfl).ob hj).1
 go_wp2_with (first|go_skip|((with_reducible show wpList ..);first|(refine rd rfl (Af (vs:=q.p.cs) 36 5 rwV szV rfl rfl (Aa HO) rfl rfl) ?_)|(refine zA 36 (Av.cs) (by rfl) rfl SS ?_;clear SS;intro Xc Bc SS;simp only[nn])|(refine zS (q.p.cs) 5 36 (by rfl) rfl rfl rfl rfl (Em _) szV SS rfl ?_;clear SS;intro Xy SS;simp only[nn])|(refine zL ((getD q.T k).cs) 39 18 4 rwD szD (by rfl) rfl rfl SS rfl rfl rfl ?_;simp only[nn])))
 refine(Js (getD q.T k) _).mono ?_
 rintro _ Y4 ⟨rfl,hb1⟩
 replace SS:=Ab ((Aa SS).on hb1)
 clear hb1
 rw[show ((getD q.T k).g.k !=0)=false by simp[hga]]
 go_wp2_with (first|go_skip|((with_reducible show wpList ..);first|(refine rd rfl (Ad 37 isAgg37 rfl rfl ((Aa SS).hold 4 rfl) rfl) ?_)|(refine rd rfl (Ou rfl rfl rfl hwr) ?_)|(refine rd rfl (Ad 3 isAgg3 rfl rfl ((Aa SS).hold 3 rfl) rfl) ?_)|(refine rd rfl (Eh rfl rfl rfl hrk) ?_)|(refine zL (k.cs) 48 2 1 rwK szK (by rfl) rfl rfl SS rfl rfl rfl ?_;simp only[nn])|(refine zL (v.cs) 36 5 2 rwV szV (by rfl) rfl rfl SS rfl rfl rfl ?_;simp only[nn])))
 have HC:=hC _ (HP.To.end H (Aa SS) rfl)
 rw[Ds,Db] at HC
 refine HC.mono ?_
 rintro _ Y5 ⟨h1,y,er,rfl,hP,T2⟩
 replace SS:=Ab ((Aa SS).heap 0 rfl T2)
 have hb1:h1.b=h.b:=T2.hb
 clear T2 HC
 go_wp2
 go_ret2
 exact⟨h1,y,er,rfl,hP,HP.To.end H (Aa SS) hb1⟩
theorem own_x (h:HP) (j:Nat) (q:OB) (k:KK) (w:World) (H:h.Is w) (K:h.Ok) (hj:h.l[j]? =some q) (hk:OkK k) (h0:h.fuel≠0) (hd:h.ent≠h.depth):Calls prog 86 #[.pointer (some ⟨h.b,0,none⟩), .int .i64 ((j:Int)+1),k.agg] w fun e w'=>e= .returned (.tuple #[(getD q.T k).agg, .bool (q.T.find k).isSome, .nilIface])/\h.To h.less w w':=by
 refine(Mv h j q k (fun h1 V y er=>h1=h.inn/\er= .nilIface/\V=getD q.T k/\y=(q.T.find k).isSome) w H K hj h0 hd (fun X TX=> ?_)).mono ?_
 ·refine(ZbB h.inn j q k X TX.is K.len hj hk).mono ?_
  rintro e Y ⟨rfl,hb⟩
  exact⟨h.inn,_,_,_,rfl,⟨rfl,rfl,rfl,rfl⟩,rfl,HP.To.refl TX.is hb⟩
 ·rintro e Y ⟨h1,V,y,er,rfl,⟨rfl,rfl,rfl,rfl⟩,T⟩
  rw[Kx] at T
  exact⟨rfl,T⟩
theorem def_x (h:HP) (j:Nat) (q:OB) (k:KK) (d:DD) (w:World) (H:h.Is w) (K:h.Ok) (hj:h.l[j]? =some q) (hT:Tabs w) (hk:OkK k) (hg:goodK k=true) (hFn:FD (getD q.T k)) (hFd:FD d) (hlast:q.T.last<4000000) (h0:h.fuel≠0) (hd:h.ent≠h.depth):Calls prog 34 #[.pointer (some ⟨h.b,0,none⟩), .int .i64 ((j:Int)+1),k.agg,d.agg] w fun e w'=> ∃(h1:HP) (y:Bool),e= .returned (.tuple #[.bool y, .nilIface])/\DefP h.less j q k d h1 y/\h.To h1 w w':=by
 refine(Lq h j q k d (fun h1 y er=>er= .nilIface/\DefP h.inn j q k d h1 y) w H K hj h0 hd (fun X TX=> ?_)).mono ?_
 ·refine(Ri h.inn j q k d X TX.is K.len hj (TX.tabs H hT) hk hg hFn hFd hlast).mono ?_
  rintro e Y ⟨h1,y,rfl,hP,T⟩
  refine⟨h1,y, .nilIface,rfl,⟨rfl,hP⟩, ?_,T⟩
  rcases hP.2 with ⟨-,rfl⟩|⟨-,T',rfl, -⟩<;>rfl
 ·rintro e Y ⟨h1,y,er,rfl,⟨rfl,hP⟩,T⟩
  rcases hP with ⟨hy,⟨rfl,rfl⟩|⟨rfl,T',rfl,hl,hpr⟩⟩
  ·rw[Kx] at T
   exact⟨h.less,false,rfl,⟨hy, .inl ⟨rfl,rfl⟩⟩,T⟩
  ·refine⟨(h.inn.tab j q T').out,true,rfl,⟨hy, .inr ⟨rfl,T', ?_,hl,hpr⟩⟩,T⟩
   unfold HP.out HP.tab HP.inn HP.less
   simp
theorem Zet (h:HP) (j:Nat) (q:OB) (k:KK) (v:VV) (P:HP->Bool->Value->Prop) (w:World) (H:h.Is w) (K:h.Ok) (hj:h.l[j]? =some q) (hk:OkK k) (hfi:q.T.find k=none) (h0:h.fuel≠0) (hd:h.ent≠h.depth) (hC: ∀X,h.To h.less w X->Calls prog 34 #[.pointer (some ⟨h.b,0,none⟩), .int .i64 ((j:Int)+1),k.agg,(Eu v).agg] X fun e w'=> ∃(h1:HP) (y:Bool) (er:Value),e= .returned (.tuple #[.bool y,er])/\P h1 y er/\h.less.To h1 X w'):Calls prog 170 #[.pointer (some ⟨h.b,0,none⟩), .int .i64 ((j:Int)+1),k.agg,v.agg] w fun e w'=> ∃(h1:HP) (y:Bool) (er:Value),e= .returned (.tuple #[.bool y,er])/\P h1 y er/\h.To h1 w w':=by
 have SS:=Ab H.start
 rw[Ds,Db]
 go_enter func170,ntmps170
 go_wp2_with (first|go_skip|((with_reducible show wpList ..);first|(refine zB 48 (k.cs) (by rfl) rfl rfl rfl SS ?_;clear SS;intro Xa Ba SS;simp only[nn])|(refine zB 36 (v.cs) (by rfl) rfl rfl rfl SS ?_;clear SS;intro Xb Bb SS;simp only[nn])|(refine zL (k.cs) 48 2 1 rwK szK (by rfl) rfl rfl SS rfl rfl rfl ?_;simp only[nn])))
 refine(own_x h j q k _ ((Aa SS).hp 0 rfl) K hj hk h0 hd).mono ?_
 rintro _ Y1 ⟨rfl,T1⟩
 replace SS:=Ab ((Aa SS).heap 0 rfl T1)
 clear T1
 rw[Mw,hfi]
 go_wp2_with (first|go_skip|((with_reducible show wpList ..);first|(refine zA 39 (Ak.cs) (by rfl) rfl SS ?_;clear SS;intro Xc Bc SS;simp only[nn])|(refine zS ((getD q.T k).cs) 3 39 (by rfl) rfl rfl rfl rfl (Ek _) szD SS rfl ?_;clear SS;intro Xz SS;simp only[nn])))
 have hS5:Sy w _ h.blocks [hpO h.less,Aq Ba k.cs,Aq Bb v.cs,Aq Bc (Bw Ak.cs 0 (getD q.T k).cs)]:=(Aa SS).drew
 clear SS
 refine wp_region_held_drew (P:=prog) (S:=fun X=>Holds X Ba k.cs/\Holds X Bb v.cs) (by kernel_rfl) (⟨hS5.hold 1 rfl,hS5.hold 2 rfl⟩) (fun hS0=> ?_)
 refine gp 0 (some 26) (.pointer (some ⟨h.b,0,none⟩)) rfl rfl (⟨hS5.hold 1 rfl,hS5.hold 2 rfl⟩) ?_
 refine gp 1 (some 27) (.int .i64 ((j:Int)+1)) rfl rfl (⟨hS5.hold 1 rfl,hS5.hold 2 rfl⟩) ?_
 refine gq 2 (some 28) (.agg k.cs.toArray) rfl rfl (fun X hX=>Af (vs:=k.cs) 48 2 rwK szK rfl rfl hX.1 rfl rfl) (⟨hS5.hold 1 rfl,hS5.hold 2 rfl⟩) ?_
 refine gq 3 (some 29) (.agg v.cs.toArray) rfl rfl (fun X hX=>Af (vs:=v.cs) 36 5 rwV szV rfl rfl hX.2 rfl rfl) (⟨hS5.hold 1 rfl,hS5.hold 2 rfl⟩) ?_
 refine gr (rs:= [4]) (gc 4 (some 30) rfl rfl (Un v _) ?_ gn)
 rintro e Yu1 ⟨rfl,hYu1⟩
 have hqu1:=Sy.on hS5 hYu1
 refine⟨_,rfl,⟨hqu1.hold 1 rfl,hqu1.hold 2 rfl⟩, ?_⟩
 simp only[nn]
 refine gr (rs:= [5]) (gc 5 (some 31) rfl rfl (hC _ (HP.To.end H hqu1 rfl)) ?_ gn)
 rintro e Yu2 ⟨h1,y,er,rfl,hP,T2⟩
 have hqd:=Sy.heap hqu1 0 rfl T2
 have hb1:h1.b=h.b:=T2.hb
 clear T2
 refine⟨_,rfl,⟨hqd.hold 1 rfl,hqd.hold 2 rfl⟩, ?_⟩
 refine gp 6 (some 32) (.bool y) rfl rfl (⟨hqd.hold 1 rfl,hqd.hold 2 rfl⟩) ?_
 refine gp 7 (some 33) (er) rfl rfl (⟨hqd.hold 1 rfl,hqd.hold 2 rfl⟩) ?_
 refine gp 8 (some 8) (.bool y) rfl rfl (⟨hqd.hold 1 rfl,hqd.hold 2 rfl⟩) ?_
 refine gp 9 (some 9) (er) rfl rfl (⟨hqd.hold 1 rfl,hqd.hold 2 rfl⟩) ?_
 refine wpAnyH_done (by kernel_rfl) ?_ _
 try simp only[nn]
 have SS:=Ab hqd
 go_wp2
 go_ret2
 exact⟨h1,y,er,rfl,hP,HP.To.end H (Aa SS) hb1⟩
theorem Nf {h:HP} (K:h.Ok) (hf:h.fuel≠0):h.less.Ok:=(Ej K hf).ok K
theorem Zeg (h:HP) (j:Nat) (q:OB) (k:KK) (r:VV) (w:World) (H:h.Is w) (K:h.Ok) (hj:h.l[j]? =some q) (hk:OkK k) (hs:(q.T.find k).isSome=true) (hg:(getD q.T k).g.k≠7) (h0:h.fuel≠0) (hd:h.ent≠h.depth):Calls prog 36 #[.pointer (some ⟨h.b,0,none⟩), .int .i64 ((j:Int)+1),k.agg,r.agg] w fun e w'=>e= .returned (.tuple #[(rdV (getD q.T k)).agg, .nilIface])/\h.To h.less w w':=by
 refine(ZbY h j q k r (fun h1 V er=>h1=h.inn/\V=rdV (getD q.T k)/\er= .nilIface) w H K hj h0 hd (fun X TX=> ?_)).mono ?_
 ·refine(Zcq h.inn j q k r (fun h1 V er=>h1=h.inn/\V=rdV (getD q.T k)/\er= .nilIface) X TX.is K.len hj hk (fun _=>⟨hg,rfl,rfl,rfl⟩) (fun hn=>by rw[hn] at hs;cases hs) (fun hn=>by rw[hn] at hs;cases hs)).mono ?_
  rintro e Y ⟨h1,V,er,rfl,⟨rfl,rfl,rfl⟩,T⟩
  exact⟨_,_,_,rfl,⟨rfl,rfl,rfl⟩,rfl,T⟩
 ·rintro e Y ⟨h1,V,er,rfl,⟨rfl,rfl,rfl⟩,T⟩
  rw[Kx] at T
  exact⟨rfl,T⟩
theorem get_two (h:HP) (j i:Nat) (q q2:OB) (k:KK) (r:VV) (w:World) (H:h.Is w) (K:h.Ok) (hj:h.l[j]? =some q) (hi:h.l[i]? =some q2) (hk:OkK k) (hn:q.T.find k=none) (hp:q.p.k=7) (hpi:q.p.i=(i:Int)+1) (hs:(q2.T.find k).isSome=true) (hg:(getD q2.T k).g.k≠7) (hf:2<=h.fuel) (hd:h.ent+2<=h.depth):Calls prog 36 #[.pointer (some ⟨h.b,0,none⟩), .int .i64 ((j:Int)+1),k.agg,r.agg] w fun e w'=>e= .returned (.tuple #[(rdV (getD q2.T k)).agg, .nilIface])/\h.To h.less.less w w':=by
 have h0:h.fuel≠0:=by omega
 have hd0:h.ent≠h.depth:=by omega
 refine(ZbY h j q k r (fun h1 V er=>h1=h.inn.less/\V=rdV (getD q2.T k)/\er= .nilIface) w H K hj h0 hd0 (fun X TX=> ?_)).mono ?_
 ·refine(Zcq h.inn j q k r (fun h1 V er=>h1=h.inn.less/\V=rdV (getD q2.T k)/\er= .nilIface) X TX.is K.len hj hk (fun h9=>by rw[hn] at h9;cases h9) (fun _ h9=>absurd hp h9) (fun _ _=>⟨i,hpi,fun X2 TX2=> ?_⟩)).mono ?_
  ·refine(Zeg h.inn i q2 k r X2 TX2.is (ZbK K h0 hd0) hi hk hs hg (by show h.fuel - 1≠0;omega) (by show h.ent+1≠h.depth;omega)).mono ?_
   rintro e Y ⟨rfl,T⟩
   exact⟨_,_,_,rfl,⟨rfl,rfl,rfl⟩,T⟩
  ·rintro e Y ⟨h1,V,er,rfl,⟨rfl,rfl,rfl⟩,T⟩
   exact⟨_,_,_,rfl,⟨rfl,rfl,rfl⟩,rfl,T⟩
 ·rintro e Y ⟨h1,V,er,rfl,⟨rfl,rfl,rfl⟩,T⟩
  rw[show h.inn.less.out=h.less.less by unfold HP.out HP.inn HP.less;simp] at T
  exact⟨rfl,T⟩
theorem set_two (h:HP) (j i:Nat) (q q2:OB) (k:KK) (v r:VV) (w:World) (H:h.Is w) (K:h.Ok) (hj:h.l[j]? =some q) (hi:h.l[i]? =some q2) (hT:Tabs w) (hk:OkK k) (hgk:goodK k=true) (hv:v.x<2^64) (hn:q.T.find k=none) (hp:q.p.k=7) (hpi:q.p.i=(i:Int)+1) (hla:q.T.last<4000000) (hx:Yx q.x Ak (Eu v)=true) (hrk:r.k=7) (hri:r.i=(j:Int)+1) (r0:RR) (hs:q2.T.find k=some r0) (hga:(getD q2.T k).g.k=0) (hwr:(getD q2.T k).w≠1) (hf:4<=h.fuel) (hd:h.ent+3<=h.depth):Calls prog 37 #[.pointer (some ⟨h.b,0,none⟩), .int .i64 ((j:Int)+1),k.agg,v.agg,r.agg] w fun e w'=> ∃T':TT,e= .returned (.tuple #[.bool true, .nilIface])/\h.To (h.less.less.less.less.tab j q T') w w':=by
 have h0:h.fuel≠0:=by omega
 have hd0:h.ent≠h.depth:=by omega
 have hz:getD q.T k=Ak:=by unfold getD;rw[hn];rfl
 have K1:=ZbK K h0 hd0
 have K2:=ZbK K1 (by show h.fuel - 1≠0;omega) (by show h.ent+1≠h.depth;omega)
 have K3:=Nf K2 (by show h.fuel - 1 - 1≠0;omega)
 refine(ZbX h j q k v r (fun h1 y er=> ∃T':TT,h1=(h.inn.less.less.less).tab j q T'/\y=true/\er= .nilIface) w H K hj h0 hd0 (fun X TX=> ?_)).mono ?_
 ·refine(set_up h.inn j q k v r i (fun h1 y er=> ∃T':TT,h1=(h.inn.less.less.less).tab j q T'/\y=true/\er= .nilIface) X TX.is K.len hj hk hn hp hpi (fun X2 TX2=> ?_)).mono ?_
  ·refine(ZbX h.inn i q2 k v r (fun h1 y er=> ∃T':TT,h1=(h.inn.inn.less.less).tab j q T'/\y=true/\er= .nilIface) X2 TX2.is K1 hi (by show h.fuel - 1≠0;omega) (by show h.ent+1≠h.depth;omega) (fun X3 TX3=> ?_)).mono ?_
   ·refine(set_here h.inn.inn i q2 k v r j r0 (fun h1 y er=> ∃T':TT,h1=(h.inn.inn.less.less).tab j q T'/\y=true/\er= .nilIface) X3 TX3.is K.len hi hk hs hga hwr hrk hri (fun X4 TX4=> ?_)).mono ?_
    ·refine(Zet h.inn.inn j q k v (fun h1 y er=> ∃T':TT,h1=(h.inn.inn.less.less).tab j q T'/\y=true/\er= .nilIface) X4 TX4.is K2 hj hk hn (by show h.fuel - 1 - 1≠0;omega) (by show h.ent+1+1≠h.depth;omega) (fun X5 TX5=> ?_))
     refine(def_x h.inn.inn.less j q k (Eu v) X5 TX5.is K3 hj (TX5.tabs TX4.is (TX4.tabs TX3.is (TX3.tabs TX2.is (TX2.tabs TX.is (TX.tabs H hT))))) hk hgk (by rw[hz];exact Zbe) (Zb3 hv) hla (by show h.fuel - 1 - 1 - 1≠0;omega) (by show h.ent+1+1≠h.depth;omega)).mono ?_
     rintro e Y ⟨h1,y,rfl,⟨hy,hP⟩,T⟩
     rw[hz,hx] at hy
     subst hy
     rcases hP with ⟨hc, -⟩|⟨-,T',rfl, -, -⟩
     ·cases hc
     ·exact⟨_,true, .nilIface,rfl,⟨T',rfl,rfl,rfl⟩,T⟩
    ·rintro e Y ⟨h1,y,er,rfl,⟨T',rfl,rfl,rfl⟩,T⟩
     exact⟨_,_,_,rfl,⟨T',rfl,rfl,rfl⟩,rfl,T⟩
   ·rintro e Y ⟨h1,y,er,rfl,⟨T',rfl,rfl,rfl⟩,T⟩
    refine⟨_,_,_,rfl,⟨T', ?_,rfl,rfl⟩,T⟩
    unfold HP.out HP.tab HP.inn HP.less
    simp
  ·rintro e Y ⟨h1,y,er,rfl,⟨T',rfl,rfl,rfl⟩,T⟩
   exact⟨_,_,_,rfl,⟨T',rfl,rfl,rfl⟩,rfl,T⟩
 ·rintro e Y ⟨h1,y,er,rfl,⟨T',rfl,rfl,rfl⟩,T⟩
  refine⟨T',rfl, ?_⟩
  rw[show (h.inn.less.less.less.tab j q T').out=h.less.less.less.less.tab j q T' by unfold HP.out HP.tab HP.inn HP.less;simp] at T
  exact T
