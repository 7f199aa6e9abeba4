import Derived.Test.YthcmamjpfigdfaaGreatDoorRt
import Derived.Test.YthcmamjpfigdfaaGreatDoorRv
set_option linter.all false
namespace Go.Proofs.YthcmamjpfigdfaaGreatDoor
set_option maxRecDepth 100000
set_option maxHeartbeats 0
section
open Go Go.Proofs Go.Maps Go.RowKit FM Tryz
attribute [local go_sem] Am Al Ar Ah Ao Ai Au Dg Df Bh Ak Az
def rdV (d:DD):VV:=if d.g.k=0 then d.v else Dh
theorem read_x (h:HP) (d:DD) (r:VV) (w:World) (hg:d.g.k≠7):Calls prog 212 #[.pointer (some ⟨h.b,0,none⟩),d.agg,r.agg] w fun e w'=>e= .returned (.tuple #[(rdV d).agg, .nilIface])/\Below w.heap.size w w':=by
 by_cases h0:d.g.k=0
 ·rw[show rdV d=d.v by unfold rdV;rw[if_pos h0]]
  have SS:=Ab (Sy.nil w [])
  rw[Mi,Bu]
  go_enter func212,ntmps212
  go_wp2_with (first|go_skip|((with_reducible show wpList ..);first|(refine zB 43 (d.cs) (by rfl) rfl rfl rfl SS ?_;clear SS;intro Xa Ba SS;simp only[nn])|(refine zB 40 (r.cs) (by rfl) rfl rfl rfl SS ?_;clear SS;intro Xb Bb SS;simp only[nn])|(refine zA 40 (Av.cs) (by rfl) rfl SS ?_;clear SS;intro Xc Bc SS;simp only[nn])|(refine zL (d.cs) 43 18 0 rwD szD (by rfl) rfl rfl SS rfl rfl rfl ?_;simp only[nn])))
  refine(Jg d _).mono ?_
  rintro _ Y1 ⟨rfl,hb1⟩
  replace SS:=Ab ((Aa SS).on hb1)
  clear hb1
  rw[show (d.g.k !=0)=false by simp[h0]]
  go_wp2_with (first|go_skip|((with_reducible show wpList ..);first|(refine rd rfl (Af (vs:=d.v.cs) 40 5 rwV szV rfl rfl ((Aa SS).hold 0 rfl) rfl rfl) ?_)|(refine zS (d.v.cs) 2 40 (by rfl) rfl rfl rfl rfl (Ea _) szV SS rfl ?_;clear SS;intro Xz SS;simp only[nn])))
  refine bodyPost_ret (Gf rwV szV rfl rfl rfl ((Aa SS).hold 2 rfl) rfl) rfl ?_
  exact⟨rfl,(Aa SS).fr.below⟩
 ·rw[show rdV d=Dh by unfold rdV;rw[if_neg h0]]
  have SS:=Ab (Sy.nil w [])
  rw[Mi,Bu]
  go_enter func212,ntmps212
  go_wp2_with (first|go_skip|((with_reducible show wpList ..);first|(refine zB 43 (d.cs) (by rfl) rfl rfl rfl SS ?_;clear SS;intro Xa Ba SS;simp only[nn])|(refine zB 40 (r.cs) (by rfl) rfl rfl rfl SS ?_;clear SS;intro Xb Bb SS;simp only[nn])|(refine zA 40 (Av.cs) (by rfl) rfl SS ?_;clear SS;intro Xc Bc SS;simp only[nn])|(refine zL (d.cs) 43 18 0 rwD szD (by rfl) rfl rfl SS rfl rfl rfl ?_;simp only[nn])))
  refine(Jg d _).mono ?_
  rintro _ Y1 ⟨rfl,hb1⟩
  replace SS:=Ab ((Aa SS).on hb1)
  clear hb1
  rw[show (d.g.k !=0)=true by simp[h0]]
  go_wp2_with (first|go_skip|((with_reducible show wpList ..);first|(refine rd rfl (Ad 3 isAgg3 rfl rfl ((Aa SS).hold 0 rfl) rfl) ?_)|(refine rd rfl (Jp rfl rfl rfl hg) ?_)))
  refine(Gc _).mono ?_
  rintro _ Y2 ⟨rfl,hb1⟩
  replace SS:=Ab ((Aa SS).on hb1)
  clear hb1
  rw[show VV.agg ⟨1,false,0,ByteArray.empty,0⟩= .agg Dh.cs.toArray from rfl]
  go_wp2_with (first|go_skip|((with_reducible show wpList ..);(refine zS (Dh.cs) 2 40 (by rfl) rfl rfl rfl rfl (Ea _) szV SS rfl ?_;clear SS;intro Xz SS;simp only[nn])))
  refine bodyPost_ret (Gf rwV szV rfl rfl rfl ((Aa SS).hold 2 rfl) rfl) rfl ?_
  exact⟨rfl,(Aa SS).fr.below⟩
theorem Zc9 (h:HP) (j:Nat) (q:OB) (k:KK) (r:VV) (P:HP->VV->Value->Prop) (w:World) (H:h.Is w) (hl:h.l.length<=65536) (hj:h.l[j]? =some q) (hk:OkK k) (hF:(q.T.find k).isSome=true->(getD q.T k).g.k≠7/\P h (rdV (getD q.T k)) .nilIface) (hU:q.T.find k=none->q.p.k≠7->P h Dh .nilIface) (hR:q.T.find k=none->q.p.k=7-> ∃i:Nat,q.p.i=(i:Int)+1/\ ∀X,h.To h w X->Calls prog 44 #[.pointer (some ⟨h.b,0,none⟩), .int .i64 ((i:Int)+1),k.agg,r.agg] X fun e w'=> ∃(h1:HP) (V:VV) (er:Value),e= .returned (.tuple #[V.agg,er])/\P h1 V er/\h.To h1 X w'):Calls prog 201 #[.agg #[], .pointer (some ⟨h.b,0,none⟩), .int .i64 ((j:Int)+1),k.agg,r.agg] w fun e w'=> ∃(h1:HP) (V:VV) (er:Value),e= .returned (.tuple #[V.agg,er])/\P h1 V er/\h.To h1 w w':=by
 cases hfi:q.T.find k with
 |some r0=>
  obtain⟨hD,hP⟩:=hF (by rw[hfi];rfl)
  have SS:=Ab H.start
  rw[Dj,Bu]
  go_enter func201,ntmps201
  go_wp2_with (first|go_skip|((with_reducible show wpList ..);first|((refine bx0 109 (by rfl) rfl rfl (Aa SS) ?_);intro X0 B0 S0;replace SS:=Ab S0;clear S0;simp only[nn])|(refine zB 37 (k.cs) (by rfl) rfl rfl rfl SS ?_;clear SS;intro Xa Ba SS;simp only[nn])|(refine zB 40 (r.cs) (by rfl) rfl rfl rfl SS ?_;clear SS;intro Xe Be SS;simp only[nn])|(refine zA 40 (Av.cs) (by rfl) rfl SS ?_;clear SS;intro Xg Bg SS;simp only[nn])|(refine zL (k.cs) 37 2 1 rwK szK (by rfl) rfl rfl SS rfl rfl rfl ?_;simp only[nn])))
  refine(Jr h j q k _ ((Aa SS).hp 0 rfl) hl hj hk).mono ?_
  rintro _ Y1 ⟨rfl,hb1⟩
  replace SS:=Ab ((Aa SS).on hb1)
  clear hb1
  rw[hfi]
  go_wp2_with (first|go_skip|((with_reducible show wpList ..);first|(refine zA 43 (zeroD.cs) (by rfl) rfl SS ?_;clear SS;intro Xb Bb SS;simp only[nn])|(refine zS ((getD q.T k).cs) 4 43 (by rfl) rfl rfl rfl rfl (Dz _) szD SS rfl ?_;clear SS;intro Xz SS;simp only[nn])|(refine zL ((getD q.T k).cs) 43 18 4 rwD szD (by rfl) rfl rfl SS rfl rfl rfl ?_;simp only[nn])|(refine zL (r.cs) 40 5 2 rwV szV (by rfl) rfl rfl SS rfl rfl rfl ?_;simp only[nn])))
  refine(read_x h (getD q.T k) r _ hD).mono ?_
  rintro _ Y2 ⟨rfl,hb1⟩
  replace SS:=Ab ((Aa SS).on hb1)
  clear hb1
  rw[Bu]
  go_wp2_with (first|go_skip|((with_reducible show wpList ..);(refine zS ((rdV (getD q.T k)).cs) 3 40 (by rfl) rfl rfl rfl rfl (Ea _) szV SS rfl ?_;clear SS;intro Xy SS;simp only[nn])))
  refine bodyPost_ret (Gf rwV szV rfl rfl rfl ((Aa SS).hold 3 rfl) rfl) rfl ?_
  exact⟨h,_, .nilIface,rfl,hP,HP.To.end H (Aa SS) rfl⟩
 |none=>
  by_cases hpk:q.p.k=7
  ·obtain⟨i,hi,hI⟩:=hR hfi hpk
   have SS:=Ab H.start
   rw[Dj,Bu]
   go_enter func201,ntmps201
   go_wp2_with (first|go_skip|((with_reducible show wpList ..);first|((refine bx0 109 (by rfl) rfl rfl (Aa SS) ?_);intro X0 B0 S0;replace SS:=Ab S0;clear S0;simp only[nn])|(refine zB 37 (k.cs) (by rfl) rfl rfl rfl SS ?_;clear SS;intro Xa Ba SS;simp only[nn])|(refine zB 40 (r.cs) (by rfl) rfl rfl rfl SS ?_;clear SS;intro Xe Be SS;simp only[nn])|(refine zA 40 (Av.cs) (by rfl) rfl SS ?_;clear SS;intro Xg Bg SS;simp only[nn])|(refine zL (k.cs) 37 2 1 rwK szK (by rfl) rfl rfl SS rfl rfl rfl ?_;simp only[nn])))
   refine(Jr h j q k _ ((Aa SS).hp 0 rfl) hl hj hk).mono ?_
   rintro _ Y1 ⟨rfl,hb1⟩
   replace SS:=Ab ((Aa SS).on hb1)
   clear hb1
   rw[hfi]
   go_wp2_with (first|go_skip|((with_reducible show wpList ..);first|(refine zA 43 (zeroD.cs) (by rfl) rfl SS ?_;clear SS;intro Xb Bb SS;simp only[nn])|(refine zS ((getD q.T k).cs) 4 43 (by rfl) rfl rfl rfl rfl (Dz _) szD SS rfl ?_;clear SS;intro Xz SS;simp only[nn])))
   refine(Jq h j q _ ((Aa SS).hp 0 rfl) hj hl).mono ?_
   rintro _ _ ⟨rfl,rfl⟩
   have HO:=Ab (((Aa SS).hp 0 rfl).ob hj).1
   go_wp2_with (first|go_skip|((with_reducible show wpList ..);first|(refine rd rfl (Af (vs:=q.p.cs) 40 5 rwV szV rfl rfl (Aa HO) rfl rfl) ?_)|(refine zA 40 (Av.cs) (by rfl) rfl SS ?_;clear SS;intro Xc Bc SS;simp only[nn])|(refine zS (q.p.cs) 5 40 (by rfl) rfl rfl rfl rfl (Ea _) szV SS rfl ?_;clear SS;intro Xy SS;simp only[nn])|(refine rd rfl (Ad 3 isAgg3 rfl rfl ((Aa SS).hold 5 rfl) rfl) ?_)|(refine zL (k.cs) 37 2 1 rwK szK (by rfl) rfl rfl SS rfl rfl rfl ?_;simp only[nn])|(refine zL (r.cs) 40 5 2 rwV szV (by rfl) rfl rfl SS rfl rfl rfl ?_;simp only[nn])|(refine rd rfl (Jb rfl rfl rfl hpk) ?_)))
   have HC:=Ab (hI _ (HP.To.end H (Aa SS) rfl))
   rw[Dj,Bu] at HC
   refine(Aa HC).mono ?_
   rintro _ Y2 ⟨h1,V,er,rfl,hP,T2⟩
   replace SS:=Ab ((Aa SS).heap 0 rfl T2)
   have hb1:h1.b=h.b:=T2.hb
   clear T2 HC
   rw[Bu]
   go_wp2_with (first|go_skip|((with_reducible show wpList ..);(refine zS (V.cs) 3 40 (by rfl) rfl rfl rfl rfl (Ea _) szV SS rfl ?_;clear SS;intro Xx SS;simp only[nn])))
   refine bodyPost_ret (Gf rwV szV rfl rfl rfl ((Aa SS).hold 3 rfl) rfl) rfl ?_
   exact⟨h1,V,er,rfl,hP,HP.To.end H (Aa SS) hb1⟩
  ·have hP:=hU hfi hpk
   have SS:=Ab H.start
   rw[Dj,Bu]
   go_enter func201,ntmps201
   go_wp2_with (first|go_skip|((with_reducible show wpList ..);first|((refine bx0 109 (by rfl) rfl rfl (Aa SS) ?_);intro X0 B0 S0;replace SS:=Ab S0;clear S0;simp only[nn])|(refine zB 37 (k.cs) (by rfl) rfl rfl rfl SS ?_;clear SS;intro Xa Ba SS;simp only[nn])|(refine zB 40 (r.cs) (by rfl) rfl rfl rfl SS ?_;clear SS;intro Xe Be SS;simp only[nn])|(refine zA 40 (Av.cs) (by rfl) rfl SS ?_;clear SS;intro Xg Bg SS;simp only[nn])|(refine zL (k.cs) 37 2 1 rwK szK (by rfl) rfl rfl SS rfl rfl rfl ?_;simp only[nn])))
   refine(Jr h j q k _ ((Aa SS).hp 0 rfl) hl hj hk).mono ?_
   rintro _ Y1 ⟨rfl,hb1⟩
   replace SS:=Ab ((Aa SS).on hb1)
   clear hb1
   rw[hfi]
   go_wp2_with (first|go_skip|((with_reducible show wpList ..);first|(refine zA 43 (zeroD.cs) (by rfl) rfl SS ?_;clear SS;intro Xb Bb SS;simp only[nn])|(refine zS ((getD q.T k).cs) 4 43 (by rfl) rfl rfl rfl rfl (Dz _) szD SS rfl ?_;clear SS;intro Xz SS;simp only[nn])))
   refine(Jq h j q _ ((Aa SS).hp 0 rfl) hj hl).mono ?_
   rintro _ _ ⟨rfl,rfl⟩
   have HO:=Ab (((Aa SS).hp 0 rfl).ob hj).1
   go_wp2_with (first|go_skip|((with_reducible show wpList ..);first|(refine rd rfl (Af (vs:=q.p.cs) 40 5 rwV szV rfl rfl (Aa HO) rfl rfl) ?_)|(refine zA 40 (Av.cs) (by rfl) rfl SS ?_;clear SS;intro Xc Bc SS;simp only[nn])|(refine zS (q.p.cs) 5 40 (by rfl) rfl rfl rfl rfl (Ea _) szV SS rfl ?_;clear SS;intro Xy SS;simp only[nn])|(refine rd rfl (Ad 3 isAgg3 rfl rfl ((Aa SS).hold 5 rfl) rfl) ?_)|(refine rd rfl (Jp rfl rfl rfl hpk) ?_)))
   refine(Gc _).mono ?_
   rintro _ Y2 ⟨rfl,hb1⟩
   replace SS:=Ab ((Aa SS).on hb1)
   clear hb1
   rw[show VV.agg ⟨1,false,0,ByteArray.empty,0⟩= .agg Dh.cs.toArray from rfl]
   go_wp2_with (first|go_skip|((with_reducible show wpList ..);(refine zS (Dh.cs) 3 40 (by rfl) rfl rfl rfl rfl (Ea _) szV SS rfl ?_;clear SS;intro Xx SS;simp only[nn])))
   refine bodyPost_ret (Gf rwV szV rfl rfl rfl ((Aa SS).hold 3 rfl) rfl) rfl ?_
   exact⟨h,Dh, .nilIface,rfl,hP,HP.To.end H (Aa SS) rfl⟩
theorem set_up (h:HP) (j:Nat) (q:OB) (k:KK) (v r:VV) (i:Nat) (P:HP->Bool->Value->Prop) (w:World) (H:h.Is w) (hl:h.l.length<=65536) (hj:h.l[j]? =some q) (hk:OkK k) (hfi:q.T.find k=none) (hpk:q.p.k=7) (hi:q.p.i=(i:Int)+1) (hC: ∀X,h.To h w X->Calls prog 45 #[.pointer (some ⟨h.b,0,none⟩), .int .i64 ((i:Int)+1),k.agg,v.agg,r.agg] X fun e w'=> ∃(h1:HP) (y:Bool) (er:Value),e= .returned (.tuple #[.bool y,er])/\P h1 y er/\h.To h1 X w'):Calls prog 208 #[.agg #[], .pointer (some ⟨h.b,0,none⟩), .int .i64 ((j:Int)+1),k.agg,v.agg,r.agg] w fun e w'=> ∃(h1:HP) (y:Bool) (er:Value),e= .returned (.tuple #[.bool y,er])/\P h1 y er/\h.To h1 w w':=by
 have SS:=Ab H.start
 rw[Dj,Bu,Bu]
 go_enter func208,ntmps208
 go_wp2_with (first|go_skip|((with_reducible show wpList ..);first|((refine bx0 109 (by rfl) rfl rfl (Aa SS) ?_);intro X0 B0 S0;replace SS:=Ab S0;clear S0;simp only[nn])|(refine zB 37 (k.cs) (by rfl) rfl rfl rfl SS ?_;clear SS;intro Xa Ba SS;simp only[nn])|(refine zB 40 (v.cs) (by rfl) rfl rfl rfl SS ?_;clear SS;intro Xe Be SS;simp only[nn])|(refine zB 40 (r.cs) (by rfl) rfl rfl rfl SS ?_;clear SS;intro Xg Bg SS;simp only[nn])|(refine zL (k.cs) 37 2 1 rwK szK (by rfl) rfl rfl SS rfl rfl rfl ?_;simp only[nn])))
 refine(Jr h j q k _ ((Aa SS).hp 0 rfl) hl hj hk).mono ?_
 rintro _ Y1 ⟨rfl,hb1⟩
 replace SS:=Ab ((Aa SS).on hb1)
 clear hb1
 rw[hfi]
 go_wp2_with (first|go_skip|((with_reducible show wpList ..);first|(refine zA 43 (zeroD.cs) (by rfl) rfl SS ?_;clear SS;intro Xb Bb SS;simp only[nn])|(refine zS ((getD q.T k).cs) 4 43 (by rfl) rfl rfl rfl rfl (Dz _) szD SS rfl ?_;clear SS;intro Xz SS;simp only[nn])))
 refine(Jq h j q _ ((Aa SS).hp 0 rfl) hj hl).mono ?_
 rintro _ _ ⟨rfl,rfl⟩
 have HO:=Ab (((Aa SS).hp 0 rfl).ob hj).1
 go_wp2_with (first|go_skip|((with_reducible show wpList ..);first|(refine rd rfl (Af (vs:=q.p.cs) 40 5 rwV szV rfl rfl (Aa HO) rfl rfl) ?_)|(refine zA 40 (Av.cs) (by rfl) rfl SS ?_;clear SS;intro Xc Bc SS;simp only[nn])|(refine zS (q.p.cs) 5 40 (by rfl) rfl rfl rfl rfl (Ea _) szV SS rfl ?_;clear SS;intro Xy SS;simp only[nn])|(refine rd rfl (Ad 3 isAgg3 rfl rfl ((Aa SS).hold 5 rfl) rfl) ?_)|(refine zL (k.cs) 37 2 1 rwK szK (by rfl) rfl rfl SS rfl rfl rfl ?_;simp only[nn])|(refine zL (v.cs) 40 5 2 rwV szV (by rfl) rfl rfl SS rfl rfl rfl ?_;simp only[nn])|(refine zL (r.cs) 40 5 3 rwV szV (by rfl) rfl rfl SS rfl rfl rfl ?_;simp only[nn])|(refine rd rfl (Gb rfl rfl rfl hpk) ?_)))
 have HC:=hC _ (HP.To.end H (Aa SS) rfl)
 rw[Dj,Bu,Bu] at HC
 refine HC.mono ?_
 rintro _ Y5 ⟨h1,y,er,rfl,hP,T2⟩
 replace SS:=Ab ((Aa SS).heap 0 rfl T2)
 have hb1:h1.b=h.b:=T2.hb
 clear T2 HC
 go_wp2
 go_ret2
 exact⟨h1,y,er,rfl,hP,HP.To.end H (Aa SS) hb1⟩
theorem set_here (h:HP) (j:Nat) (q:OB) (k:KK) (v r:VV) (i:Nat) (r0:RR) (P:HP->Bool->Value->Prop) (w:World) (H:h.Is w) (hl:h.l.length<=65536) (hj:h.l[j]? =some q) (hk:OkK k) (hfi:q.T.find k=some r0) (hga:(getD q.T k).g.k=0) (hwr:(getD q.T k).w≠1) (hrk:r.k=7) (hi:r.i=(i:Int)+1) (hC: ∀X,h.To h w X->Calls prog 217 #[.pointer (some ⟨h.b,0,none⟩), .int .i64 ((i:Int)+1),k.agg,v.agg] X fun e w'=> ∃(h1:HP) (y:Bool) (er:Value),e= .returned (.tuple #[.bool y,er])/\P h1 y er/\h.To h1 X w'):Calls prog 208 #[.agg #[], .pointer (some ⟨h.b,0,none⟩), .int .i64 ((j:Int)+1),k.agg,v.agg,r.agg] w fun e w'=> ∃(h1:HP) (y:Bool) (er:Value),e= .returned (.tuple #[.bool y,er])/\P h1 y er/\h.To h1 w w':=by
 have SS:=Ab H.start
 rw[Dj,Bu,Bu]
 go_enter func208,ntmps208
 go_wp2_with (first|go_skip|((with_reducible show wpList ..);first|((refine bx0 109 (by rfl) rfl rfl (Aa SS) ?_);intro X0 B0 S0;replace SS:=Ab S0;clear S0;simp only[nn])|(refine zB 37 (k.cs) (by rfl) rfl rfl rfl SS ?_;clear SS;intro Xa Ba SS;simp only[nn])|(refine zB 40 (v.cs) (by rfl) rfl rfl rfl SS ?_;clear SS;intro Xe Be SS;simp only[nn])|(refine zB 40 (r.cs) (by rfl) rfl rfl rfl SS ?_;clear SS;intro Xg Bg SS;simp only[nn])|(refine zL (k.cs) 37 2 1 rwK szK (by rfl) rfl rfl SS rfl rfl rfl ?_;simp only[nn])))
 refine(Jr h j q k _ ((Aa SS).hp 0 rfl) hl hj hk).mono ?_
 rintro _ Y1 ⟨rfl,hb1⟩
 replace SS:=Ab ((Aa SS).on hb1)
 clear hb1
 rw[hfi]
 go_wp2_with (first|go_skip|((with_reducible show wpList ..);first|(refine zA 43 (zeroD.cs) (by rfl) rfl SS ?_;clear SS;intro Xb Bb SS;simp only[nn])|(refine zS ((getD q.T k).cs) 4 43 (by rfl) rfl rfl rfl rfl (Dz _) szD SS rfl ?_;clear SS;intro Xz SS;simp only[nn])))
 refine(Jq h j q _ ((Aa SS).hp 0 rfl) hj hl).mono ?_
 rintro _ _ ⟨rfl,rfl⟩
 have HO:=Ab (((Aa SS).hp 0 rfl).ob hj).1
 go_wp2_with (first|go_skip|((with_reducible show wpList ..);first|(refine rd rfl (Af (vs:=q.p.cs) 40 5 rwV szV rfl rfl (Aa HO) rfl rfl) ?_)|(refine zA 40 (Av.cs) (by rfl) rfl SS ?_;clear SS;intro Xc Bc SS;simp only[nn])|(refine zS (q.p.cs) 5 40 (by rfl) rfl rfl rfl rfl (Ea _) szV SS rfl ?_;clear SS;intro Xy SS;simp only[nn])|(refine zL ((getD q.T k).cs) 43 18 4 rwD szD (by rfl) rfl rfl SS rfl rfl rfl ?_;simp only[nn])))
 refine(Jg (getD q.T k) _).mono ?_
 rintro _ Y4 ⟨rfl,hb1⟩
 replace SS:=Ab ((Aa SS).on hb1)
 clear hb1
 rw[show ((getD q.T k).g.k !=0)=false by simp[hga]]
 go_wp2_with (first|go_skip|((with_reducible show wpList ..);first|(refine rd rfl (Ad 41 isAgg41 rfl rfl ((Aa SS).hold 4 rfl) rfl) ?_)|(refine rd rfl (On rfl rfl rfl hwr) ?_)|(refine rd rfl (Ad 3 isAgg3 rfl rfl ((Aa SS).hold 3 rfl) rfl) ?_)|(refine rd rfl (Jb rfl rfl rfl hrk) ?_)|(refine zL (k.cs) 37 2 1 rwK szK (by rfl) rfl rfl SS rfl rfl rfl ?_;simp only[nn])|(refine zL (v.cs) 40 5 2 rwV szV (by rfl) rfl rfl SS rfl rfl rfl ?_;simp only[nn])))
 have HC:=hC _ (HP.To.end H (Aa SS) rfl)
 rw[Dj,Bu] at HC
 refine HC.mono ?_
 rintro _ Y5 ⟨h1,y,er,rfl,hP,T2⟩
 replace SS:=Ab ((Aa SS).heap 0 rfl T2)
 have hb1:h1.b=h.b:=T2.hb
 clear T2 HC
 go_wp2
 go_ret2
 exact⟨h1,y,er,rfl,hP,HP.To.end H (Aa SS) hb1⟩
theorem own_x (h:HP) (j:Nat) (q:OB) (k:KK) (w:World) (H:h.Is w) (K:h.Ok) (hj:h.l[j]? =some q) (hk:OkK k) (h0:h.fuel≠0) (hd:h.ent≠h.depth):Calls prog 122 #[.pointer (some ⟨h.b,0,none⟩), .int .i64 ((j:Int)+1),k.agg] w fun e w'=>e= .returned (.tuple #[(getD q.T k).agg, .bool (q.T.find k).isSome, .nilIface])/\h.To h.less w w':=by
 refine(Mh h j q k (fun h1 V y er=>h1=h.inn/\er= .nilIface/\V=getD q.T k/\y=(q.T.find k).isSome) w H K hj h0 hd (fun X TX=> ?_)).mono ?_
 ·refine(Zcb h.inn j q k X TX.is K.len hj hk).mono ?_
  rintro e Y ⟨rfl,hb⟩
  exact⟨h.inn,_,_,_,rfl,⟨rfl,rfl,rfl,rfl⟩,rfl,HP.To.refl TX.is hb⟩
 ·rintro e Y ⟨h1,V,y,er,rfl,⟨rfl,rfl,rfl,rfl⟩,T⟩
  rw[Kj] at T
  exact⟨rfl,T⟩
theorem def_x (h:HP) (j:Nat) (q:OB) (k:KK) (d:DD) (w:World) (H:h.Is w) (K:h.Ok) (hj:h.l[j]? =some q) (hT:Tabs w) (hk:OkK k) (hg:goodK k=true) (hFn:FD (getD q.T k)) (hFd:FD d) (hlast:q.T.last<4000000) (h0:h.fuel≠0) (hd:h.ent≠h.depth):Calls prog 42 #[.pointer (some ⟨h.b,0,none⟩), .int .i64 ((j:Int)+1),k.agg,d.agg] w fun e w'=> ∃(h1:HP) (y:Bool),e= .returned (.tuple #[.bool y, .nilIface])/\DefP h.less j q k d h1 y/\h.To h1 w w':=by
 refine(Ks h j q k d (fun h1 y er=>er= .nilIface/\DefP h.inn j q k d h1 y) w H K hj h0 hd (fun X TX=> ?_)).mono ?_
 ·refine(Rm h.inn j q k d X TX.is K.len hj (TX.tabs H hT) hk hg hFn hFd hlast).mono ?_
  rintro e Y ⟨h1,y,rfl,hP,T⟩
  refine⟨h1,y, .nilIface,rfl,⟨rfl,hP⟩, ?_,T⟩
  rcases hP.2 with ⟨-,rfl⟩|⟨-,T',rfl, -⟩<;>rfl
 ·rintro e Y ⟨h1,y,er,rfl,⟨rfl,hP⟩,T⟩
  rcases hP with ⟨hy,⟨rfl,rfl⟩|⟨rfl,T',rfl,hl,hpr⟩⟩
  ·rw[Kj] at T
   exact⟨h.less,false,rfl,⟨hy, .inl ⟨rfl,rfl⟩⟩,T⟩
  ·refine⟨(h.inn.tab j q T').out,true,rfl,⟨hy, .inr ⟨rfl,T', ?_,hl,hpr⟩⟩,T⟩
   unfold HP.out HP.tab HP.inn HP.less
   simp
theorem ZfK (h:HP) (j:Nat) (q:OB) (k:KK) (v:VV) (P:HP->Bool->Value->Prop) (w:World) (H:h.Is w) (K:h.Ok) (hj:h.l[j]? =some q) (hk:OkK k) (hfi:q.T.find k=none) (h0:h.fuel≠0) (hd:h.ent≠h.depth) (hC: ∀X,h.To h.less w X->Calls prog 42 #[.pointer (some ⟨h.b,0,none⟩), .int .i64 ((j:Int)+1),k.agg,(Ed v).agg] X fun e w'=> ∃(h1:HP) (y:Bool) (er:Value),e= .returned (.tuple #[.bool y,er])/\P h1 y er/\h.less.To h1 X w'):Calls prog 217 #[.pointer (some ⟨h.b,0,none⟩), .int .i64 ((j:Int)+1),k.agg,v.agg] w fun e w'=> ∃(h1:HP) (y:Bool) (er:Value),e= .returned (.tuple #[.bool y,er])/\P h1 y er/\h.To h1 w w':=by
 have SS:=Ab H.start
 rw[Dj,Bu]
 go_enter func217,ntmps217
 go_wp2_with (first|go_skip|((with_reducible show wpList ..);first|(refine zB 37 (k.cs) (by rfl) rfl rfl rfl SS ?_;clear SS;intro Xa Ba SS;simp only[nn])|(refine zB 40 (v.cs) (by rfl) rfl rfl rfl SS ?_;clear SS;intro Xb Bb SS;simp only[nn])|(refine zL (k.cs) 37 2 1 rwK szK (by rfl) rfl rfl SS rfl rfl rfl ?_;simp only[nn])))
 refine(own_x h j q k _ ((Aa SS).hp 0 rfl) K hj hk h0 hd).mono ?_
 rintro _ Y1 ⟨rfl,T1⟩
 replace SS:=Ab ((Aa SS).heap 0 rfl T1)
 clear T1
 rw[Mi,hfi]
 go_wp2_with (first|go_skip|((with_reducible show wpList ..);first|(refine zA 43 (zeroD.cs) (by rfl) rfl SS ?_;clear SS;intro Xc Bc SS;simp only[nn])|(refine zS ((getD q.T k).cs) 3 43 (by rfl) rfl rfl rfl rfl (Dz _) szD SS rfl ?_;clear SS;intro Xz SS;simp only[nn])))
 have hS5:Sy w _ h.blocks [hpO h.less,Aq Ba k.cs,Aq Bb v.cs,Aq Bc (Bo zeroD.cs 0 (getD q.T k).cs)]:=(Aa SS).drew
 clear SS
 refine wp_region_held_drew (P:=prog) (S:=fun X=>Holds X Ba k.cs/\Holds X Bb v.cs) (by kernel_rfl) (⟨hS5.hold 1 rfl,hS5.hold 2 rfl⟩) (fun hS0=> ?_)
 refine gp 0 (some 26) (.pointer (some ⟨h.b,0,none⟩)) rfl rfl (⟨hS5.hold 1 rfl,hS5.hold 2 rfl⟩) ?_
 refine gp 1 (some 27) (.int .i64 ((j:Int)+1)) rfl rfl (⟨hS5.hold 1 rfl,hS5.hold 2 rfl⟩) ?_
 refine gq 2 (some 28) (.agg k.cs.toArray) rfl rfl (fun X hX=>Af (vs:=k.cs) 37 2 rwK szK rfl rfl hX.1 rfl rfl) (⟨hS5.hold 1 rfl,hS5.hold 2 rfl⟩) ?_
 refine gq 3 (some 29) (.agg v.cs.toArray) rfl rfl (fun X hX=>Af (vs:=v.cs) 40 5 rwV szV rfl rfl hX.2 rfl rfl) (⟨hS5.hold 1 rfl,hS5.hold 2 rfl⟩) ?_
 refine gr (rs:= [4]) (gc 4 (some 30) rfl rfl (Uv v _) ?_ gn)
 rintro e Yu1 ⟨rfl,hYu1⟩
 have hqu1:=Sy.on hS5 hYu1
 refine⟨_,rfl,⟨hqu1.hold 1 rfl,hqu1.hold 2 rfl⟩, ?_⟩
 simp only[nn]
 refine gr (rs:= [5]) (gc 5 (some 31) rfl rfl (hC _ (HP.To.end H hqu1 rfl)) ?_ gn)
 rintro e Yu2 ⟨h1,y,er,rfl,hP,T2⟩
 have hqd:=Sy.heap hqu1 0 rfl T2
 have hb1:h1.b=h.b:=T2.hb
 clear T2
 refine⟨_,rfl,⟨hqd.hold 1 rfl,hqd.hold 2 rfl⟩, ?_⟩
 refine gp 6 (some 32) (.bool y) rfl rfl (⟨hqd.hold 1 rfl,hqd.hold 2 rfl⟩) ?_
 refine gp 7 (some 33) (er) rfl rfl (⟨hqd.hold 1 rfl,hqd.hold 2 rfl⟩) ?_
 refine gp 8 (some 8) (.bool y) rfl rfl (⟨hqd.hold 1 rfl,hqd.hold 2 rfl⟩) ?_
 refine gp 9 (some 9) (er) rfl rfl (⟨hqd.hold 1 rfl,hqd.hold 2 rfl⟩) ?_
 refine dn ?_
 try simp only[nn]
 have SS:=Ab hqd
 go_wp2
 go_ret2
 exact⟨h1,y,er,rfl,hP,HP.To.end H (Aa SS) hb1⟩
theorem Mv {h:HP} (K:h.Ok) (hf:h.fuel≠0):h.less.Ok:=(Dy K hf).ok K
theorem Zfu (h:HP) (j:Nat) (q:OB) (k:KK) (r:VV) (w:World) (H:h.Is w) (K:h.Ok) (hj:h.l[j]? =some q) (hk:OkK k) (hs:(q.T.find k).isSome=true) (hg:(getD q.T k).g.k≠7) (h0:h.fuel≠0) (hd:h.ent≠h.depth):Calls prog 44 #[.pointer (some ⟨h.b,0,none⟩), .int .i64 ((j:Int)+1),k.agg,r.agg] w fun e w'=>e= .returned (.tuple #[(rdV (getD q.T k)).agg, .nilIface])/\h.To h.less w w':=by
 refine(Zcz h j q k r (fun h1 V er=>h1=h.inn/\V=rdV (getD q.T k)/\er= .nilIface) w H K hj h0 hd (fun X TX=> ?_)).mono ?_
 ·refine(Zc9 h.inn j q k r (fun h1 V er=>h1=h.inn/\V=rdV (getD q.T k)/\er= .nilIface) X TX.is K.len hj hk (fun _=>⟨hg,rfl,rfl,rfl⟩) (fun hn=>by rw[hn] at hs;cases hs) (fun hn=>by rw[hn] at hs;cases hs)).mono ?_
  rintro e Y ⟨h1,V,er,rfl,⟨rfl,rfl,rfl⟩,T⟩
  exact⟨_,_,_,rfl,⟨rfl,rfl,rfl⟩,rfl,T⟩
 ·rintro e Y ⟨h1,V,er,rfl,⟨rfl,rfl,rfl⟩,T⟩
  rw[Kj] at T
  exact⟨rfl,T⟩
theorem get_two (h:HP) (j i:Nat) (q q2:OB) (k:KK) (r:VV) (w:World) (H:h.Is w) (K:h.Ok) (hj:h.l[j]? =some q) (hi:h.l[i]? =some q2) (hk:OkK k) (hn:q.T.find k=none) (hp:q.p.k=7) (hpi:q.p.i=(i:Int)+1) (hs:(q2.T.find k).isSome=true) (hg:(getD q2.T k).g.k≠7) (hf:2<=h.fuel) (hd:h.ent+2<=h.depth):Calls prog 44 #[.pointer (some ⟨h.b,0,none⟩), .int .i64 ((j:Int)+1),k.agg,r.agg] w fun e w'=>e= .returned (.tuple #[(rdV (getD q2.T k)).agg, .nilIface])/\h.To h.less.less w w':=by
 have h0:h.fuel≠0:=by omega
 have hd0:h.ent≠h.depth:=by omega
 refine(Zcz h j q k r (fun h1 V er=>h1=h.inn.less/\V=rdV (getD q2.T k)/\er= .nilIface) w H K hj h0 hd0 (fun X TX=> ?_)).mono ?_
 ·refine(Zc9 h.inn j q k r (fun h1 V er=>h1=h.inn.less/\V=rdV (getD q2.T k)/\er= .nilIface) X TX.is K.len hj hk (fun h9=>by rw[hn] at h9;cases h9) (fun _ h9=>absurd hp h9) (fun _ _=>⟨i,hpi,fun X2 TX2=> ?_⟩)).mono ?_
  ·refine(Zfu h.inn i q2 k r X2 TX2.is (Zck K h0 hd0) hi hk hs hg (by show h.fuel - 1≠0;omega) (by show h.ent+1≠h.depth;omega)).mono ?_
   rintro e Y ⟨rfl,T⟩
   exact⟨_,_,_,rfl,⟨rfl,rfl,rfl⟩,T⟩
  ·rintro e Y ⟨h1,V,er,rfl,⟨rfl,rfl,rfl⟩,T⟩
   exact⟨_,_,_,rfl,⟨rfl,rfl,rfl⟩,rfl,T⟩
 ·rintro e Y ⟨h1,V,er,rfl,⟨rfl,rfl,rfl⟩,T⟩
  rw[show h.inn.less.out=h.less.less by unfold HP.out HP.inn HP.less;simp] at T
  exact⟨rfl,T⟩
theorem set_two (h:HP) (j i:Nat) (q q2:OB) (k:KK) (v r:VV) (w:World) (H:h.Is w) (K:h.Ok) (hj:h.l[j]? =some q) (hi:h.l[i]? =some q2) (hT:Tabs w) (hk:OkK k) (hgk:goodK k=true) (hv:v.x<2^64) (hn:q.T.find k=none) (hp:q.p.k=7) (hpi:q.p.i=(i:Int)+1) (hla:q.T.last<4000000) (hx:Nj q.x zeroD (Ed v)=true) (hrk:r.k=7) (hri:r.i=(j:Int)+1) (r0:RR) (hs:q2.T.find k=some r0) (hga:(getD q2.T k).g.k=0) (hwr:(getD q2.T k).w≠1) (hf:4<=h.fuel) (hd:h.ent+3<=h.depth):Calls prog 45 #[.pointer (some ⟨h.b,0,none⟩), .int .i64 ((j:Int)+1),k.agg,v.agg,r.agg] w fun e w'=> ∃T':TT,e= .returned (.tuple #[.bool true, .nilIface])/\h.To (h.less.less.less.less.tab j q T') w w':=by
 have h0:h.fuel≠0:=by omega
 have hd0:h.ent≠h.depth:=by omega
 have hz:getD q.T k=zeroD:=by unfold getD;rw[hn];rfl
 have K1:=Zck K h0 hd0
 have K2:=Zck K1 (by show h.fuel - 1≠0;omega) (by show h.ent+1≠h.depth;omega)
 have K3:=Mv K2 (by show h.fuel - 1 - 1≠0;omega)
 refine(Zcy h j q k v r (fun h1 y er=> ∃T':TT,h1=(h.inn.less.less.less).tab j q T'/\y=true/\er= .nilIface) w H K hj h0 hd0 (fun X TX=> ?_)).mono ?_
 ·refine(set_up h.inn j q k v r i (fun h1 y er=> ∃T':TT,h1=(h.inn.less.less.less).tab j q T'/\y=true/\er= .nilIface) X TX.is K.len hj hk hn hp hpi (fun X2 TX2=> ?_)).mono ?_
  ·refine(Zcy h.inn i q2 k v r (fun h1 y er=> ∃T':TT,h1=(h.inn.inn.less.less).tab j q T'/\y=true/\er= .nilIface) X2 TX2.is K1 hi (by show h.fuel - 1≠0;omega) (by show h.ent+1≠h.depth;omega) (fun X3 TX3=> ?_)).mono ?_
   ·refine(set_here h.inn.inn i q2 k v r j r0 (fun h1 y er=> ∃T':TT,h1=(h.inn.inn.less.less).tab j q T'/\y=true/\er= .nilIface) X3 TX3.is K.len hi hk hs hga hwr hrk hri (fun X4 TX4=> ?_)).mono ?_
    ·refine(ZfK h.inn.inn j q k v (fun h1 y er=> ∃T':TT,h1=(h.inn.inn.less.less).tab j q T'/\y=true/\er= .nilIface) X4 TX4.is K2 hj hk hn (by show h.fuel - 1 - 1≠0;omega) (by show h.ent+1+1≠h.depth;omega) (fun X5 TX5=> ?_))
     refine(def_x h.inn.inn.less j q k (Ed v) X5 TX5.is K3 hj (TX5.tabs TX4.is (TX4.tabs TX3.is (TX3.tabs TX2.is (TX2.tabs TX.is (TX.tabs H hT))))) hk hgk (by rw[hz];exact ZbL) (ZcH hv) hla (by show h.fuel - 1 - 1 - 1≠0;omega) (by show h.ent+1+1≠h.depth;omega)).mono ?_
     rintro e Y ⟨h1,y,rfl,⟨hy,hP⟩,T⟩
     rw[hz,hx] at hy
     subst hy
     rcases hP with ⟨hc, -⟩|⟨-,T',rfl, -, -⟩
     ·cases hc
     ·exact⟨_,true, .nilIface,rfl,⟨T',rfl,rfl,rfl⟩,T⟩
    ·rintro e Y ⟨h1,y,er,rfl,⟨T',rfl,rfl,rfl⟩,T⟩
     exact⟨_,_,_,rfl,⟨T',rfl,rfl,rfl⟩,rfl,T⟩
   ·rintro e Y ⟨h1,y,er,rfl,⟨T',rfl,rfl,rfl⟩,T⟩
    refine⟨_,_,_,rfl,⟨T', ?_,rfl,rfl⟩,T⟩
    unfold HP.out HP.tab HP.inn HP.less
    simp
  ·rintro e Y ⟨h1,y,er,rfl,⟨T',rfl,rfl,rfl⟩,T⟩
   exact⟨_,_,_,rfl,⟨T',rfl,rfl,rfl⟩,rfl,T⟩
 ·rintro e Y ⟨h1,y,er,rfl,⟨T',rfl,rfl,rfl⟩,T⟩
  refine⟨T',rfl, ?_⟩
  rw[show (h.inn.less.less.less.tab j q T').out=h.less.less.less.less.tab j q T' by unfold HP.out HP.tab HP.inn HP.less;simp] at T
  exact T
theorem ba_inj {s t:ByteArray} (h:s.toList=t.toList):s=t:=by
 rw[Lib.toList_data,Lib.toList_data] at h
 cases s;cases t
 simp only[ByteArray.mk.injEq]
 exact Array.toList_inj.1 h
theorem eql48 (a b:KK) (w:World):(binOp .eql 37 a.agg b.agg).run prog w= .ok (.bool (decide (a=b))) w:=by
 unfold KK.agg
 have ht:prog.underlying 37=some (.struct (prog.fieldsOf 37)):=by kernel_rfl
 rw[run_eql_struct,show (10000:Nat)=9998+1+1 from rfl,run_equalIn_struct _ _ _ _ _ ht (by kernel_rfl)]
 have hf:prog.fieldsOf 37=(match prog.underlying 37 with|some (.struct f)=>f|_=> #[]):=by kernel_rfl
 rw[hf,underlying37]
 simp[Op.eqFields,go_sem,part]
 by_cases h1:a.s.toList=b.s.toList
 ·by_cases h2:a.n=b.n
  ·rw[if_pos h1,if_pos h2,decide_eq_true (KK.ext' (ba_inj h1) h2)]
  ·rw[if_pos h1,if_neg h2,decide_eq_false (fun e:a=b=>h2 (congrArg KK.n e))]
 ·rw[if_neg h1,decide_eq_false (fun e:a=b=>h1 (congrArg (fun z:KK=>z.s.toList) e))]
theorem ex_keq {o:Oper} {a:Act} {w:World} {x y:Operand} (k q:KK) (b:Bool) (ho:o.op= .binOp .eql 37 x y 37) (hx:a.eval x= .agg k.cs.toArray) (hy:a.eval y= .agg q.cs.toArray) (hb:decide (k=q)=b):(execOp a.eval o).run prog w= .ok (.value (.bool b)) w:=by
 have e:=eql48 k q w
 rw[Dj,Dj,hb] at e
 unfold execOp
 simp only[ho,hx,hy]
 simp[eqGuard,e]
theorem lk_hit {l:List (KK×DD)} {k:KK} {i:Nat} {x:KK×DD} (h: ∀(j:Nat) (e:KK×DD),j<i->l[j]? =some e->e.1≠k) (hx:l[i]? =some x) (hk:x.1=k):lkP l k=some x.2:=by
 induction l generalizing i with
 |nil=>simp at hx
 |cons a l ih=>
  cases i with
  |zero=>
   obtain rfl:a=x:=by simpa using hx
   simp[lkP,hk]
  |succ i=>
   have h0:a.1≠k:=h 0 a (by omega) rfl
   have h1:=ih (i:=i) (fun j e hj he=>h (j+1) e (by omega) (by simpa using he)) (by simpa using hx)
   unfold lkP at h1 ⊢
   rw[List.find?_cons_of_neg (by simpa using h0)]
   exact h1
theorem lk_miss {l:List (KK×DD)} {k:KK} (h: ∀(j:Nat) (e:KK×DD),l[j]? =some e->e.1≠k):lkP l k=none:=by
 unfold lkP
 rw[List.find?_eq_none.2 (fun e he=>by
  obtain⟨j,hj⟩:=List.getElem?_of_mem he
  simpa using h j e hj)]
 rfl
theorem lies_h (s:PO) (A:Option Addr) (c:Nat) (k:KK) (w:World) (hz:s.ps.length<=1000000) (hR:ReadsP w A s.ps):Calls prog 53 #[.agg (shC s (.slice A s.ps.length c)).toArray,k.agg] w fun e w'=>e= .returned (((lkP s.ps k).getD zeroD).agg)/\Below w.heap.size w w':=by
 have SS:=Ab (Sy.nil w [])
 rw[Dj]
 go_enter func53,ntmps53
 go_wp2_with (first|go_skip|((with_reducible show wpList ..);first|((with_reducible show wpList _ _ _ (Oper.mk _ (Op.box _ _) _ _ _ _::_) _ _);(refine zB 85 (shC s (.slice A s.ps.length c)) (by rfl) rfl rfl rfl SS ?_;clear SS;intro Xa Ba SS;simp only[nn]))|((with_reducible show wpList _ _ _ (Oper.mk _ (Op.box _ _) _ _ _ _::_) _ _);(refine zB 37 (k.cs) (by rfl) rfl rfl rfl SS ?_;clear SS;intro Xb Bb SS;simp only[nn]))|((with_reducible show wpList _ _ _ (Oper.mk _ (Op.alloc _) _ _ _ _::_) _ _);(refine zA 43 (zeroD.cs) (by rfl) rfl SS ?_;clear SS;intro Xc Bc SS;simp only[nn]))))
 go_loopg [5] s.ps.length (fun gm s5 wr=> ∃i:Nat,s5= .int .i64 (i:Nat)/\i<=s.ps.length/\s.ps.length - i<=gm/\Hid (∀(j:Nat) (e:KK×DD),j<i->s.ps[j]? =some e->e.1≠k)/\Hid (Sy w wr [] [Aq Ba (shC s (.slice A s.ps.length c)),Aq Bb k.cs,Aq Bc zeroD.cs]))
 case atStart=>exact⟨0,rfl,by omega,by omega,Ab (fun j e hj=>by omega),SS⟩
 case round=>
  clear SS
  obtain⟨i,rfl,hil,hgm,HJ,SS⟩:=hrel
  by_cases hlt:i<s.ps.length
  ·obtain⟨x,hx⟩: ∃x,s.ps[i]? =some x:=⟨_,List.getElem?_eq_getElem hlt⟩
   obtain⟨b1,o1,rfl,hb1,hr1⟩:=hR i x hx
   have HR1: ∀X,Sy w X [] [Aq Ba (shC s (.slice (some ⟨b1,o1,none⟩) s.ps.length c)),Aq Bb k.cs,Aq Bc zeroD.cs]->X.rangeAt b1 (o1+i * 20) (x.1.cs++x.2.cs):=fun X hX=>Dn hr1 hb1 hX.fr.below
   have dlt:decide ((i:Int)<(s.ps.length:Int))=true:=decide_eq_true (by omega)
   have hw1:IntKind.i64.wrap ((i:Int)+1)=(i:Int)+1:=by rw[IntKind.wrap_i64];omega
   have HX:=Ab hx
   have HLT:=Ab hlt
   clear hx hlt hr1
   by_cases hke:x.1=k
   ·have dK:decide (x.1=k)=true:=decide_eq_true hke
    go_wp2_with (first|go_skip|((with_reducible show wpList ..);first|((with_reducible show wpList _ _ _ (Oper.mk _ (Op.load _ _) _ _ _ _::_) _ _);(refine rd rfl (Ad 49 isAgg49 rfl rfl ((Aa SS).hold 0 rfl) rfl) ?_))|((with_reducible show wpList _ _ _ (Oper.mk _ (Op.call _) _ _ _ _::_) _ _);(refine rd rfl (Bm 49 80 underlying49 rfl rfl) ?_))))
    have hS4:Sy w _ [] [Aq Ba (shC s (.slice (some ⟨b1,o1,none⟩) s.ps.length c)),Aq Bb k.cs,Aq Bc zeroD.cs]:=(Aa SS).drew
    clear SS
    refine wp_region_held_drew (P:=prog) (S:=fun X=>Sy w X [] _) (by kernel_rfl) (hS4) (fun hS0=> ?_)
    refine gp 0 (some 13) (.pointer (some ⟨Ba,7,none⟩)) rfl rfl (hS4) ?_
    refine gq 1 (some 14) (.slice (some ⟨b1,o1,none⟩) s.ps.length c) rfl rfl (fun X hX=>Ad 49 isAgg49 rfl rfl (hX.hold 0 rfl) rfl) (hS4) ?_
    refine gp 2 (some 15) (.int .i64 (i:Nat)) rfl rfl (hS4) ?_
    refine gq 3 (some 16) (.pointer (some ⟨b1,o1+i * 20,none⟩)) rfl rfl (fun X hX=>Ax 49 20 i Qu Qw rfl rfl rfl (Aa HLT)) (hS4) ?_
    refine gp 4 (some 17) (.pointer (some ⟨b1,o1+i * 20,none⟩)) rfl rfl (hS4) ?_
    refine gq 5 (some 18) (.agg x.1.cs.toArray) rfl rfl (fun X hX=>Bp (vs:=x.1.cs) 37 2 rwK szK rfl rfl (Ku (HR1 _ hX)) rfl) (hS4) ?_
    refine gq 6 (some 19) (.agg k.cs.toArray) rfl rfl (fun X hX=>Af (vs:=k.cs) 37 2 rwK szK rfl rfl (hX.hold 1 rfl) rfl rfl) (hS4) ?_
    refine gq 7 (some 20) (.bool true) rfl rfl (fun X hX=>ex_keq x.1 k _ rfl rfl rfl dK) (hS4) ?_
    refine dn ?_
    try simp only[nn]
    have SS:=Ab hS4
    go_wp2_with (first|go_skip|((with_reducible show wpList ..);first|((with_reducible show wpList _ _ _ (Oper.mk _ (Op.load _ _) _ _ _ _::_) _ _);(refine rd rfl (Ad 49 isAgg49 rfl rfl ((Aa SS).hold 0 rfl) rfl) ?_))|((with_reducible show wpList _ _ _ (Oper.mk _ (Op.indexAddr _ _ _) _ _ _ _::_) _ _);(refine rd rfl (Ax 49 20 i Qu Qw rfl rfl rfl (Aa HLT)) ?_))|((with_reducible show wpList _ _ _ (Oper.mk _ (Op.load _ _) _ _ _ _::_) _ _);(refine rd rfl (Bp (vs:=x.2.cs) 43 18 rwD szD rfl rfl (Ms (HR1 _ (Aa SS))) rfl) ?_))|((with_reducible show wpList _ _ _ (Oper.mk _ (Op.store _ _ _) _ _ _ _::_) _ _);(refine zS (x.2.cs) 2 43 (by rfl) rfl rfl rfl rfl (Dz _) szD SS rfl ?_;clear SS;intro Xz SS;simp only[nn]))))
    refine Kz rwD szD rfl rfl rfl ((Aa SS).hold 2 rfl) rfl ?_
    rw[lk_hit (Aa HJ) (Aa HX) hke]
    exact⟨rfl,(Aa SS).fr.below⟩
   ·have dK:decide (x.1=k)=false:=decide_eq_false hke
    go_wp2_with (first|go_skip|((with_reducible show wpList ..);first|((with_reducible show wpList _ _ _ (Oper.mk _ (Op.load _ _) _ _ _ _::_) _ _);(refine rd rfl (Ad 49 isAgg49 rfl rfl ((Aa SS).hold 0 rfl) rfl) ?_))|((with_reducible show wpList _ _ _ (Oper.mk _ (Op.call _) _ _ _ _::_) _ _);(refine rd rfl (Bm 49 80 underlying49 rfl rfl) ?_))))
    have hS4:Sy w _ [] [Aq Ba (shC s (.slice (some ⟨b1,o1,none⟩) s.ps.length c)),Aq Bb k.cs,Aq Bc zeroD.cs]:=(Aa SS).drew
    clear SS
    refine wp_region_held_drew (P:=prog) (S:=fun X=>Sy w X [] _) (by kernel_rfl) (hS4) (fun hS0=> ?_)
    refine gp 0 (some 13) (.pointer (some ⟨Ba,7,none⟩)) rfl rfl (hS4) ?_
    refine gq 1 (some 14) (.slice (some ⟨b1,o1,none⟩) s.ps.length c) rfl rfl (fun X hX=>Ad 49 isAgg49 rfl rfl (hX.hold 0 rfl) rfl) (hS4) ?_
    refine gp 2 (some 15) (.int .i64 (i:Nat)) rfl rfl (hS4) ?_
    refine gq 3 (some 16) (.pointer (some ⟨b1,o1+i * 20,none⟩)) rfl rfl (fun X hX=>Ax 49 20 i Qu Qw rfl rfl rfl (Aa HLT)) (hS4) ?_
    refine gp 4 (some 17) (.pointer (some ⟨b1,o1+i * 20,none⟩)) rfl rfl (hS4) ?_
    refine gq 5 (some 18) (.agg x.1.cs.toArray) rfl rfl (fun X hX=>Bp (vs:=x.1.cs) 37 2 rwK szK rfl rfl (Ku (HR1 _ hX)) rfl) (hS4) ?_
    refine gq 6 (some 19) (.agg k.cs.toArray) rfl rfl (fun X hX=>Af (vs:=k.cs) 37 2 rwK szK rfl rfl (hX.hold 1 rfl) rfl rfl) (hS4) ?_
    refine gq 7 (some 20) (.bool false) rfl rfl (fun X hX=>ex_keq x.1 k _ rfl rfl rfl dK) (hS4) ?_
    refine dn ?_
    try simp only[nn]
    have SS:=Ab hS4
    go_wp2
    go_roundg (s.ps.length - (i+1))
    case measure=>omega
    case rel=>exact⟨i+1,by go_num,by have:=Aa HLT;omega,by omega,Ab (fun j e hj he=>by
     rcases Nat.lt_or_ge j i with h1|h1
     ·exact Aa HJ j e h1 he
     ·obtain rfl:j=i:=by omega
      rw[Aa HX] at he
      cases he
      exact hke),SS⟩
  ·obtain rfl:i=s.ps.length:=by omega
   go_wp2_with (first|go_skip|((with_reducible show wpList ..);first|((with_reducible show wpList _ _ _ (Oper.mk _ (Op.load _ _) _ _ _ _::_) _ _);(refine rd rfl (Ad 49 isAgg49 rfl rfl ((Aa SS).hold 0 rfl) rfl) ?_))|((with_reducible show wpList _ _ _ (Oper.mk _ (Op.call _) _ _ _ _::_) _ _);(refine rd rfl (Bm 49 80 underlying49 rfl rfl) ?_))|(refine rd rfl (Vl rfl) ?_)|((with_reducible show wpList _ _ _ (Oper.mk _ (Op.store _ _ _) _ _ _ _::_) _ _);(refine zS (zeroD.cs) 2 43 (by rfl) rfl rfl rfl rfl (Dz _) szD SS rfl ?_;clear SS;intro Xz SS;simp only[nn]))))
   refine Kz rwD szD rfl rfl rfl ((Aa SS).hold 2 rfl) rfl ?_
   rw[lk_miss (fun j e he=>Aa HJ j e (List.getElem?_eq_some_iff.1 he).1 he)]
   exact⟨rfl,(Aa SS).fr.below⟩
structure ShOk (s:PO):Prop where
 n: ∃n,WhP n s.ps
 fd: ∀e∈s.ps,FD e.2
 px:s.p.x<2^64
 z:s.ps.length<=1000000
theorem fd_zero:FD zeroD:=by unfold FD;decide
theorem fd_lk {l:List (KK×DD)} (h: ∀e∈l,FD e.2) (k:KK):FD ((lkP l k).getD zeroD):=by
 cases hl:lkP l k with
 |none=>exact fd_zero
 |some d=>exact h _ (Zce hl)
theorem lk_get {n:Nat} {l:List (KK×DD)} (h:WhP n l) {i:Nat} {e:KK×DD} (he:l[i]? =some e):lkP l e.1=some e.2:=by
 refine lk_hit (i:=i) (fun j e2 hj h2 h3=> ?_) he rfl
 have hlt:=(List.getElem?_eq_some_iff.1 he).1
 have a1:(l.map Prod.fst)[j]? =some e.1:=by rw[List.getElem?_map,h2,Option.map_some,h3]
 have a2:(l.map Prod.fst)[i]? =some e.1:=by rw[List.getElem?_map,he];rfl
 have hj2:j<(l.map Prod.fst).length:=by rw[List.length_map];omega
 have:=(List.getElem?_inj hj2 h.nd).1 (a1.trans a2.symm)
 omega
theorem Zeh {a b:DD} (h:keepB a b=true):Zfk a b=0:=by
 unfold keepB at h
 unfold Zfk
 split at h
 ·cases h
 ·rename_i h1
  rw[if_neg h1]
def LtC (w:World) (C1 C2:List Value) (s6 s7:Value) (wq:World):Prop:= ∃B6 B7:Nat,s6= .pointer (some ⟨B6,0,none⟩)/\s7= .pointer (some ⟨B7,0,none⟩)/\Hid (Sy w wq [] [Aq B6 C1,Aq B7 C2])
theorem LtC.mk {w:World} {C1 C2:List Value} {s6 s7:Value} {wq:World} (B6 B7:Nat) (e1:s6= .pointer (some ⟨B6,0,none⟩)) (e2:s7= .pointer (some ⟨B7,0,none⟩)) (S:Hid (Sy w wq [] [Aq B6 C1,Aq B7 C2])):LtC w C1 C2 s6 s7 wq:=⟨B6,B7,e1,e2,S⟩
theorem later_h (a b:List PO) (A1 A2:Option Addr) (c1 c2:Nat) (w:World) (hT:Lib.Utf8Tabs 1 2 w) (hL:LtH a b) (hza:a.length<=1000000) (hzb:b.length<=1000000) (ha: ∀s∈a,ShOk s) (hb: ∀s∈b,ShOk s) (hR1:Yx w A1 a) (hR2:Yx w A2 b):Calls prog 23 #[.slice A1 a.length c1, .slice A2 b.length c2] w fun e w'=>e= .returned (.bool true)/\Below w.heap.size w w':=by
 have SS:=Ab (Sy.nil w [])
 have hlen:=hL.len
 have dl:decide (b.length<a.length)=false:=decide_eq_false (by omega)
 clear hlen
 go_enter func23,ntmps23
 go_wp2_with (first|go_skip|((with_reducible show wpList ..);((with_reducible show wpList _ _ _ (Oper.mk _ (Op.call _) _ _ _ _::_) _ _);(refine rd rfl (Bm 61 85 underlying61 rfl rfl) ?_))))
 go_loopg [5] a.length (fun gm s5 wr=> ∃i:Nat,s5= .int .i64 (i:Nat)/\i<=a.length/\a.length - i<=gm/\Hid (Sy w wr [] []))
 case atStart=>exact⟨0,rfl,by omega,by omega,SS⟩
 case round=>
  clear SS
  obtain⟨i,rfl,hil,hgm,SS⟩:=hrel
  by_cases hlt:i<a.length
  ·obtain⟨q,hq⟩: ∃q,a[i]? =some q:=⟨_,List.getElem?_eq_getElem hlt⟩
   obtain⟨r,hr,hLO⟩:=hL i q hq
   obtain⟨b1,o1,Q,qc,rfl,hb1,hr1,hp1⟩:=hR1 i q hq
   obtain⟨b2,o2,U,uc,rfl,hb2,hr2,hp2⟩:=hR2 i r hr
   have hlt2:i<b.length:=(List.getElem?_eq_some_iff.1 hr).1
   obtain⟨⟨nq,hwq⟩,hf1, -,hz1⟩:=ha q (List.mem_of_getElem? hq)
   obtain⟨-,hf2, -,hz2⟩:=hb r (List.mem_of_getElem? hr)
   obtain⟨c,p,x,ps⟩:=q
   obtain⟨c2q,p2,x2,ps2⟩:=r
   obtain⟨hc,hx,hk⟩:=hLO
   dsimp only at hc hx hk hwq hf1 hf2 hz1 hz2 hp1 hp2 hr1 hr2
   have hc2:c=c2q:=hc.symm
   clear hc
   subst hc2
   have HA1: ∀X,Sy w X [] []->X.rangeAt b1 (o1+i * 8) (shC ⟨c,p,x,ps⟩ (.slice Q ps.length qc)):=fun X hX=>Dn hr1 hb1 hX.fr.below
   have HA2: ∀X,Sy w X [] []->X.rangeAt b2 (o2+i * 8) (shC ⟨c,p2,x2,ps2⟩ (.slice U ps2.length uc)):=fun X hX=>Dn hr2 hb2 hX.fr.below
   clear hr1 hr2
   have dlt:decide ((i:Int)<(a.length:Int))=true:=decide_eq_true (by omega)
   have hw1:IntKind.i64.wrap ((i:Int)+1)=(i:Int)+1:=by rw[IntKind.wrap_i64];omega
   go_upto_region 6 with (first|go_skip|((with_reducible show wpList ..);first|((with_reducible show wpList _ _ _ (Oper.mk _ (Op.call _) _ _ _ _::_) _ _);(refine rd rfl (Bm 61 85 underlying61 rfl rfl) ?_))))
   go_cut [6,7] from 17 to 105 (fun s6 s7 wq=>LtC w (shC ⟨c,p,x,ps⟩ (.slice Q ps.length qc)) (shC ⟨c,p2,x2,ps2⟩ (.slice U ps2.length uc)) s6 s7 wq)
   case first=>
    have hS6:Sy w _ [] []:=(Aa SS).drew
    clear SS
    have cu: ∀{X:World} {M:List Ob},Sy w X [] ([]++M)->Sy w X [] []:=fun h=>Sy.left h
    refine wp_region_held_drew (P:=prog) (S:=fun X=>Sy w X [] _) (by kernel_rfl) (hS6) (fun hS0=> ?_)
    refine gp 0 (some 23) (.slice (some ⟨b1,o1,none⟩) a.length c1) rfl rfl (hS6) ?_
    refine gp 1 (some 24) (.int .i64 (i:Nat)) rfl rfl (hS6) ?_
    refine gq 2 (some 25) (.pointer (some ⟨b1,o1+i * 8,none⟩)) rfl rfl (fun X hX=>Ax 61 8 i unSs idSs rfl rfl rfl hlt) (hS6) ?_
    refine gq 3 (some 26) (.agg (shC ⟨c,p,x,ps⟩ (.slice Q ps.length qc)).toArray) rfl rfl (fun X hX=>Bp (vs:=shC ⟨c,p,x,ps⟩ (.slice Q ps.length qc)) 85 8 rwS szS rfl rfl (HA1 _ hX) rfl) (hS6) ?_
    refine gp 4 (some 27) (.slice (some ⟨b2,o2,none⟩) b.length c2) rfl rfl (hS6) ?_
    refine gp 5 (some 28) (.int .i64 (i:Nat)) rfl rfl (hS6) ?_
    refine gq 6 (some 29) (.pointer (some ⟨b2,o2+i * 8,none⟩)) rfl rfl (fun X hX=>Ax 61 8 i unSs idSs rfl rfl rfl hlt2) (hS6) ?_
    refine gq 7 (some 30) (.agg (shC ⟨c,p2,x2,ps2⟩ (.slice U ps2.length uc)).toArray) rfl rfl (fun X hX=>Bp (vs:=shC ⟨c,p2,x2,ps2⟩ (.slice U ps2.length uc)) 85 8 rwS szS rfl rfl (HA2 _ hX) rfl) (hS6) ?_
    refine gr (rs:= [8,9]) (Oj (v:= .agg (shC Es (.slice none 0 0)).toArray) 8 (some 6) 85 (shC Es (.slice none 0 0)) rfl rfl (by kernel_rfl) rfl (fun w=>by kernel_rfl) rfl (Nat.succ_pos _) hS6 (fun _ hZ=>cu hZ) ?_ (Oj (v:= .agg (shC Es (.slice none 0 0)).toArray) 9 (some 7) 85 (shC Es (.slice none 0 0)) rfl rfl (by kernel_rfl) rfl (fun w=>by kernel_rfl) rfl (Nat.succ_pos _) hS6 (fun _ hZ=>cu hZ) ?_ gn))
    ·intro Yt1 Bt1 hEt1 hqt1
     clear hEt1
     simp only[nn]
     refine gr (rs:= [9]) (Oj (v:= .agg (shC Es (.slice none 0 0)).toArray) 9 (some 7) 85 (shC Es (.slice none 0 0)) rfl rfl (by kernel_rfl) rfl (fun w=>by kernel_rfl) rfl (Nat.succ_pos _) hqt1 (fun _ hZ=>cu hZ) ?_ gn)
     intro Yt2 Bt2 hEt2 hqt2
     clear hEt2
     simp only[nn]
     refine gr (rs:= [10]) (Nh (vs:=shC ⟨c,p,x,ps⟩ (.slice Q ps.length qc)) (new:=shC ⟨c,p,x,ps⟩ (.slice Q ps.length qc)) 10 0 85 rfl rfl (by kernel_rfl) rfl rfl rfl rfl (Qk _ _ _ _) szS hqt2 rfl (by simp[Bo,shC,Es,VV.cs,KK.cs,DD.cs,OB.cs,hcs,zeroD,Av]) (by simp[Bo,shC,Es,VV.cs,KK.cs,DD.cs,OB.cs,hcs,zeroD,Av]) (fun _ hZ=>cu hZ) ?_ gn)
     intro Yt3 hqt3
     simp only[nn]
     refine gr (rs:= [11]) (Nh (vs:=shC ⟨c,p2,x2,ps2⟩ (.slice U ps2.length uc)) (new:=shC ⟨c,p2,x2,ps2⟩ (.slice U ps2.length uc)) 11 1 85 rfl rfl (by kernel_rfl) rfl rfl rfl rfl (Qk _ _ _ _) szS hqt3 rfl (by simp[Bo,shC,Es,VV.cs,KK.cs,DD.cs,OB.cs,hcs,zeroD,Av]) (by simp[Bo,shC,Es,VV.cs,KK.cs,DD.cs,OB.cs,hcs,zeroD,Av]) (fun _ hZ=>cu hZ) ?_ gn)
     intro Yt4 hqt4
     refine dn ?_
     try simp only[nn]
     have SS:=Ab hqt4
     clear hqt4
     go_wp2_with fail
     go_meet
     case rel=>exact LtC.mk Bt1 Bt2 rfl rfl SS
    ·intro Yt5 Bt5 hEt5 hqt5
     clear hEt5
     simp only[nn]
     refine gr (rs:= [8]) (Oj (v:= .agg (shC Es (.slice none 0 0)).toArray) 8 (some 6) 85 (shC Es (.slice none 0 0)) rfl rfl (by kernel_rfl) rfl (fun w=>by kernel_rfl) rfl (Nat.succ_pos _) hqt5 (fun _ hZ=>cu hZ) ?_ gn)
     intro Yt6 Bt6 hEt6 hqt6
     clear hEt6
     simp only[nn]
     refine gr (rs:= [10]) (Nh (vs:=shC ⟨c,p,x,ps⟩ (.slice Q ps.length qc)) (new:=shC ⟨c,p,x,ps⟩ (.slice Q ps.length qc)) 10 1 85 rfl rfl (by kernel_rfl) rfl rfl rfl rfl (Qk _ _ _ _) szS hqt6 rfl (by simp[Bo,shC,Es,VV.cs,KK.cs,DD.cs,OB.cs,hcs,zeroD,Av]) (by simp[Bo,shC,Es,VV.cs,KK.cs,DD.cs,OB.cs,hcs,zeroD,Av]) (fun _ hZ=>cu hZ) ?_ gn)
     intro Yt7 hqt7
     simp only[nn]
     refine gr (rs:= [11]) (Nh (vs:=shC ⟨c,p2,x2,ps2⟩ (.slice U ps2.length uc)) (new:=shC ⟨c,p2,x2,ps2⟩ (.slice U ps2.length uc)) 11 0 85 rfl rfl (by kernel_rfl) rfl rfl rfl rfl (Qk _ _ _ _) szS hqt7 rfl (by simp[Bo,shC,Es,VV.cs,KK.cs,DD.cs,OB.cs,hcs,zeroD,Av]) (by simp[Bo,shC,Es,VV.cs,KK.cs,DD.cs,OB.cs,hcs,zeroD,Av]) (fun _ hZ=>cu hZ) ?_ gn)
     intro Yt8 hqt8
     refine dn ?_
     try simp only[nn]
     have SS:=Ab hqt8
     clear hqt8
     go_wp2_with fail
     go_meet
     case rel=>exact LtC.mk Bt6 Bt5 rfl rfl (Ab ((Aa SS).perm (List.Perm.swap _ _ _)))
   case rest=>
    clear SS
    obtain⟨B6,B7,rfl,rfl,SS⟩:=hcut
    have HLT:=Ab hlt
    clear hlt hil hlt2
    go_upto_region 7 with fail
    go_cut [52] from 17 to 105 (fun s52 wq=>s52= .bool false/\Hid (Sy w wq [] [Aq B6 (shC ⟨c,p,x,ps⟩ (.slice Q ps.length qc)),Aq B7 (shC ⟨c,p2,x2,ps2⟩ (.slice U ps2.length uc))]))
    case first=>
     cases x
     ·obtain⟨h8,h9,hkey⟩:=hx rfl
      subst h8
      have h10:=h9.symm
      clear h9
      subst h10
      have HC:=fun (w:World)=>Ru p p w
      simp only[Py,Bu] at HC
      go_wp2_with (first|go_skip|((with_reducible show wpList ..);first|((with_reducible show wpList _ _ _ (Oper.mk _ (Op.load _ _) _ _ _ _::_) _ _);(refine rd rfl (Ad 3 isAgg3 rfl rfl ((Aa SS).hold 0 rfl) rfl) ?_))|((with_reducible show wpList _ _ _ (Oper.mk _ (Op.load _ _) _ _ _ _::_) _ _);(refine rd rfl (Ad 3 isAgg3 rfl rfl ((Aa SS).hold 1 rfl) rfl) ?_))|((with_reducible show wpList _ _ _ (Oper.mk _ (Op.load _ _) _ _ _ _::_) _ _);(refine rd rfl (Ad 4 isAgg4 rfl rfl ((Aa SS).hold 0 rfl) rfl) ?_))|((with_reducible show wpList _ _ _ (Oper.mk _ (Op.load _ _) _ _ _ _::_) _ _);(refine rd rfl (Ad 4 isAgg4 rfl rfl ((Aa SS).hold 1 rfl) rfl) ?_))|((with_reducible show wpList _ _ _ (Oper.mk _ (Op.binOp _ _ _ _ _) _ _ _ _::_) _ _);(refine rd rfl (Jb rfl rfl rfl rfl) ?_))|((with_reducible show wpList _ _ _ (Oper.mk _ (Op.load _ _) _ _ _ _::_) _ _);(refine rd rfl (Af (vs:=p.cs) 40 5 rwV szV rfl rfl ((Aa SS).hold 0 rfl) rfl rfl) ?_))|((with_reducible show wpList _ _ _ (Oper.mk _ (Op.load _ _) _ _ _ _::_) _ _);(refine rd rfl (Af (vs:=p.cs) 40 5 rwV szV rfl rfl ((Aa SS).hold 1 rfl) rfl rfl) ?_))))
      refine(HC _).mono ?_
      rintro _ Y1 ⟨rfl,hY1⟩
      replace SS:=Ab ((Aa SS).on hY1)
      clear hY1 HC
      go_wp2
      go_meet
      case rel=>exact⟨rfl,SS⟩
     ·go_wp2_with (first|go_skip|((with_reducible show wpList ..);first|((with_reducible show wpList _ _ _ (Oper.mk _ (Op.load _ _) _ _ _ _::_) _ _);(refine rd rfl (Ad 3 isAgg3 rfl rfl ((Aa SS).hold 0 rfl) rfl) ?_))|((with_reducible show wpList _ _ _ (Oper.mk _ (Op.load _ _) _ _ _ _::_) _ _);(refine rd rfl (Ad 3 isAgg3 rfl rfl ((Aa SS).hold 1 rfl) rfl) ?_))|((with_reducible show wpList _ _ _ (Oper.mk _ (Op.load _ _) _ _ _ _::_) _ _);(refine rd rfl (Ad 4 isAgg4 rfl rfl ((Aa SS).hold 0 rfl) rfl) ?_))|((with_reducible show wpList _ _ _ (Oper.mk _ (Op.binOp _ _ _ _ _) _ _ _ _::_) _ _);(refine rd rfl (Jb rfl rfl rfl rfl) ?_))))
      go_meet
      case rel=>exact⟨rfl,SS⟩
    case rest=>
     clear SS
     obtain⟨h52,SS⟩:=hcut
     subst h52
     go_wp2_with fail
     go_loopg [8] ps.length (fun gm2 s8 wr2=> ∃k:Nat,s8= .int .i64 (k:Nat)/\k<=ps.length/\ps.length - k<=gm2/\Hid (Sy w wr2 [] [Aq B6 (shC ⟨c,p,x,ps⟩ (.slice Q ps.length qc)),Aq B7 (shC ⟨c,p2,x2,ps2⟩ (.slice U ps2.length uc))]))
     case atStart=>exact⟨0,rfl,by omega,by omega,SS⟩
     case round=>
      clear SS
      obtain⟨k,rfl,hkk,hkg,SS⟩:=hrel
      by_cases hlk:k<ps.length
      ·obtain⟨e,he⟩: ∃e,ps[k]? =some e:=⟨_,List.getElem?_eq_getElem hlk⟩
       obtain⟨b3,o3,rfl,hb3,hr3⟩:=hp1 k e he
       have HE: ∀X,Sy w X [] [Aq B6 (shC ⟨c,p,x,ps⟩ (.slice (some ⟨b3,o3,none⟩) ps.length qc)),Aq B7 (shC ⟨c,p2,x2,ps2⟩ (.slice U ps2.length uc))]->X.rangeAt b3 (o3+k * 20) (e.1.cs++e.2.cs):=fun X hX=>Dn hr3 hb3 hX.fr.below
       have dk:decide ((k:Int)<(ps.length:Int))=true:=decide_eq_true (by omega)
       have hw2:IntKind.i64.wrap ((k:Int)+1)=(k:Int)+1:=by rw[IntKind.wrap_i64];omega
       have hkB:keepB e.2 ((lkP ps2 e.1).getD zeroD)=true:=by
        have h9:=(hk e.1).2
        rw[lk_get hwq he] at h9
        exact h9
       have KC: ∀w,Lib.Utf8Tabs 1 2 w->Calls prog 52 #[e.2.agg,((lkP ps2 e.1).getD zeroD).agg] w fun y w'=>y= .returned (.tuple #[.bool true, .int .i64 0])/\Below w.heap.size w w':=fun w hT=>by
        have:=Zgc e.2 ((lkP ps2 e.1).getD zeroD) (hf1 e (List.mem_of_getElem? he)) (fd_lk hf2 e.1) w hT
        rw[hkB,Zeh hkB] at this
        exact this
       have HLK:=Ab hlk
       clear hlk hkk hkB hr3 he
       skip
       go_wp2_with (first|go_skip|((with_reducible show wpList ..);first|((with_reducible show wpList _ _ _ (Oper.mk _ (Op.load _ _) _ _ _ _::_) _ _);(refine rd rfl (Ad 49 isAgg49 rfl rfl ((Aa SS).hold 0 rfl) rfl) ?_))|((with_reducible show wpList _ _ _ (Oper.mk _ (Op.call _) _ _ _ _::_) _ _);(refine rd rfl (Bm 49 80 underlying49 rfl rfl) ?_))))
       have hS12:Sy w _ [] [Aq B6 (shC ⟨c,p,x,ps⟩ (.slice (some ⟨b3,o3,none⟩) ps.length qc)),Aq B7 (shC ⟨c,p2,x2,ps2⟩ (.slice U ps2.length uc))]:=(Aa SS).drew
       clear SS
       refine wp_region_held_drew (P:=prog) (S:=fun X=>Sy w X [] _) (by kernel_rfl) (hS12) (fun hS0=> ?_)
       refine gp 0 (some 61) (.pointer (some ⟨B6,7,none⟩)) rfl rfl (hS12) ?_
       refine gq 1 (some 62) (.slice (some ⟨b3,o3,none⟩) ps.length qc) rfl rfl (fun X hX=>Ad 49 isAgg49 rfl rfl (hX.hold 0 rfl) rfl) (hS12) ?_
       refine gp 2 (some 63) (.int .i64 (k:Nat)) rfl rfl (hS12) ?_
       refine gq 3 (some 64) (.pointer (some ⟨b3,o3+k * 20,none⟩)) rfl rfl (fun X hX=>Ax 49 20 k Qu Qw rfl rfl rfl (Aa HLK)) (hS12) ?_
       refine gp 4 (some 65) (.pointer (some ⟨b3,o3+k * 20+2,none⟩)) rfl rfl (hS12) ?_
       refine gq 5 (some 66) (.agg e.2.cs.toArray) rfl rfl (fun X hX=>Bp (vs:=e.2.cs) 43 18 rwD szD rfl rfl (Ms (HE _ hX)) rfl) (hS12) ?_
       refine gq 6 (some 67) (.agg (shC ⟨c,p2,x2,ps2⟩ (.slice U ps2.length uc)).toArray) rfl rfl (fun X hX=>Af (vs:=shC ⟨c,p2,x2,ps2⟩ (.slice U ps2.length uc)) 85 8 rwS szS rfl rfl (hX.hold 1 rfl) rfl rfl) (hS12) ?_
       refine gp 7 (some 68) (.pointer (some ⟨B6,7,none⟩)) rfl rfl (hS12) ?_
       refine gq 8 (some 69) (.slice (some ⟨b3,o3,none⟩) ps.length qc) rfl rfl (fun X hX=>Ad 49 isAgg49 rfl rfl (hX.hold 0 rfl) rfl) (hS12) ?_
       refine gp 9 (some 70) (.int .i64 (k:Nat)) rfl rfl (hS12) ?_
       refine gq 10 (some 71) (.pointer (some ⟨b3,o3+k * 20,none⟩)) rfl rfl (fun X hX=>Ax 49 20 k Qu Qw rfl rfl rfl (Aa HLK)) (hS12) ?_
       refine gp 11 (some 72) (.pointer (some ⟨b3,o3+k * 20,none⟩)) rfl rfl (hS12) ?_
       refine gq 12 (some 73) (.agg e.1.cs.toArray) rfl rfl (fun X hX=>Bp (vs:=e.1.cs) 37 2 rwK szK rfl rfl (Ku (HE _ hX)) rfl) (hS12) ?_
       refine gr (rs:= [13]) (gcB 13 (some 74) rfl rfl hS12 (lies_h ⟨c,p2,x2,ps2⟩ U uc e.1 _ hz2 (hp2.on hS12.fr.below)) id ?_ gn)
       intro Yu1 hqu1
       simp only[nn]
       refine gr (rs:= [14]) (gcB 14 (some 75) rfl rfl hqu1 (KC _ (Aj hT hqu1.fr.below)) id ?_ gn)
       intro Yu2 hqu2
       refine gp 15 (some 60) (.tuple #[.bool true, .int .i64 0]) rfl rfl (hqu2) ?_
       refine gp 16 (some 76) (.bool true) rfl rfl (hqu2) ?_
       refine gp 17 (some 77) (.int .i64 0) rfl rfl (hqu2) ?_
       refine gp 18 (some 9) (.bool true) rfl rfl (hqu2) ?_
       refine gp 19 (some 10) (.int .i64 0) rfl rfl (hqu2) ?_
       refine dn ?_
       try simp only[nn]
       have SS:=Ab hqu2
       go_wp2
       go_roundg (ps.length - (k+1))
       case measure=>have:=Aa HLK;omega
       case rel=>exact⟨k+1,by go_num,by have:=Aa HLK;omega,by omega,SS⟩
      ·obtain rfl:k=ps.length:=by omega
       clear hkk hkg
       go_wp2_with (first|go_skip|((with_reducible show wpList ..);first|((with_reducible show wpList _ _ _ (Oper.mk _ (Op.load _ _) _ _ _ _::_) _ _);(refine rd rfl (Ad 49 isAgg49 rfl rfl ((Aa SS).hold 0 rfl) rfl) ?_))|((with_reducible show wpList _ _ _ (Oper.mk _ (Op.call _) _ _ _ _::_) _ _);(refine rd rfl (Bm 49 80 underlying49 rfl rfl) ?_))))
       obtain⟨wp,hwp⟩: ∃wp,wp=wr:=⟨_,rfl⟩
       go_loopg [11] ps2.length (fun gm2 s11 wr2=> ∃k:Nat,s11= .int .i64 (k:Nat)/\k<=ps2.length/\ps2.length - k<=gm2/\Hid (Sy w wr2 [] [Aq B6 (shC ⟨c,p,x,ps⟩ (.slice Q ps.length qc)),Aq B7 (shC ⟨c,p2,x2,ps2⟩ (.slice U ps2.length uc))]))
       case atStart=>exact⟨0,rfl,by omega,by omega,SS⟩
       case round=>
        clear SS
        obtain⟨k,rfl,hkk,hkg,SS⟩:=hrel
        by_cases hlk:k<ps2.length
        ·have dk:decide ((k:Int)<(ps2.length:Int))=true:=decide_eq_true (by omega)
         cases x
         ·obtain⟨h8,h9,hkey⟩:=hx rfl
          subst h8
          have h10:=h9.symm
          clear h9
          subst h10
          obtain⟨e,he⟩: ∃e,ps2[k]? =some e:=⟨_,List.getElem?_eq_getElem hlk⟩
          obtain⟨b4,o4,rfl,hb4,hr4⟩:=hp2 k e he
          have HE: ∀X,Sy w X [] [Aq B6 (shC ⟨c,p,false,ps⟩ (.slice Q ps.length qc)),Aq B7 (shC ⟨c,p,false,ps2⟩ (.slice (some ⟨b4,o4,none⟩) ps2.length uc))]->X.rangeAt b4 (o4+k * 20) (e.1.cs++e.2.cs):=fun X hX=>Dn hr4 hb4 hX.fr.below
          have hw2:IntKind.i64.wrap ((k:Int)+1)=(k:Int)+1:=by rw[IntKind.wrap_i64];omega
          have hh:=hkey e.1 (List.any_eq_true.2 ⟨e,List.mem_of_getElem? he,by simp⟩)
          rw[←Yc] at hh
          obtain⟨d,hd⟩:=Option.isSome_iff_exists.1 hh
          have hwd:wholeV ((lkP ps e.1).getD zeroD)=true:=by rw[hd];exact(hwq.e _ (Zce hd)).1
          have KC: ∀w,Lib.Utf8Tabs 1 2 w->Calls prog 54 #[((lkP ps e.1).getD zeroD).agg] w fun y w'=>y= .returned (.bool true)/\Below w.heap.size w w':=fun w hT=>by
           have:=Xn ((lkP ps e.1).getD zeroD) (fd_lk hf1 e.1) w hT
           rw[hwd] at this
           exact this
          have HLK:=Ab hlk
          clear hlk hkk hh hd hwd hr4 he
          go_wp2_with (first|go_skip|((with_reducible show wpList ..);first|((with_reducible show wpList _ _ _ (Oper.mk _ (Op.load _ _) _ _ _ _::_) _ _);(refine rd rfl (Ad 49 isAgg49 rfl rfl ((Aa SS).hold 1 rfl) rfl) ?_))|((with_reducible show wpList _ _ _ (Oper.mk _ (Op.call _) _ _ _ _::_) _ _);(refine rd rfl (Bm 49 80 underlying49 rfl rfl) ?_))|((with_reducible show wpList _ _ _ (Oper.mk _ (Op.load _ _) _ _ _ _::_) _ _);(refine rd rfl (Ad 4 isAgg4 rfl rfl ((Aa SS).hold 0 rfl) rfl) ?_))))
          have hS18:Sy w _ [] [Aq B6 (shC ⟨c,p,false,ps⟩ (.slice Q ps.length qc)),Aq B7 (shC ⟨c,p,false,ps2⟩ (.slice (some ⟨b4,o4,none⟩) ps2.length uc))]:=(Aa SS).drew
          clear SS
          refine wp_region_held_drew (P:=prog) (S:=fun X=>Sy w X [] _) (by kernel_rfl) (hS18) (fun hS0=> ?_)
          refine gq 0 (some 96) (.agg (shC ⟨c,p,false,ps⟩ (.slice Q ps.length qc)).toArray) rfl rfl (fun X hX=>Af (vs:=shC ⟨c,p,false,ps⟩ (.slice Q ps.length qc)) 85 8 rwS szS rfl rfl (hX.hold 0 rfl) rfl rfl) (hS18) ?_
          refine gp 1 (some 97) (.pointer (some ⟨B7,7,none⟩)) rfl rfl (hS18) ?_
          refine gq 2 (some 98) (.slice (some ⟨b4,o4,none⟩) ps2.length uc) rfl rfl (fun X hX=>Ad 49 isAgg49 rfl rfl (hX.hold 1 rfl) rfl) (hS18) ?_
          refine gp 3 (some 99) (.int .i64 (k:Nat)) rfl rfl (hS18) ?_
          refine gq 4 (some 100) (.pointer (some ⟨b4,o4+k * 20,none⟩)) rfl rfl (fun X hX=>Ax 49 20 k Qu Qw rfl rfl rfl (Aa HLK)) (hS18) ?_
          refine gp 5 (some 101) (.pointer (some ⟨b4,o4+k * 20,none⟩)) rfl rfl (hS18) ?_
          refine gq 6 (some 102) (.agg e.1.cs.toArray) rfl rfl (fun X hX=>Bp (vs:=e.1.cs) 37 2 rwK szK rfl rfl (Ku (HE _ hX)) rfl) (hS18) ?_
          refine gr (rs:= [7]) (gcB 7 (some 103) rfl rfl hS18 (lies_h ⟨c,p,false,ps⟩ Q qc e.1 _ hz1 (hp1.on hS18.fr.below)) id ?_ gn)
          intro Yv1 hqv1
          simp only[nn]
          refine gr (rs:= [8]) (gcB 8 (some 104) rfl rfl hqv1 (KC _ (Aj hT hqv1.fr.below)) id ?_ gn)
          intro Yv2 hqv2
          refine gp 9 (some 105) (.bool false) rfl rfl (hqv2) ?_
          refine dn ?_
          try simp only[nn]
          have SS:=Ab hqv2
          go_wp2
          go_roundg (ps2.length - (k+1))
          case measure=>have:=Aa HLK;omega
          case rel=>exact⟨k+1,by go_num,by have:=Aa HLK;omega,by omega,SS⟩
         ·go_wp2_with (first|go_skip|((with_reducible show wpList ..);first|((with_reducible show wpList _ _ _ (Oper.mk _ (Op.load _ _) _ _ _ _::_) _ _);(refine rd rfl (Ad 49 isAgg49 rfl rfl ((Aa SS).hold 1 rfl) rfl) ?_))|((with_reducible show wpList _ _ _ (Oper.mk _ (Op.call _) _ _ _ _::_) _ _);(refine rd rfl (Bm 49 80 underlying49 rfl rfl) ?_))|((with_reducible show wpList _ _ _ (Oper.mk _ (Op.load _ _) _ _ _ _::_) _ _);(refine rd rfl (Ad 4 isAgg4 rfl rfl ((Aa SS).hold 0 rfl) rfl) ?_))))
          go_roundg (a.length - (i+1))
          case measure=>have:=Aa HLT;omega
          case rel=>exact⟨i+1,by go_num,by have:=Aa HLT;omega,by omega,Ab (Sy.left (L:= []) (M:= [_,_]) (Aa SS))⟩
        ·have dk:decide ((k:Int)<(ps2.length:Int))=false:=decide_eq_false (by omega)
         go_wp2_with (first|go_skip|((with_reducible show wpList ..);first|((with_reducible show wpList _ _ _ (Oper.mk _ (Op.load _ _) _ _ _ _::_) _ _);(refine rd rfl (Ad 49 isAgg49 rfl rfl ((Aa SS).hold 1 rfl) rfl) ?_))|((with_reducible show wpList _ _ _ (Oper.mk _ (Op.call _) _ _ _ _::_) _ _);(refine rd rfl (Bm 49 80 underlying49 rfl rfl) ?_))))
         go_roundg (a.length - (i+1))
         case measure=>have:=Aa HLT;omega
         case rel=>exact⟨i+1,by go_num,by have:=Aa HLT;omega,by omega,Ab (Sy.left (L:= []) (M:= [_,_]) (Aa SS))⟩
  ·obtain rfl:i=a.length:=by omega
   go_wp2_with (first|go_skip|((with_reducible show wpList ..);((with_reducible show wpList _ _ _ (Oper.mk _ (Op.call _) _ _ _ _::_) _ _);(refine rd rfl (Bm 61 85 underlying61 rfl rfl) ?_))))
   go_ret
   exact⟨rfl,(Aa SS).fr.below⟩
end
section
open Go Go.Proofs Go.Maps Go.RowKit FM Tryz
theorem Hq.change {w X Y:World} {E:List Nat} {g:Nat} {cs cs':List Value} {L:List (Nat×List Value)} (h:Hq w X E ((g,cs)::L)) (hf:Fr X Y [g]) (hh:Holds Y g cs') (hc:0<cs'.length) (hg:w.heap.size<=g):Hq w Y E ((g,cs')::L):=by
 have hnd:=h.nd
 simp only[List.map_cons,List.nodup_cons] at hnd
 refine⟨h.fr.trans hf (fun b hb=> .inr (by obtain rfl:b=g:=(by simpa using hb);exact hg)),fun q hq=> ?_,by simpa using hnd⟩
 rcases List.mem_cons.1 hq with rfl|hq
 ·exact⟨hh,hc⟩
 ·have h1:=h.all q (List.mem_cons_of_mem _ hq)
  have hne:q.1≠g:=fun e=>hnd.1 (e▸List.mem_map_of_mem hq)
  exact⟨h1.1.far (h1.1.lt h1.2) hf hne,h1.2⟩
def SPost (w:World) (bad:Nat->Bool) (n:Nat) (e:Ending) (w':World):Prop:= ∃r:Int,e= .returned (.int .i64 r)/\FirstBad bad n r/\Below w.heap.size w w'
theorem Zgg (l:List SH):ZbK l (List.replicate l.length 0) 0:=fun j m hj hm=>by
 exfalso
 have:=List.mem_of_getElem? hj
 exact hm (List.eq_of_mem_replicate this)
theorem sound4 (A:Option Addr) (cap:Nat) (l:List SH) (w:World) (hR:ReadsS9 w A l) (hn:l.length<=65536) (hT:Lib.Utf8Tabs 1 2 w) (hgb: ∀j,Yw l j=false) (hc9: ∀s∈l,s.c≠9):Calls prog 21 #[.slice A l.length cap] w (SPost w (Yw l) l.length):=by
 have HGB:=Ab hgb
 have HGL:Hid (∀s∈l,s.c≠9/\(s.p.k=7->obP s.p l.length=true)):=Ab (fun s hs=>⟨hc9 s hs,fun h7=>by
  obtain⟨j,hj⟩:=List.getElem?_of_mem hs
  have h9:=hgb j
  unfold Yw at h9
  rw[hj] at h9
  simp only[Bool.or_eq_false_iff,Bool.not_eq_false'] at h9
  have h8:=h9.1.1.1
  unfold prP at h8
  simpa [h7] using h8⟩)
 clear hgb hc9
 have HR:=Ab hR
 have HN:=Ab hn
 have HT:=Ab hT
 clear hR hn hT
 by_cases h0:l.length=0
 ·have hl:l= []:=List.eq_nil_of_length_eq_zero h0
  subst hl
  go_enter func21,ntmps21
  go_wp2_with fail
  refine(Zav A ([]:List SH).length cap _ (by simp)).mono ?_
  rintro e X1 ⟨g,rfl,hg,hb,hh⟩
  have LL:=Ab ((Hq.nil w []).on hb)
  clear hb hh
  go_wp2_with (first|go_skip|((with_reducible show wpList ..);first|((refine alG 117 ([.slice none 0 0, .slice none 0 0]) (by rfl) rfl (fun w=>by kernel_rfl) (Nat.succ_pos _) (Aa LL) ?_);intro X1 B1 hE1 L1 hb1;have hB1:=Ab (Nat.le_trans (Aa LL).fr.size (Nat.le_of_eq hE1.symm));replace LL:=Ab L1;clear L1 hb1 hE1;simp only[nn])|((refine st (vs:= [.slice A ([]:List SH).length cap, .slice (some ⟨g,0,none⟩) ([]:List SH).length ([]:List SH).length]) 0 117 (by rfl) rfl rfl rfl rfl (by simp[Value.oneCell']) (Mo) (Aa LL) rfl (by simp[Bo,PR.cs,SH.cs,VV.cs,KK.cs,DD.cs]) (Or.inr (Aa hB1)) ?_);intro X4 L4 hf4 hs4;replace LL:=Ab L4;clear L4 hf4 hs4;simp only[nn])|(refine rd rfl (Bm 61 85 underlying61 rfl rfl) ?_)))
  go_loopg [10] 0 (fun gm s10 wr=>s10= .int .i64 0/\Hid (Fr w wr []))
  case atStart=>exact⟨rfl,Ab (Aa LL).fr⟩
  case round=>
   clear LL
   obtain⟨rfl,HF⟩:=hrel
   go_wp2
   go_ret
   exact⟨-1,rfl, .inl ⟨rfl,fun j hj=>absurd hj (Nat.not_lt_zero _)⟩,(Aa HF).below⟩
 ·have HPOS:Hid (0<l.length):=Ab (by omega)
  clear h0
  go_enter func21,ntmps21
  go_wp2_with fail
  refine(Zav A l.length cap _ (by have:=Aa HN;omega)).mono ?_
  rintro e X1 ⟨g,rfl,hg,hb,hh⟩
  have HG:=Ab hg
  have LL:Hid (Hq w X1 [] [(g,mc (List.replicate l.length 0))]):=Ab (((Hq.nil w []).on hb).add hh (by rw[Qm];simp;exact Aa HPOS) (by simp))
  clear hg hb hh
  go_wp2_with (first|go_skip|((with_reducible show wpList ..);first|((refine alG 117 ([.slice none 0 0, .slice none 0 0]) (by rfl) rfl (fun w=>by kernel_rfl) (Nat.succ_pos _) (Aa LL) ?_);intro X1 B1 hE1 L1 hb1;have hB1:=Ab (Nat.le_trans (Aa LL).fr.size (Nat.le_of_eq hE1.symm));replace LL:=Ab L1;clear L1 hb1 hE1;simp only[nn])|((refine st (vs:= [.slice A l.length cap, .slice (some ⟨g,0,none⟩) l.length l.length]) 1 117 (by rfl) rfl rfl rfl rfl (by simp[Value.oneCell']) (Mo) (Aa LL) rfl (by simp[Bo,PR.cs,SH.cs,VV.cs,KK.cs,DD.cs]) (Or.inr (Aa hB1)) ?_);intro X4 L4 hf4 hs4;replace LL:=Ab L4;clear L4 hf4 hs4;simp only[nn])|(refine rd rfl (Bm 61 85 underlying61 rfl rfl) ?_)))
  go_loopg [10] l.length (fun gm s10 wr=> ∃(i:Nat) (met:List Nat),s10= .int .i64 (i:Nat)/\i<=l.length/\l.length - i<=gm/\Hid (∀j,j<i->Yw l j=false)/\Hid (met.length=l.length/\ZbK l met i)/\Hid (Hq w wr [] [(g,mc met),(B1, [.slice A l.length cap, .slice (some ⟨g,0,none⟩) l.length l.length])]))
  case atStart=>exact⟨0,List.replicate l.length 0,rfl,by omega,by omega,Ab (fun j hj=>absurd hj (Nat.not_lt_zero _)),Ab ⟨by simp,Zgg l⟩,LL⟩
  case round=>
   clear LL
   obtain⟨i,met,rfl,hil,hgm,HB,HM,LL⟩:=hrel
   by_cases hlt:i<l.length
   ·have dlt:decide ((i:Int)<(l.length:Int))=true:=decide_eq_true (by omega)
    have hw1:IntKind.i64.wrap ((i:Int)+1)=(i:Int)+1:=by have:=Aa HN;rw[IntKind.wrap_i64];omega
    obtain⟨s,hs⟩: ∃s,l[i]? =some s:=⟨_,List.getElem?_eq_getElem hlt⟩
    obtain⟨hx64,hz,b,off,SA,sc,hA,hb,hps,hrg⟩:=(Aa HR) i s hs
    subst hA
    have HA2:Hid (∀X,Fr w X []->X.rangeAt b (off+i * 8) (s.cs SA sc)):=Ab (fun X hX=>Jv hrg hb hX)
    have HPS:=Ab hps
    have HZ:=Ab hz
    have HLT:=Ab hlt
    have hbad:Yw l i=(!prP s.p l.length|| !tL l i|| !Vr s.ps|| !whV l.length s.ps):=by unfold Yw;rw[hs]
    have hg9:=hbad.symm.trans (Aa HGB i)
    simp only[Bool.or_eq_false_iff,Bool.not_eq_false'] at hg9
    have HP1:=Ab hg9.1.1.1
    have HP3:=Ab hg9.1.2
    have HP4:=Ab hg9.2
    clear hg9
    clear hb hrg hps hz hx64 hs hlt hil
    have HPR:=Ab (fun w hT=>ZdY (some ⟨b,off,none⟩) l.length cap (.slice (some ⟨g,0,none⟩) l.length l.length) s.p w hT (Aa HP1))
    rw[Ul] at HPR
    generalize prP s.p l.length=g1 at *
    cases g1
    ·exact absurd ((Aa HGB i).symm.trans (show Yw l i=true from hbad.trans (by simp))) (by decide)
    ·obtain⟨g2,ht⟩: ∃g2,tL l i=g2:=⟨_,rfl⟩
     rw[ht] at hbad
     cases g2
     ·exact absurd ((Aa HGB i).symm.trans (show Yw l i=true from hbad.trans (by simp))) (by decide)
     ·obtain⟨g3,hd⟩: ∃g3,Vr s.ps=g3:=⟨_,rfl⟩
      rw[hd] at hbad
      cases g3
      ·exact absurd ((Aa HGB i).symm.trans (show Yw l i=true from hbad.trans (by simp))) (by decide)
      ·obtain⟨g4,hwh⟩: ∃g4,whV l.length s.ps=g4:=⟨_,rfl⟩
       rw[hwh] at hbad
       cases g4
       ·exact absurd ((Aa HGB i).symm.trans (show Yw l i=true from hbad.trans (by simp))) (by decide)
       ·have HB2:Hid (∀j,j<i+1->Yw l j=false):=Ab (fun j hj=>by
         rcases Nat.lt_or_ge j i with h|h
         ·exact Aa HB j h
         ·obtain rfl:j=i:=by omega
          exact hbad.trans (by rfl))
        clear hbad HB
        go_wp2_with (first|go_skip|((with_reducible show wpList ..);first|(refine rd rfl (Ax 61 8 i und22 idx22 rfl rfl rfl (Aa HLT)) ?_)|(refine rd rfl (Bp (vs:=s.cs SA sc) 85 8 row28 Zbk rfl rfl (Aa HA2 _ (Aa LL).fr) rfl) ?_)|((refine alG 85 (zeroS.cs none 0) (by rfl) rfl (fun w=>by kernel_rfl) (Nat.succ_pos _) (Aa LL) ?_);intro X5 B5 hE5 L5 hb5;have hB5:=Ab (Nat.le_trans (Aa LL).fr.size (Nat.le_of_eq hE5.symm));replace LL:=Ab L5;clear L5 hb5 hE5;simp only[nn])|((refine st (vs:=s.cs SA sc) 2 85 (by rfl) rfl rfl rfl rfl (Zak s SA sc) (Zbk) (Aa LL) rfl (by simp[Bo,PR.cs,SH.cs,VV.cs,KK.cs,DD.cs]) (Or.inr (Aa hB5)) ?_);intro X6 L6 hf6 hs6;replace LL:=Ab L6;clear L6 hf6 hs6;simp only[nn])|(refine rd rfl (Af (vs:= [.slice (some ⟨b,off,none⟩) l.length cap, .slice (some ⟨g,0,none⟩) l.length l.length]) 117 2 Pg Mo rfl rfl ((Aa LL).get 1 rfl) rfl rfl) ?_)|(refine rd rfl (Af (vs:=s.p.cs) 40 5 Nm Ly rfl rfl ((Aa LL).get 2 rfl) rfl rfl) ?_)))
        refine(Aa HPR _ (Aj (Aa HT) (Aa LL).fr.below)).mono ?_
        rintro e X7 ⟨rfl,hb⟩
        replace LL:=Ab ((Aa LL).on hb)
        clear hb
        go_wp2_with (first|go_skip|((with_reducible show wpList ..);(refine rd rfl (Af (vs:= [.slice (some ⟨b,off,none⟩) l.length cap, .slice (some ⟨g,0,none⟩) l.length l.length]) 117 2 Pg Mo rfl rfl ((Aa LL).get 1 rfl) rfl rfl) ?_)))
        refine(round9 (some ⟨b,off,none⟩) cap l.length g l met i w _ (Aa HR) (Aa LL).fr (Aa HG) (by have:=Aa HN;omega) (Aa HLT) ((Aa LL).get 0 rfl) (Aa HM).1 (Aa HM).2 (Aa HT) (Aa HGL)).mono ?_
        rintro e X8 ⟨met2,rfl,hf8,hh8,hl8,hg8⟩
        replace LL:=Ab (Hq.change (Aa LL) hf8 hh8 (by rw[Qm,hl8];have:=Aa HLT;omega) (Aa HG))
        have HM2:=Ab (And.intro hl8 hg8)
        clear hf8 hh8 hl8 hg8
        rw[ht]
        go_wp2_with (first|go_skip|((with_reducible show wpList ..);(refine rd rfl (Ad 49 isAgg49 rfl rfl ((Aa LL).get 2 rfl) rfl) ?_)))
        refine(Zey SA sc s.ps _ ((Aa HPS).fr (Aa LL).fr) (Aa HZ) (Aj (Aa HT) (Aa LL).fr.below) (Aa HP3)).mono ?_
        rintro e X9 ⟨rfl,hb⟩
        replace LL:=Ab ((Aa LL).on hb)
        clear hb
        rw[hd]
        go_wp2_with (first|go_skip|((with_reducible show wpList ..);first|(refine rd rfl (Af (vs:= [.slice (some ⟨b,off,none⟩) l.length cap, .slice (some ⟨g,0,none⟩) l.length l.length]) 117 2 Pg Mo rfl rfl ((Aa LL).get 1 rfl) rfl rfl) ?_)|(refine rd rfl (Ad 49 isAgg49 rfl rfl ((Aa LL).get 2 rfl) rfl) ?_)))
        refine(whole11 (some ⟨b,off,none⟩) l.length cap (.slice (some ⟨g,0,none⟩) l.length l.length) SA sc s.ps _ ((Aa HPS).fr (Aa LL).fr) (Aa HZ) (Aj (Aa HT) (Aa LL).fr.below) (Aa HP4)).mono ?_
        rintro e X10 ⟨rfl,hb⟩
        replace LL:=Ab ((Aa LL).on hb)
        clear hb
        rw[hwh]
        go_wp2
        replace LL:=Ab (Hq.left (L:= [(g,mc met2),(B1, [.slice (some ⟨b,off,none⟩) l.length cap, .slice (some ⟨g,0,none⟩) l.length l.length])]) (M:= [_]) (Aa LL))
        have HM3:=Ab (And.intro (Aa HM2).1 ((Aa HM2).2 ht))
        go_roundg (l.length - (i+1))
        case measure=>have:=Aa HLT;omega
        case rel=>exact⟨i+1,met2,by go_num,by have:=Aa HLT;omega,by omega,HB2,HM3,LL⟩
   ·obtain rfl:i=l.length:=by omega
    clear hlt hil
    go_wp2_with (go_skip)
    go_ret
    exact⟨-1,rfl, .inl ⟨rfl,Aa HB⟩,(Aa LL).fr.below⟩
end
section
open Go Go.Proofs Go.Maps Go.RowKit FM
def toP (e:KK×DD):PR:=⟨e.1,e.2⟩
def toS (s:PO):SH:=⟨s.c,s.p,s.x,s.ps.map toP⟩
theorem good_OkK {k:KK} (h:goodK k=true):OkK k:=by
 have hn:=Zft h
 refine⟨?_, ?_⟩
 ·have hs:=Zdl h
  have:(1048576:Nat)<=maxLen:=by decide
  omega
 ·have h1:(-(2:Int)^63)<=k.n/\k.n<2^63:=⟨by omega,by omega⟩
  have a1:IntKind.i64.min= -9223372036854775808:=by decide
  have a2:IntKind.i64.max=9223372036854775807:=by decide
  simp[Lit.wf]
  omega
theorem ZcD {f:PR->Bool} {l:List PR} (h: ∀p∈l,f p=true): ∀i,Uj f l i=true
 |0=>rfl
 |i+1=>by
  unfold Uj
  rw[ZcD h i]
  cases hp:l[i]? with
  |none=>rfl
  |some p=>
   dsimp only
   rw[h p (List.mem_of_getElem? hp)]
   rfl
theorem ndT_of {l:List PR} (h:(l.map PR.k).Nodup): ∀i,ndT l i=true
 |0=>rfl
 |i+1=>by
  unfold ndT
  rw[ndT_of h i]
  have he:Oo l i=false:=by
   unfold Oo
   cases hp:l[i]? with
   |none=>rfl
   |some p=>
    dsimp only
    cases ha:(l.take i).any (fun q=>decide (q.k=p.k)) with
    |false=>rfl
    |true=>
     obtain⟨q,hq,hk⟩:=List.any_eq_true.1 ha
     have hk2:q.k=p.k:=by simpa using hk
     obtain⟨j,hj⟩:=List.getElem?_of_mem hq
     have hjl:=(List.getElem?_eq_some_iff.1 hj).1
     rw[List.length_take] at hjl
     rw[List.getElem?_take_of_lt (by omega)] at hj
     have a1:(l.map PR.k)[j]? =some p.k:=by rw[List.getElem?_map,hj,Option.map_some,hk2]
     have a2:(l.map PR.k)[i]? =some p.k:=by rw[List.getElem?_map,hp];rfl
     have hj2:j<(l.map PR.k).length:=by rw[List.length_map];omega
     have:=(List.getElem?_inj hj2 h).1 (a1.trans a2.symm)
     omega
  rw[he]
  rfl
theorem toP_keys (l:List (KK×DD)):(l.map toP).map PR.k=l.map Prod.fst:=by
 rw[List.map_map]
 rfl
theorem dst_of {n:Nat} {l:List (KK×DD)} (h:WhP n l):Vr (l.map toP)=true:=by
 unfold Vr
 rw[(szT_nd _ _).2,ZcD (fun p hp=>by
  obtain⟨e,he,rfl⟩:=List.mem_map.1 hp
  exact(h.e e he).2.1),ndT_of (by rw[toP_keys];exact h.nd)]
 rfl
theorem ov_ok {n:Nat} {v:VV} (h:Ov n v):Kv v n=true:=by
 unfold Kv obP
 by_cases hk:v.k=7
 ·obtain⟨h1,h2⟩:=h hk
  have h3:VV.good v=true:=h2
  simp[hk,h1,h3]
 ·simp[hk]
theorem ref_ok {n:Nat} {v:VV} (h:v.k≠7):Kv v n=true:=by
 unfold Kv
 simp[h]
theorem wh_of {n:Nat} {l:List (KK×DD)} (h:WhP n l) (hr: ∀e∈l,e.2.g.k≠7/\e.2.s.k≠7):whV n (l.map toP)=true:=by
 unfold whV
 refine ZcD (fun p hp=> ?_) _
 obtain⟨e,he,rfl⟩:=List.mem_map.1 hp
 show (wholeV e.2 && (Kv e.2.v n && Kv e.2.g n && Kv e.2.s n))=true
 rw[(h.e e he).1,ov_ok (h.e e he).2.2,ref_ok (hr e he).1,ref_ok (hr e he).2]
 rfl
theorem ZcY {nx:Nat->Option Nat} {rk:Nat->Nat} (h: ∀i j,nx i=some j->rk j<rk i): ∀(m i:Nat),rk i<m-> ∃k,runN nx k i=none
 |0,_,hi=>by omega
 |m+1,i,hi=>by
  cases hn:nx i with
  |none=>exact⟨1,by simp[runN,hn]⟩
  |some j=>
   obtain⟨k,hk⟩:=ZcY h m j (by have:=h i j hn;omega)
   exact⟨k+1,by simp[runN,hn,hk]⟩
theorem ch_of {h:HP} (A:h.Ac) {j:Nat} (hj:j<h.abs.length):tL (h.abs.map toS) j=true:=by
 obtain⟨rk,hrk⟩:=A
 unfold tL
 rw[ZbT Zbr (by rw[List.length_map];exact hj)]
 refine ZcY (rk:=rk) (fun a b hab=> ?_) (rk j+1) j (Nat.lt_succ_self _)
 unfold nxR at hab
 cases hs:(h.abs.map toS)[a]? with
 |none=>
  rw[hs] at hab
  cases hab
 |some s=>
  rw[hs] at hab
  dsimp only at hab
  split at hab
  ·cases hab
  ·rename_i hc
   have ho:obR s.p (h.abs.map toS).length=true:=by
    cases ho:obR s.p (h.abs.map toS).length with
    |true=>rfl
    |false=>
     rw[ho] at hc
     simp at hc
   have hid:=ob_id ho
   have hk:s.p.k=7:=by
    unfold obR at ho
    simp only[Bool.and_eq_true] at ho
    simpa using ho.1.1.1.1
   have e:(s.p.i - 1).toNat=b:=Option.some.inj hab
   rw[List.getElem?_map] at hs
   obtain⟨q0,hq0,rfl⟩:=Option.map_eq_some_iff.1 hs
   unfold HP.abs at hq0
   rw[List.getElem?_map] at hq0
   obtain⟨q,hq,rfl⟩:=Option.map_eq_some_iff.1 hq0
   have hk':q.p.k=7:=hk
   have hid':1<=q.p.i:=hid.1
   have e':(q.p.i - 1).toNat=b:=e
   exact hrk a b q hq hk' (by omega)
theorem bad_no {h:HP} (A:h.Ac) (K:h.Wf) (W:WhH h) (j:Nat):Yw (h.abs.map toS) j=false:=by
 unfold Yw
 cases hs:(h.abs.map toS)[j]? with
 |none=>rfl
 |some s=>
  dsimp only
  rw[List.getElem?_map] at hs
  obtain⟨q0,hq0,rfl⟩:=Option.map_eq_some_iff.1 hs
  have hj:=(List.getElem?_eq_some_iff.1 hq0).1
  have hW:=W q0 (List.mem_of_getElem? hq0)
  have hlen:(h.abs.map toS).length=h.l.length:=by rw[List.length_map];exact Ot h
  rw[ch_of A hj,hlen]
  unfold HP.abs at hq0
  rw[List.getElem?_map] at hq0
  obtain⟨q,hq,rfl⟩:=Option.map_eq_some_iff.1 hq0
  have hO:=K.ob j q hq
  have h1:Vr ((pr q.T).map toP)=true:=dst_of hW.2
  have h2:whV h.l.length ((pr q.T).map toP)=true:=wh_of hW.2 (fun e he=>(hO.ps e he).2.2)
  show (!prP q.p h.l.length|| !true|| !Vr ((pr q.T).map toP)|| !whV h.l.length ((pr q.T).map toP))=false
  have h3:prP q.p h.l.length=true:=by
   have hg:VV.good q.p=true:=hW.1
   unfold prP obP
   rcases hO.pk with hk|hk
   ·simp[hk,hg]
   ·have:=(hO.pi hk).2
    simp[hk,hg,this]
  rw[h1,h2,h3]
  rfl
theorem toS_cs (s:PO) (A:Option Addr) (c:Nat):(toS s).cs A c=shC s (.slice A s.ps.length c):=by
 unfold toS SH.cs shC
 rw[List.length_map]
theorem reads_P9 {w:World} {A:Option Addr} {l:List (KK×DD)} (h:ReadsP w A l) (hok: ∀e∈l,OkK e.1/\FD e.2):ReadsP9 w A (l.map toP):=fun j p hp=>by
 rw[List.getElem?_map] at hp
 obtain⟨e,he,rfl⟩:=Option.map_eq_some_iff.1 hp
 have h1:=hok e (List.mem_of_getElem? he)
 exact⟨⟨h1.2,h1.1⟩,h j e he⟩
theorem reads_S9 {w:World} {A:Option Addr} {l:List PO} (h:Yx w A l) (hok: ∀s∈l,s.p.x<2^64/\s.ps.length<=1000000/\ ∀e∈s.ps,OkK e.1/\FD e.2):ReadsS9 w A (l.map toS):=fun j t ht=>by
 rw[List.getElem?_map] at ht
 obtain⟨s,hs,rfl⟩:=Option.map_eq_some_iff.1 ht
 obtain⟨h1,h2,h3⟩:=hok s (List.mem_of_getElem? hs)
 obtain⟨b,off,PA,pc,e1,e2,e3,e4⟩:=h j s hs
 refine⟨h1, ?_,b,off,PA,pc,e1,e2,reads_P9 e4 h3, ?_⟩
 ·show (s.ps.map toP).length<=_
  rw[List.length_map]
  omega
 ·rw[toS_cs]
  exact e3
theorem snd_h (h:HP) (A:Option Addr) (c:Nat) (w:World) (hA:h.Ac) (K:h.Wf) (W:WhH h) (hz: ∀s∈h.abs,s.ps.length<=1000000) (hT:Lib.Utf8Tabs 1 2 w) (hR:Yx w A h.abs):Calls Tryz.prog 21 #[.slice A h.l.length c] w fun e w'=>e= .returned (.int .i64 (-1))/\Below w.heap.size w w':=by
 have hlen:(h.abs.map toS).length=h.l.length:=by rw[List.length_map];exact Ot h
 have h0:=sound4 A c (h.abs.map toS) w (reads_S9 hR (fun s hs=>by
  obtain⟨q,hq,rfl⟩:=List.mem_map.1 (show s∈h.l.map OB.po from hs)
  obtain⟨j,hj⟩:=List.getElem?_of_mem hq
  have hO:=K.ob j q hj
  have hW:=W _ hs
  exact⟨hO.px,hz _ hs,fun e he=>⟨good_OkK (hW.2.e e he).2.1,(hO.ps e he).1⟩⟩)) (by rw[hlen];exact K.ok.len) hT (bad_no hA K W) (fun t ht=>by
  obtain⟨s,hs,rfl⟩:=List.mem_map.1 ht
  obtain⟨q,hq,rfl⟩:=List.mem_map.1 (show s∈h.l.map OB.po from hs)
  obtain⟨j,hj⟩:=List.getElem?_of_mem hq
  have h1:=(K.ob j q hj).c
  show q.c≠9
  rw[h1]
  decide)
 rw[hlen] at h0
 refine h0.mono ?_
 rintro _ Y ⟨r,rfl,hF,hb⟩
 refine⟨?_,hb⟩
 rcases hF with ⟨rfl, -⟩|⟨i, -, -,hi, -⟩
 ·rfl
 ·rw[bad_no hA K W] at hi
  cases hi
