import Derived.Test.YthcmamjpfigdfaaGreatDoorRk
set_option linter.all false
namespace Go.Proofs.YthcmamjpfigdfaaGreatDoor
set_option maxRecDepth 100000
set_option maxHeartbeats 0
section
open Go Go.Proofs Go.Maps Go.RowKit FM Tryz
attribute [local go_sem] Al Ak Ar Ah Am Ai Au Dd Db Bi Aj Bh
theorem Vo (h:HP) (o:Int)  (w:World) (H:h.Is w) (hl:h.l.length<=65536) (hT:Tabs w) (P:HP->VV->Value->Prop) (hC: ∀(j:Nat) (q:OB) (X:World),o=(j:Int)+1->h.l[j]? =some q->thE o h.l.length=0->h.To h w X->Calls prog 118 #[.pointer (some ⟨h.b,0,none⟩), .int .i64 ((j:Int)+1)] X fun e w'=> ∃(h1:HP) (V:VV) (er:Value),e= .returned (.tuple #[V.agg,er])/\P h1 V er/\h.To h1 X w'):Calls prog 68 #[.pointer (some ⟨h.b,0,none⟩), .int .i64 o] w fun e w'=> ∃(h1:HP) (V:VV) (er:Value),e= .returned (.tuple #[V.agg,er])/\((thE o h.l.length≠0/\er=Ax (thE o h.l.length)/\h1=h)∨(thE o h.l.length=0/\P h1 V er))/\h.To h1 w w':=by
 have SS:=Ab H.start
 go_enter func68,ntmps68
 go_wp2_with (first|go_skip|((with_reducible show wpList ..);(refine zA 40 (Aq.cs) rfl SS ?_;clear SS;intro Xc Bc SS;simp only[nn])))
 refine(Gw h _ _ ((Aa SS).hp 0 rfl)).mono ?_
 rintro _ _ ⟨rfl,rfl⟩
 by_cases hc:thE o h.l.length=0
 ·obtain⟨j,q,ho_,hj⟩:=Kf hc
  have HO_:=Ab ho_
  clear ho_
  go_wp2_with (go_skip)
  have HC:=hC j q _ (Aa HO_) hj hc (HP.To.end H (Aa SS) rfl)
  rw[←Aa HO_] at HC
  refine HC.mono ?_
  rintro _ Y9 ⟨h1,V,er,rfl,hP,T9⟩
  replace SS:=Ab ((Aa SS).heap 0 rfl T9)
  have hb9:h1.b=h.b:=T9.hb
  clear T9 HC
  rw[Dg]
  go_wp2_with (first|go_skip|((with_reducible show wpList ..);(refine zS (V.cs) 1 40 rfl rfl rfl rfl (Gh _) szV SS rfl ?_;clear SS;intro Xy SS;simp only[nn])))
  refine bodyPost_ret (Gx rwV szV rfl rfl rfl ((Aa SS).hold 1 rfl) rfl) rfl ?_
  exact⟨h1,V,er,rfl, .inr ⟨hc,hP⟩,HP.To.end H (Aa SS) hb9⟩
 ·go_wp2_with (first|go_skip|((with_reducible show wpList ..);first|(refine rd rfl (Gy rfl rfl rfl hc) ?_)|(refine rd rfl (Lo rfl) ?_)|(refine zS (Aq.cs) 1 40 rfl rfl rfl rfl (Gh _) szV SS rfl ?_;clear SS;intro Xz SS;simp only[nn])))
  refine bodyPost_ret (Gx rwV szV rfl rfl rfl ((Aa SS).hold 1 rfl) rfl) rfl ?_
  exact⟨h,Aq,_,rfl, .inl ⟨hc,rfl,rfl⟩,HP.To.end H (Aa SS) rfl⟩
theorem Ze (h:HP) (o:Int)  (w:World) (H:h.Is w) (hl:h.l.length<=65536) (hT:Tabs w) (P:HP->Bool->Value->Prop) (hC: ∀(j:Nat) (q:OB) (X:World),o=(j:Int)+1->h.l[j]? =some q->thE o h.l.length=0->h.To h w X->Calls prog 120 #[.pointer (some ⟨h.b,0,none⟩), .int .i64 ((j:Int)+1)] X fun e w'=> ∃(h1:HP) (y:Bool) (er:Value),e= .returned (.tuple #[.bool y,er])/\P h1 y er/\h.To h1 X w'):Calls prog 70 #[.pointer (some ⟨h.b,0,none⟩), .int .i64 o] w fun e w'=> ∃(h1:HP) (y:Bool) (er:Value),e= .returned (.tuple #[.bool y,er])/\((thE o h.l.length≠0/\er=Ax (thE o h.l.length)/\h1=h/\y=false)∨(thE o h.l.length=0/\P h1 y er))/\h.To h1 w w':=by
 have SS:=Ab H.start
 go_enter func70,ntmps70
 go_wp2_with fail
 refine(Gw h _ _ ((Aa SS).hp 0 rfl)).mono ?_
 rintro _ _ ⟨rfl,rfl⟩
 by_cases hc:thE o h.l.length=0
 ·obtain⟨j,q,ho_,hj⟩:=Kf hc
  have HO_:=Ab ho_
  clear ho_
  go_wp2_with (go_skip)
  have HC:=hC j q _ (Aa HO_) hj hc (HP.To.end H (Aa SS) rfl)
  rw[←Aa HO_] at HC
  refine HC.mono ?_
  rintro _ Y9 ⟨h1,y,er,rfl,hP,T9⟩
  replace SS:=Ab ((Aa SS).heap 0 rfl T9)
  have hb9:h1.b=h.b:=T9.hb
  clear T9 HC
  go_wp2
  go_ret2
  exact⟨h1,y,er,rfl, .inr ⟨hc,hP⟩,HP.To.end H (Aa SS) hb9⟩
 ·go_wp2_with (first|go_skip|((with_reducible show wpList ..);(refine rd rfl (Gy rfl rfl rfl hc) ?_)))
  go_ret2
  exact⟨h,false,_,rfl, .inl ⟨hc,rfl,rfl,rfl⟩,HP.To.end H (Aa SS) rfl⟩
theorem Qg (h:HP) (o:Int)  (w:World) (H:h.Is w) (hl:h.l.length<=65536) (hT:Tabs w) (P:HP->Bool->Value->Prop) (hC: ∀(j:Nat) (q:OB) (X:World),o=(j:Int)+1->h.l[j]? =some q->thE o h.l.length=0->h.To h w X->Calls prog 121 #[.pointer (some ⟨h.b,0,none⟩), .int .i64 ((j:Int)+1)] X fun e w'=> ∃(h1:HP) (y:Bool) (er:Value),e= .returned (.tuple #[.bool y,er])/\P h1 y er/\h.To h1 X w'):Calls prog 71 #[.pointer (some ⟨h.b,0,none⟩), .int .i64 o] w fun e w'=> ∃(h1:HP) (y:Bool) (er:Value),e= .returned (.tuple #[.bool y,er])/\((thE o h.l.length≠0/\er=Ax (thE o h.l.length)/\h1=h/\y=false)∨(thE o h.l.length=0/\P h1 y er))/\h.To h1 w w':=by
 have SS:=Ab H.start
 go_enter func71,ntmps71
 go_wp2_with fail
 refine(Gw h _ _ ((Aa SS).hp 0 rfl)).mono ?_
 rintro _ _ ⟨rfl,rfl⟩
 by_cases hc:thE o h.l.length=0
 ·obtain⟨j,q,ho_,hj⟩:=Kf hc
  have HO_:=Ab ho_
  clear ho_
  go_wp2_with (go_skip)
  have HC:=hC j q _ (Aa HO_) hj hc (HP.To.end H (Aa SS) rfl)
  rw[←Aa HO_] at HC
  refine HC.mono ?_
  rintro _ Y9 ⟨h1,y,er,rfl,hP,T9⟩
  replace SS:=Ab ((Aa SS).heap 0 rfl T9)
  have hb9:h1.b=h.b:=T9.hb
  clear T9 HC
  go_wp2
  go_ret2
  exact⟨h1,y,er,rfl, .inr ⟨hc,hP⟩,HP.To.end H (Aa SS) hb9⟩
 ·go_wp2_with (first|go_skip|((with_reducible show wpList ..);(refine rd rfl (Gy rfl rfl rfl hc) ?_)))
  go_ret2
  exact⟨h,false,_,rfl, .inl ⟨hc,rfl,rfl,rfl⟩,HP.To.end H (Aa SS) rfl⟩
theorem Um (h:HP) (o:Int)  (w:World) (H:h.Is w) (hl:h.l.length<=65536) (hT:Tabs w) (P:HP->Value->Value->Prop) (hC: ∀(j:Nat) (q:OB) (X:World),o=(j:Int)+1->h.l[j]? =some q->thE o h.l.length=0->h.To h w X->Calls prog 125 #[.pointer (some ⟨h.b,0,none⟩), .int .i64 ((j:Int)+1)] X fun e w'=> ∃(h1:HP) (V:Value) (er:Value),e= .returned (.tuple #[V,er])/\P h1 V er/\h.To h1 X w'):Calls prog 75 #[.pointer (some ⟨h.b,0,none⟩), .int .i64 o] w fun e w'=> ∃(h1:HP) (V:Value) (er:Value),e= .returned (.tuple #[V,er])/\((thE o h.l.length≠0/\er=Ax (thE o h.l.length)/\h1=h/\V= .slice none 0 0)∨(thE o h.l.length=0/\P h1 V er))/\h.To h1 w w':=by
 have SS:=Ab H.start
 go_enter func75,ntmps75
 go_wp2_with fail
 refine(Gw h _ _ ((Aa SS).hp 0 rfl)).mono ?_
 rintro _ _ ⟨rfl,rfl⟩
 by_cases hc:thE o h.l.length=0
 ·obtain⟨j,q,ho_,hj⟩:=Kf hc
  have HO_:=Ab ho_
  clear ho_
  go_wp2_with (go_skip)
  have HC:=hC j q _ (Aa HO_) hj hc (HP.To.end H (Aa SS) rfl)
  rw[←Aa HO_] at HC
  refine HC.mono ?_
  rintro _ Y9 ⟨h1,V,er,rfl,hP,T9⟩
  replace SS:=Ab ((Aa SS).heap 0 rfl T9)
  have hb9:h1.b=h.b:=T9.hb
  clear T9 HC
  go_wp2
  go_ret2
  exact⟨h1,V,er,rfl, .inr ⟨hc,hP⟩,HP.To.end H (Aa SS) hb9⟩
 ·go_wp2_with (first|go_skip|((with_reducible show wpList ..);(refine rd rfl (Gy rfl rfl rfl hc) ?_)))
  go_ret2
  exact⟨h, .slice none 0 0,_,rfl, .inl ⟨hc,rfl,rfl,rfl⟩,HP.To.end H (Aa SS) rfl⟩
theorem Vp (h:HP) (o:Int) (k:KK) (w:World) (H:h.Is w) (hl:h.l.length<=65536) (hT:Tabs w) (P:HP->DD->Bool->Value->Prop) (hC: ∀(j:Nat) (q:OB) (X:World),o=(j:Int)+1->h.l[j]? =some q->orE [thE o h.l.length,Da k]=0->h.To h w X->Calls prog 122 #[.pointer (some ⟨h.b,0,none⟩), .int .i64 ((j:Int)+1),k.agg] X fun e w'=> ∃(h1:HP) (V:DD) (y:Bool) (er:Value),e= .returned (.tuple #[V.agg, .bool y,er])/\P h1 V y er/\h.To h1 X w'):Calls prog 72 #[.pointer (some ⟨h.b,0,none⟩), .int .i64 o,k.agg] w fun e w'=> ∃(h1:HP) (V:DD) (y:Bool) (er:Value),e= .returned (.tuple #[V.agg, .bool y,er])/\((orE [thE o h.l.length,Da k]≠0/\er=Ax (orE [thE o h.l.length,Da k])/\h1=h)∨(orE [thE o h.l.length,Da k]=0/\P h1 V y er))/\h.To h1 w w':=by
 have SS:=Ab H.start
 rw[Du]
 go_enter func72,ntmps72
 go_wp2_with (first|go_skip|((with_reducible show wpList ..);first|(refine zB 37 (k.cs) rfl rfl rfl SS ?_;clear SS;intro Xp0 Bp0 SS;simp only[nn])|(refine zA 43 (zeroD.cs) rfl SS ?_;clear SS;intro Xc Bc SS;simp only[nn])))
 have kt:=fun {X:World} (s:h.Is X)=>Gw h o X s
 have kk:=fun {X:World} (s:Fr w X h.blocks)=>Xn k X (hT.fr s H.low).1
 have ko:=fun {X:World} {B:Nat} (g:Holds X B (Mr [thE o h.l.length,Da k]))=>Mh B 2 [thE o h.l.length,Da k] X g (by simp)
 have hS1:Sy w _ h.blocks [hpO h,Av Bp0 k.cs,Av Bc zeroD.cs]:=(Aa SS).drew
 clear SS
 refine Dx (fun a a' X=> ∃(v15:Value),a'=((((((((a.put (some 10) (.pointer (some ⟨h.b,0,none⟩))).put (some 11) (.int .i64 o)).put (some 12) (.int .i64 (thE o h.l.length))).put (some 13) (.agg k.cs.toArray)).put (some 14) (.int .i64 (Da k))).put (some 15) v15).put (some 16) (.int .i64 (orE [thE o h.l.length,Da k]))).put (some 9) (.int .i64 (orE [thE o h.l.length,Da k])))/\Sy w X h.blocks [hpO h,Av Bp0 k.cs,Av Bc zeroD.cs]) ?_ ?_
 ·have cu: ∀{X:World} {M:List Ob},Sy w X h.blocks ([hpO h,Av Bp0 k.cs,Av Bc zeroD.cs]++M)->Sy w X h.blocks [hpO h,Av Bp0 k.cs,Av Bc zeroD.cs]:=fun h=>Sy.left h
  refine wp_region_held_drew (P:=prog) (S:=fun X=>Sy w X h.blocks _) (by kernel_rfl) (hS1) (fun hS0=> ?_)
  refine gp 0 (some 10) (.pointer (some ⟨h.b,0,none⟩)) rfl rfl (hS1) ?_
  refine gp 1 (some 11) (.int .i64 o) rfl rfl (hS1) ?_
  refine gq 3 (some 13) (.agg k.cs.toArray) rfl rfl (fun X hX=>Af (vs:=k.cs) 37 2 rwK szK rfl rfl (hX.hold 1 rfl) rfl rfl) (hS1) ?_
  have hq:=hS1
  repeat' first|((with_reducible show wpAnyH ..);(try simp only[nn]);first|refine gr (rs:= [2]) ?_ (by decide+kernel)|refine gr (rs:= [4]) ?_ (by decide+kernel)|refine gr (rs:= [5]) ?_ (by decide+kernel)|refine gr (rs:= [6]) ?_ (by decide+kernel)|(refine gp 7 (some 9) (.int .i64 (orE [thE o h.l.length,Da k])) rfl rfl (cu hq) ?_)|(refine dn ?_;(try simp only[nn]);exact pN ⟨_,rfl,(cu hq)⟩))|((with_reducible show AllReadyH _ _ _ _ _ _ _ _ _ (2::_));refine gcW 2 (some 12) rfl rfl (hq) (kt (hq.hp 0 rfl)) ?_ ?_)|((with_reducible show AllReadyH _ _ _ _ _ _ _ _ _ (4::_));refine gcB 4 (some 14) rfl rfl hq (kk hq.fr) id (fun _ hq=> ?_) ?_)|((with_reducible show AllReadyH _ _ _ _ _ _ _ _ _ (5::_));refine Nl 5 (some 15) rfl rfl (ZcG rfl rfl rfl) hq (fun _ hZ=>(cu hZ)) (fun _ B5_ _ hq=> ?_) ?_)|((with_reducible show AllReadyH _ _ _ _ _ _ _ _ _ (6::_));refine gcW 6 (some 16) rfl rfl (cu hq) (ko (B:=B5_) (hq.hold 3 rfl)) ?_ ?_)|exact gn
 ·rintro a' X ⟨v15,rfl,hS9⟩
  simp only[nn]
  have SS:=Ab hS9
  clear hS9
  by_cases hc:orE [thE o h.l.length,Da k]=0
  ·obtain⟨j,q,ho_,hj⟩:=Kf (h:=h) (o:=o) (Ef hc (thE o h.l.length) (by simp))
   have HO_:=Ab ho_
   clear ho_
   go_wp2_with (first|go_skip|((with_reducible show wpList ..);first|(refine rd rfl (Lm rfl rfl rfl hc) ?_)|(refine zL (k.cs) 37 2 1 rwK szK rfl rfl SS rfl rfl rfl ?_;simp only[nn])))
   have HC:=hC j q _ (Aa HO_) hj hc (HP.To.end H (Aa SS) rfl)
   rw[Du] at HC
   rw[←Aa HO_] at HC
   refine HC.mono ?_
   rintro _ Y9 ⟨h1,V,y,er,rfl,hP,T9⟩
   replace SS:=Ab ((Aa SS).heap 0 rfl T9)
   have hb9:h1.b=h.b:=T9.hb
   clear T9 HC
   rw[Qj]
   go_wp2_with (first|go_skip|((with_reducible show wpList ..);(refine zS (V.cs) 2 43 rfl rfl rfl rfl (Ez _) szD SS rfl ?_;clear SS;intro Xy SS;simp only[nn])))
   refine bodyPost_ret (Lw rwD szD rfl rfl rfl rfl ((Aa SS).hold 2 rfl) rfl) rfl ?_
   exact⟨h1,V,y,er,rfl, .inr ⟨hc,hP⟩,HP.To.end H (Aa SS) hb9⟩
  ·go_wp2_with (first|go_skip|((with_reducible show wpList ..);first|(refine rd rfl (Gy rfl rfl rfl hc) ?_)|(refine rd rfl (ZaO rfl) ?_)|(refine zS (zeroD.cs) 2 43 rfl rfl rfl rfl (Ez _) szD SS rfl ?_;clear SS;intro Xz SS;simp only[nn])))
   refine bodyPost_ret (Lw rwD szD rfl rfl rfl rfl ((Aa SS).hold 2 rfl) rfl) rfl ?_
   exact⟨h,zeroD,false,_,rfl, .inl ⟨hc,rfl,rfl⟩,HP.To.end H (Aa SS) rfl⟩
theorem ZaV (h:HP) (o:Int) (k:KK) (w:World) (H:h.Is w) (hl:h.l.length<=65536) (hT:Tabs w) (P:HP->Bool->Value->Prop) (hC: ∀(j:Nat) (q:OB) (X:World),o=(j:Int)+1->h.l[j]? =some q->orE [thE o h.l.length,Da k]=0->h.To h w X->Calls prog 123 #[.pointer (some ⟨h.b,0,none⟩), .int .i64 ((j:Int)+1),k.agg] X fun e w'=> ∃(h1:HP) (y:Bool) (er:Value),e= .returned (.tuple #[.bool y,er])/\P h1 y er/\h.To h1 X w'):Calls prog 73 #[.pointer (some ⟨h.b,0,none⟩), .int .i64 o,k.agg] w fun e w'=> ∃(h1:HP) (y:Bool) (er:Value),e= .returned (.tuple #[.bool y,er])/\((orE [thE o h.l.length,Da k]≠0/\er=Ax (orE [thE o h.l.length,Da k])/\h1=h/\y=false)∨(orE [thE o h.l.length,Da k]=0/\P h1 y er))/\h.To h1 w w':=by
 have SS:=Ab H.start
 rw[Du]
 go_enter func73,ntmps73
 go_wp2_with (first|go_skip|((with_reducible show wpList ..);(refine zB 37 (k.cs) rfl rfl rfl SS ?_;clear SS;intro Xp0 Bp0 SS;simp only[nn])))
 have kt:=fun {X:World} (s:h.Is X)=>Gw h o X s
 have kk:=fun {X:World} (s:Fr w X h.blocks)=>Xn k X (hT.fr s H.low).1
 have ko:=fun {X:World} {B:Nat} (g:Holds X B (Mr [thE o h.l.length,Da k]))=>Mh B 2 [thE o h.l.length,Da k] X g (by simp)
 have hS1:Sy w _ h.blocks [hpO h,Av Bp0 k.cs]:=(Aa SS).drew
 clear SS
 refine Dx (fun a a' X=> ∃(v14:Value),a'=((((((((a.put (some 9) (.pointer (some ⟨h.b,0,none⟩))).put (some 10) (.int .i64 o)).put (some 11) (.int .i64 (thE o h.l.length))).put (some 12) (.agg k.cs.toArray)).put (some 13) (.int .i64 (Da k))).put (some 14) v14).put (some 15) (.int .i64 (orE [thE o h.l.length,Da k]))).put (some 8) (.int .i64 (orE [thE o h.l.length,Da k])))/\Sy w X h.blocks [hpO h,Av Bp0 k.cs]) ?_ ?_
 ·have cu: ∀{X:World} {M:List Ob},Sy w X h.blocks ([hpO h,Av Bp0 k.cs]++M)->Sy w X h.blocks [hpO h,Av Bp0 k.cs]:=fun h=>Sy.left h
  refine wp_region_held_drew (P:=prog) (S:=fun X=>Sy w X h.blocks _) (by kernel_rfl) (hS1) (fun hS0=> ?_)
  refine gp 0 (some 9) (.pointer (some ⟨h.b,0,none⟩)) rfl rfl (hS1) ?_
  refine gp 1 (some 10) (.int .i64 o) rfl rfl (hS1) ?_
  refine gq 3 (some 12) (.agg k.cs.toArray) rfl rfl (fun X hX=>Af (vs:=k.cs) 37 2 rwK szK rfl rfl (hX.hold 1 rfl) rfl rfl) (hS1) ?_
  have hq:=hS1
  repeat' first|((with_reducible show wpAnyH ..);(try simp only[nn]);first|refine gr (rs:= [2]) ?_ (by decide+kernel)|refine gr (rs:= [4]) ?_ (by decide+kernel)|refine gr (rs:= [5]) ?_ (by decide+kernel)|refine gr (rs:= [6]) ?_ (by decide+kernel)|(refine gp 7 (some 8) (.int .i64 (orE [thE o h.l.length,Da k])) rfl rfl (cu hq) ?_)|(refine dn ?_;(try simp only[nn]);exact pN ⟨_,rfl,(cu hq)⟩))|((with_reducible show AllReadyH _ _ _ _ _ _ _ _ _ (2::_));refine gcW 2 (some 11) rfl rfl (hq) (kt (hq.hp 0 rfl)) ?_ ?_)|((with_reducible show AllReadyH _ _ _ _ _ _ _ _ _ (4::_));refine gcB 4 (some 13) rfl rfl hq (kk hq.fr) id (fun _ hq=> ?_) ?_)|((with_reducible show AllReadyH _ _ _ _ _ _ _ _ _ (5::_));refine Nl 5 (some 14) rfl rfl (ZcG rfl rfl rfl) hq (fun _ hZ=>(cu hZ)) (fun _ B5_ _ hq=> ?_) ?_)|((with_reducible show AllReadyH _ _ _ _ _ _ _ _ _ (6::_));refine gcW 6 (some 15) rfl rfl (cu hq) (ko (B:=B5_) (hq.hold 2 rfl)) ?_ ?_)|exact gn
 ·rintro a' X ⟨v14,rfl,hS9⟩
  simp only[nn]
  have SS:=Ab hS9
  clear hS9
  by_cases hc:orE [thE o h.l.length,Da k]=0
  ·obtain⟨j,q,ho_,hj⟩:=Kf (h:=h) (o:=o) (Ef hc (thE o h.l.length) (by simp))
   have HO_:=Ab ho_
   clear ho_
   go_wp2_with (first|go_skip|((with_reducible show wpList ..);first|(refine rd rfl (Lm rfl rfl rfl hc) ?_)|(refine zL (k.cs) 37 2 1 rwK szK rfl rfl SS rfl rfl rfl ?_;simp only[nn])))
   have HC:=hC j q _ (Aa HO_) hj hc (HP.To.end H (Aa SS) rfl)
   rw[Du] at HC
   rw[←Aa HO_] at HC
   refine HC.mono ?_
   rintro _ Y9 ⟨h1,y,er,rfl,hP,T9⟩
   replace SS:=Ab ((Aa SS).heap 0 rfl T9)
   have hb9:h1.b=h.b:=T9.hb
   clear T9 HC
   go_wp2
   go_ret2
   exact⟨h1,y,er,rfl, .inr ⟨hc,hP⟩,HP.To.end H (Aa SS) hb9⟩
  ·go_wp2_with (first|go_skip|((with_reducible show wpList ..);(refine rd rfl (Gy rfl rfl rfl hc) ?_)))
   go_ret2
   exact⟨h,false,_,rfl, .inl ⟨hc,rfl,rfl,rfl⟩,HP.To.end H (Aa SS) rfl⟩
theorem Zgs (h:HP) (o:Int) (k:KK) (w:World) (H:h.Is w) (hl:h.l.length<=65536) (hT:Tabs w) (P:HP->Bool->Value->Prop) (hC: ∀(j:Nat) (q:OB) (X:World),o=(j:Int)+1->h.l[j]? =some q->orE [thE o h.l.length,Da k]=0->h.To h w X->Calls prog 124 #[.pointer (some ⟨h.b,0,none⟩), .int .i64 ((j:Int)+1),k.agg] X fun e w'=> ∃(h1:HP) (y:Bool) (er:Value),e= .returned (.tuple #[.bool y,er])/\P h1 y er/\h.To h1 X w'):Calls prog 74 #[.pointer (some ⟨h.b,0,none⟩), .int .i64 o,k.agg] w fun e w'=> ∃(h1:HP) (y:Bool) (er:Value),e= .returned (.tuple #[.bool y,er])/\((orE [thE o h.l.length,Da k]≠0/\er=Ax (orE [thE o h.l.length,Da k])/\h1=h/\y=false)∨(orE [thE o h.l.length,Da k]=0/\P h1 y er))/\h.To h1 w w':=by
 have SS:=Ab H.start
 rw[Du]
 go_enter func74,ntmps74
 go_wp2_with (first|go_skip|((with_reducible show wpList ..);(refine zB 37 (k.cs) rfl rfl rfl SS ?_;clear SS;intro Xp0 Bp0 SS;simp only[nn])))
 have kt:=fun {X:World} (s:h.Is X)=>Gw h o X s
 have kk:=fun {X:World} (s:Fr w X h.blocks)=>Xn k X (hT.fr s H.low).1
 have ko:=fun {X:World} {B:Nat} (g:Holds X B (Mr [thE o h.l.length,Da k]))=>Mh B 2 [thE o h.l.length,Da k] X g (by simp)
 have hS1:Sy w _ h.blocks [hpO h,Av Bp0 k.cs]:=(Aa SS).drew
 clear SS
 refine Dx (fun a a' X=> ∃(v14:Value),a'=((((((((a.put (some 9) (.pointer (some ⟨h.b,0,none⟩))).put (some 10) (.int .i64 o)).put (some 11) (.int .i64 (thE o h.l.length))).put (some 12) (.agg k.cs.toArray)).put (some 13) (.int .i64 (Da k))).put (some 14) v14).put (some 15) (.int .i64 (orE [thE o h.l.length,Da k]))).put (some 8) (.int .i64 (orE [thE o h.l.length,Da k])))/\Sy w X h.blocks [hpO h,Av Bp0 k.cs]) ?_ ?_
 ·have cu: ∀{X:World} {M:List Ob},Sy w X h.blocks ([hpO h,Av Bp0 k.cs]++M)->Sy w X h.blocks [hpO h,Av Bp0 k.cs]:=fun h=>Sy.left h
  refine wp_region_held_drew (P:=prog) (S:=fun X=>Sy w X h.blocks _) (by kernel_rfl) (hS1) (fun hS0=> ?_)
  refine gp 0 (some 9) (.pointer (some ⟨h.b,0,none⟩)) rfl rfl (hS1) ?_
  refine gp 1 (some 10) (.int .i64 o) rfl rfl (hS1) ?_
  refine gq 3 (some 12) (.agg k.cs.toArray) rfl rfl (fun X hX=>Af (vs:=k.cs) 37 2 rwK szK rfl rfl (hX.hold 1 rfl) rfl rfl) (hS1) ?_
  have hq:=hS1
  repeat' first|((with_reducible show wpAnyH ..);(try simp only[nn]);first|refine gr (rs:= [2]) ?_ (by decide+kernel)|refine gr (rs:= [4]) ?_ (by decide+kernel)|refine gr (rs:= [5]) ?_ (by decide+kernel)|refine gr (rs:= [6]) ?_ (by decide+kernel)|(refine gp 7 (some 8) (.int .i64 (orE [thE o h.l.length,Da k])) rfl rfl (cu hq) ?_)|(refine dn ?_;(try simp only[nn]);exact pN ⟨_,rfl,(cu hq)⟩))|((with_reducible show AllReadyH _ _ _ _ _ _ _ _ _ (2::_));refine gcW 2 (some 11) rfl rfl (hq) (kt (hq.hp 0 rfl)) ?_ ?_)|((with_reducible show AllReadyH _ _ _ _ _ _ _ _ _ (4::_));refine gcB 4 (some 13) rfl rfl hq (kk hq.fr) id (fun _ hq=> ?_) ?_)|((with_reducible show AllReadyH _ _ _ _ _ _ _ _ _ (5::_));refine Nl 5 (some 14) rfl rfl (ZcG rfl rfl rfl) hq (fun _ hZ=>(cu hZ)) (fun _ B5_ _ hq=> ?_) ?_)|((with_reducible show AllReadyH _ _ _ _ _ _ _ _ _ (6::_));refine gcW 6 (some 15) rfl rfl (cu hq) (ko (B:=B5_) (hq.hold 2 rfl)) ?_ ?_)|exact gn
 ·rintro a' X ⟨v14,rfl,hS9⟩
  simp only[nn]
  have SS:=Ab hS9
  clear hS9
  by_cases hc:orE [thE o h.l.length,Da k]=0
  ·obtain⟨j,q,ho_,hj⟩:=Kf (h:=h) (o:=o) (Ef hc (thE o h.l.length) (by simp))
   have HO_:=Ab ho_
   clear ho_
   go_wp2_with (first|go_skip|((with_reducible show wpList ..);first|(refine rd rfl (Lm rfl rfl rfl hc) ?_)|(refine zL (k.cs) 37 2 1 rwK szK rfl rfl SS rfl rfl rfl ?_;simp only[nn])))
   have HC:=hC j q _ (Aa HO_) hj hc (HP.To.end H (Aa SS) rfl)
   rw[Du] at HC
   rw[←Aa HO_] at HC
   refine HC.mono ?_
   rintro _ Y9 ⟨h1,y,er,rfl,hP,T9⟩
   replace SS:=Ab ((Aa SS).heap 0 rfl T9)
   have hb9:h1.b=h.b:=T9.hb
   clear T9 HC
   go_wp2
   go_ret2
   exact⟨h1,y,er,rfl, .inr ⟨hc,hP⟩,HP.To.end H (Aa SS) hb9⟩
  ·go_wp2_with (first|go_skip|((with_reducible show wpList ..);(refine rd rfl (Gy rfl rfl rfl hc) ?_)))
   go_ret2
   exact⟨h,false,_,rfl, .inl ⟨hc,rfl,rfl,rfl⟩,HP.To.end H (Aa SS) rfl⟩
theorem dorGet (h:HP) (o:Int) (k:KK) (r:VV) (w:World) (H:h.Is w) (hl:h.l.length<=65536) (hT:Tabs w) (P:HP->VV->Value->Prop) (hC: ∀(j:Nat) (q:OB) (X:World),o=(j:Int)+1->h.l[j]? =some q->orE [thE o h.l.length,Da k,Bm [r],Ay h.l.length [r]]=0->h.To h w X->Calls prog 44 #[.pointer (some ⟨h.b,0,none⟩), .int .i64 ((j:Int)+1),k.agg,r.agg] X fun e w'=> ∃(h1:HP) (V:VV) (er:Value),e= .returned (.tuple #[V.agg,er])/\P h1 V er/\h.To h1 X w'):Calls prog 17 #[.pointer (some ⟨h.b,0,none⟩), .int .i64 o,k.agg,r.agg] w fun e w'=> ∃(h1:HP) (V:VV) (er:Value),e= .returned (.tuple #[V.agg,er])/\((orE [thE o h.l.length,Da k,Bm [r],Ay h.l.length [r]]≠0/\er=Ax (orE [thE o h.l.length,Da k,Bm [r],Ay h.l.length [r]])/\h1=h)∨(orE [thE o h.l.length,Da k,Bm [r],Ay h.l.length [r]]=0/\P h1 V er))/\h.To h1 w w':=by
 have SS:=Ab H.start
 rw[Du,Dg]
 go_enter func17,ntmps17
 go_wp2_with (first|go_skip|((with_reducible show wpList ..);first|(refine zB 37 (k.cs) rfl rfl rfl SS ?_;clear SS;intro Xp0 Bp0 SS;simp only[nn])|(refine zB 40 (r.cs) rfl rfl rfl SS ?_;clear SS;intro Xp1 Bp1 SS;simp only[nn])|(refine zA 40 (Aq.cs) rfl SS ?_;clear SS;intro Xc Bc SS;simp only[nn])))
 have kt:=fun {X:World} (s:h.Is X)=>Gw h o X s
 have kk:=fun {X:World} (s:Fr w X h.blocks)=>Xn k X (hT.fr s H.low).1
 have ks:=fun {X:World} {B:Nat} (s:Fr w X h.blocks) (g:Holds X B ([r].flatMap VV.cs))=>Og (some ⟨B,0,none⟩) 1 [r] X (hT.fr s H.low).1 (Dy g) (by simp)
 have kn:=fun {X:World} {B:Nat} (s:h.Is X) (g:Holds X B ([r].flatMap VV.cs))=>Lx h (some ⟨B,0,none⟩) 1 [r] X s (Dy g) (by simp)
 have ko:=fun {X:World} {B:Nat} (g:Holds X B (Mr [thE o h.l.length,Da k,Bm [r],Ay h.l.length [r]]))=>Mh B 4 [thE o h.l.length,Da k,Bm [r],Ay h.l.length [r]] X g (by simp)
 have hS1:Sy w _ h.blocks [hpO h,Av Bp0 k.cs,Av Bp1 r.cs,Av Bc Aq.cs]:=(Aa SS).drew
 clear SS
 refine Dx (fun a a' X=> ∃(v17 v21 v23:Value),a'=(((((((((((((((a.put (some 11) (.pointer (some ⟨h.b,0,none⟩))).put (some 12) (.int .i64 o)).put (some 13) (.int .i64 (thE o h.l.length))).put (some 14) (.agg k.cs.toArray)).put (some 15) (.int .i64 (Da k))).put (some 16) (.agg (r.cs).toArray)).put (some 17) v17).put (some 18) (.int .i64 (Bm [r]))).put (some 19) (.pointer (some ⟨h.b,0,none⟩))).put (some 20) (.agg (r.cs).toArray)).put (some 21) v21).put (some 22) (.int .i64 (Ay h.l.length [r]))).put (some 23) v23).put (some 24) (.int .i64 (orE [thE o h.l.length,Da k,Bm [r],Ay h.l.length [r]]))).put (some 10) (.int .i64 (orE [thE o h.l.length,Da k,Bm [r],Ay h.l.length [r]])))/\Sy w X h.blocks [hpO h,Av Bp0 k.cs,Av Bp1 r.cs,Av Bc Aq.cs]) ?_ ?_
 ·have cu: ∀{X:World} {M:List Ob},Sy w X h.blocks ([hpO h,Av Bp0 k.cs,Av Bp1 r.cs,Av Bc Aq.cs]++M)->Sy w X h.blocks [hpO h,Av Bp0 k.cs,Av Bp1 r.cs,Av Bc Aq.cs]:=fun h=>Sy.left h
  refine wp_region_held_drew (P:=prog) (S:=fun X=>Sy w X h.blocks _) (by kernel_rfl) (hS1) (fun hS0=> ?_)
  refine gp 0 (some 11) (.pointer (some ⟨h.b,0,none⟩)) rfl rfl (hS1) ?_
  refine gp 1 (some 12) (.int .i64 o) rfl rfl (hS1) ?_
  refine gq 3 (some 14) (.agg k.cs.toArray) rfl rfl (fun X hX=>Af (vs:=k.cs) 37 2 rwK szK rfl rfl (hX.hold 1 rfl) rfl rfl) (hS1) ?_
  refine gq 5 (some 16) (.agg (r.cs).toArray) rfl rfl (fun X hX=>Af (vs:=r.cs) 40 5 rwV szV rfl rfl (hX.hold 2 rfl) rfl rfl) (hS1) ?_
  refine gp 8 (some 19) (.pointer (some ⟨h.b,0,none⟩)) rfl rfl (hS1) ?_
  refine gq 9 (some 20) (.agg (r.cs).toArray) rfl rfl (fun X hX=>Af (vs:=r.cs) 40 5 rwV szV rfl rfl (hX.hold 2 rfl) rfl rfl) (hS1) ?_
  have hq:=hS1
  repeat' first|((with_reducible show wpAnyH ..);(try simp only[nn]);first|refine gr (rs:= [2,6,10]) ?_ (by decide+kernel)|refine gr (rs:= [4,6,10]) ?_ (by decide+kernel)|refine gr (rs:= [6,10]) ?_ (by decide+kernel)|refine gr (rs:= [7,10]) ?_ (by decide+kernel)|refine gr (rs:= [10]) ?_ (by decide+kernel)|refine gr (rs:= [11]) ?_ (by decide+kernel)|refine gr (rs:= [12]) ?_ (by decide+kernel)|refine gr (rs:= [13]) ?_ (by decide+kernel)|refine gr (rs:= [7]) ?_ (by decide+kernel)|refine gr (rs:= [6]) ?_ (by decide+kernel)|refine gr (rs:= [4,10]) ?_ (by decide+kernel)|refine gr (rs:= [4]) ?_ (by decide+kernel)|refine gr (rs:= [4,6]) ?_ (by decide+kernel)|refine gr (rs:= [2,10]) ?_ (by decide+kernel)|refine gr (rs:= [2]) ?_ (by decide+kernel)|refine gr (rs:= [2,6]) ?_ (by decide+kernel)|(refine gp 14 (some 10) (.int .i64 (orE [thE o h.l.length,Da k,Bm [r],Ay h.l.length [r]])) rfl rfl (cu hq) ?_)|(refine dn ?_;(try simp only[nn]);exact pN ⟨_,_,_,rfl,(cu hq)⟩))|((with_reducible show AllReadyH _ _ _ _ _ _ _ _ _ (2::_));first|refine gcW 2 (some 13) rfl rfl (cu hq) (kt (hq.hp 0 rfl)) ?_ ?_|refine gcW 2 (some 13) rfl rfl (hq) (kt (hq.hp 0 rfl)) ?_ ?_)|((with_reducible show AllReadyH _ _ _ _ _ _ _ _ _ (4::_));first|refine gcB 4 (some 15) rfl rfl hq (kk hq.fr) (fun x=>(cu x)) (fun _ hq=> ?_) ?_|refine gcB 4 (some 15) rfl rfl hq (kk hq.fr) id (fun _ hq=> ?_) ?_)|((with_reducible show AllReadyH _ _ _ _ _ _ _ _ _ (6::_));refine Nl 6 (some 17) rfl rfl (Ox rfl rfl) hq (fun _ hZ=>(cu hZ)) (fun _ B6_ _ hq=> ?_) ?_)|((with_reducible show AllReadyH _ _ _ _ _ _ _ _ _ (7::_));first|refine gcB 7 (some 18) rfl rfl hq (ks (B:=B6_) hq.fr (hq.hold 4 rfl)) (fun x=>(cu x)) (fun _ hq=> ?_) ?_|refine gcB 7 (some 18) rfl rfl hq (ks (B:=B6_) hq.fr (hq.hold 5 rfl)) (fun x=>(cu x)) (fun _ hq=> ?_) ?_)|((with_reducible show AllReadyH _ _ _ _ _ _ _ _ _ (10::_));refine Nl 10 (some 21) rfl rfl (Ox rfl rfl) hq (fun _ hZ=>(cu hZ)) (fun _ B10_ _ hq=> ?_) ?_)|((with_reducible show AllReadyH _ _ _ _ _ _ _ _ _ (11::_));first|refine gcB 11 (some 22) rfl rfl hq (kn (B:=B10_) (hq.hp 0 rfl) (hq.hold 4 rfl)) (fun x=>(cu x)) (fun _ hq=> ?_) ?_|refine gcB 11 (some 22) rfl rfl hq (kn (B:=B10_) (hq.hp 0 rfl) (hq.hold 5 rfl)) (fun x=>(cu x)) (fun _ hq=> ?_) ?_)|((with_reducible show AllReadyH _ _ _ _ _ _ _ _ _ (12::_));refine Nl 12 (some 23) rfl rfl (ZcF rfl rfl rfl rfl rfl) hq (fun _ hZ=>(cu hZ)) (fun _ B12_ _ hq=> ?_) ?_)|((with_reducible show AllReadyH _ _ _ _ _ _ _ _ _ (13::_));refine gcW 13 (some 24) rfl rfl (cu hq) (ko (B:=B12_) (hq.hold 6 rfl)) ?_ ?_)|exact gn
 ·rintro a' X ⟨v17,v21,v23,rfl,hS9⟩
  simp only[nn]
  have SS:=Ab hS9
  clear hS9
  by_cases hc:orE [thE o h.l.length,Da k,Bm [r],Ay h.l.length [r]]=0
  ·obtain⟨j,q,ho_,hj⟩:=Kf (h:=h) (o:=o) (Ef hc (thE o h.l.length) (by simp))
   have HO_:=Ab ho_
   clear ho_
   go_wp2_with (first|go_skip|((with_reducible show wpList ..);first|(refine rd rfl (Lm rfl rfl rfl hc) ?_)|(refine zL (k.cs) 37 2 1 rwK szK rfl rfl SS rfl rfl rfl ?_;simp only[nn])|(refine zL (r.cs) 40 5 2 rwV szV rfl rfl SS rfl rfl rfl ?_;simp only[nn])))
   have HC:=hC j q _ (Aa HO_) hj hc (HP.To.end H (Aa SS) rfl)
   rw[Du,Dg] at HC
   rw[←Aa HO_] at HC
   refine HC.mono ?_
   rintro _ Y9 ⟨h1,V,er,rfl,hP,T9⟩
   replace SS:=Ab ((Aa SS).heap 0 rfl T9)
   have hb9:h1.b=h.b:=T9.hb
   clear T9 HC
   rw[Dg]
   go_wp2_with (first|go_skip|((with_reducible show wpList ..);(refine zS (V.cs) 3 40 rfl rfl rfl rfl (Gh _) szV SS rfl ?_;clear SS;intro Xy SS;simp only[nn])))
   refine bodyPost_ret (Gx rwV szV rfl rfl rfl ((Aa SS).hold 3 rfl) rfl) rfl ?_
   exact⟨h1,V,er,rfl, .inr ⟨hc,hP⟩,HP.To.end H (Aa SS) hb9⟩
  ·go_wp2_with (first|go_skip|((with_reducible show wpList ..);first|(refine rd rfl (Gy rfl rfl rfl hc) ?_)|(refine rd rfl (Lo rfl) ?_)|(refine zS (Aq.cs) 3 40 rfl rfl rfl rfl (Gh _) szV SS rfl ?_;clear SS;intro Xz SS;simp only[nn])))
   refine bodyPost_ret (Gx rwV szV rfl rfl rfl ((Aa SS).hold 3 rfl) rfl) rfl ?_
   exact⟨h,Aq,_,rfl, .inl ⟨hc,rfl,rfl⟩,HP.To.end H (Aa SS) rfl⟩
