import Derived.Test.YthcmamjpfigdfaaGreatDoorRk
set_option linter.all false
namespace Go.Proofs.YthcmamjpfigdfaaGreatDoor
set_option maxRecDepth 100000
set_option maxHeartbeats 0
section
open Go Go.Proofs Go.Maps Go.RowKit FM Tryz
attribute [local go_sem] Al Ak Ar Ah Am Ai Au Dd Db Bi Aj Bh
theorem Vn (h:HP) (o:Int) (v:VV) (w:World) (H:h.Is w) (hl:h.l.length<=65536) (hT:Tabs w) (P:HP->Bool->Value->Prop) (hC: ∀(j:Nat) (q:OB) (X:World),o=(j:Int)+1->h.l[j]? =some q->orE [thE o h.l.length,Bm [v],Ay h.l.length [v],Df v]=0->h.To h w X->Calls prog 119 #[.pointer (some ⟨h.b,0,none⟩), .int .i64 ((j:Int)+1),v.agg] X fun e w'=> ∃(h1:HP) (y:Bool) (er:Value),e= .returned (.tuple #[.bool y,er])/\P h1 y er/\h.To h1 X w'):Calls prog 69 #[.pointer (some ⟨h.b,0,none⟩), .int .i64 o,v.agg] w fun e w'=> ∃(h1:HP) (y:Bool) (er:Value),e= .returned (.tuple #[.bool y,er])/\((orE [thE o h.l.length,Bm [v],Ay h.l.length [v],Df v]≠0/\er=Ax (orE [thE o h.l.length,Bm [v],Ay h.l.length [v],Df v])/\h1=h/\y=false)∨(orE [thE o h.l.length,Bm [v],Ay h.l.length [v],Df v]=0/\P h1 y er))/\h.To h1 w w':=by
 have SS:=Ab H.start
 rw[Dg]
 go_enter func69,ntmps69
 go_wp2_with (first|go_skip|((with_reducible show wpList ..);(refine zB 40 (v.cs) rfl rfl rfl SS ?_;clear SS;intro Xp0 Bp0 SS;simp only[nn])))
 have kt:=fun {X:World} (s:h.Is X)=>Gw h o X s
 have ks:=fun {X:World} {B:Nat} (s:Fr w X h.blocks) (g:Holds X B ([v].flatMap VV.cs))=>Og (some ⟨B,0,none⟩) 1 [v] X (hT.fr s H.low).1 (Dy g) (by simp)
 have kn:=fun {X:World} {B:Nat} (s:h.Is X) (g:Holds X B ([v].flatMap VV.cs))=>Lx h (some ⟨B,0,none⟩) 1 [v] X s (Dy g) (by simp)
 have ko:=fun {X:World} {B:Nat} (g:Holds X B (Mr [thE o h.l.length,Bm [v],Ay h.l.length [v],Df v]))=>Mh B 4 [thE o h.l.length,Bm [v],Ay h.l.length [v],Df v] X g (by simp)
 have hS1:Sy w _ h.blocks [hpO h,Av Bp0 v.cs]:=(Aa SS).drew
 clear SS
 refine Dx (fun a a' X=> ∃(v13 v17 v21:Value),a'=(((((((((((((((a.put (some 9) (.pointer (some ⟨h.b,0,none⟩))).put (some 10) (.int .i64 o)).put (some 11) (.int .i64 (thE o h.l.length))).put (some 12) (.agg (v.cs).toArray)).put (some 13) v13).put (some 14) (.int .i64 (Bm [v]))).put (some 15) (.pointer (some ⟨h.b,0,none⟩))).put (some 16) (.agg (v.cs).toArray)).put (some 17) v17).put (some 18) (.int .i64 (Ay h.l.length [v]))).put (some 19) (.agg (v.cs).toArray)).put (some 20) (.int .i64 (Df v))).put (some 21) v21).put (some 22) (.int .i64 (orE [thE o h.l.length,Bm [v],Ay h.l.length [v],Df v]))).put (some 8) (.int .i64 (orE [thE o h.l.length,Bm [v],Ay h.l.length [v],Df v])))/\Sy w X h.blocks [hpO h,Av Bp0 v.cs]) ?_ ?_
 ·have cu: ∀{X:World} {M:List Ob},Sy w X h.blocks ([hpO h,Av Bp0 v.cs]++M)->Sy w X h.blocks [hpO h,Av Bp0 v.cs]:=fun h=>Sy.left h
  refine wp_region_held_drew (P:=prog) (S:=fun X=>Sy w X h.blocks _) (by kernel_rfl) (hS1) (fun hS0=> ?_)
  refine gp 0 (some 9) (.pointer (some ⟨h.b,0,none⟩)) rfl rfl (hS1) ?_
  refine gp 1 (some 10) (.int .i64 o) rfl rfl (hS1) ?_
  refine gq 3 (some 12) (.agg (v.cs).toArray) rfl rfl (fun X hX=>Af (vs:=v.cs) 40 5 rwV szV rfl rfl (hX.hold 1 rfl) rfl rfl) (hS1) ?_
  refine gp 6 (some 15) (.pointer (some ⟨h.b,0,none⟩)) rfl rfl (hS1) ?_
  refine gq 7 (some 16) (.agg (v.cs).toArray) rfl rfl (fun X hX=>Af (vs:=v.cs) 40 5 rwV szV rfl rfl (hX.hold 1 rfl) rfl rfl) (hS1) ?_
  refine gq 10 (some 19) (.agg (v.cs).toArray) rfl rfl (fun X hX=>Af (vs:=v.cs) 40 5 rwV szV rfl rfl (hX.hold 1 rfl) rfl rfl) (hS1) ?_
  have hq:=hS1
  repeat' first|((with_reducible show wpAnyH ..);(try simp only[nn]);first|refine gr (rs:= [2,4,8]) ?_ (by decide+kernel)|refine gr (rs:= [4,8]) ?_ (by decide+kernel)|refine gr (rs:= [5,8]) ?_ (by decide+kernel)|refine gr (rs:= [8]) ?_ (by decide+kernel)|refine gr (rs:= [9]) ?_ (by decide+kernel)|refine gr (rs:= [11]) ?_ (by decide+kernel)|refine gr (rs:= [12]) ?_ (by decide+kernel)|refine gr (rs:= [13]) ?_ (by decide+kernel)|refine gr (rs:= [5]) ?_ (by decide+kernel)|refine gr (rs:= [4]) ?_ (by decide+kernel)|refine gr (rs:= [2,8]) ?_ (by decide+kernel)|refine gr (rs:= [2]) ?_ (by decide+kernel)|refine gr (rs:= [2,4]) ?_ (by decide+kernel)|(refine gp 14 (some 8) (.int .i64 (orE [thE o h.l.length,Bm [v],Ay h.l.length [v],Df v])) rfl rfl (cu hq) ?_)|(refine dn ?_;(try simp only[nn]);exact pN ⟨_,_,_,rfl,(cu hq)⟩))|((with_reducible show AllReadyH _ _ _ _ _ _ _ _ _ (2::_));first|refine gcW 2 (some 11) rfl rfl (cu hq) (kt (hq.hp 0 rfl)) ?_ ?_|refine gcW 2 (some 11) rfl rfl (hq) (kt (hq.hp 0 rfl)) ?_ ?_)|((with_reducible show AllReadyH _ _ _ _ _ _ _ _ _ (4::_));refine Nl 4 (some 13) rfl rfl (Ox rfl rfl) hq (fun _ hZ=>(cu hZ)) (fun _ B4_ _ hq=> ?_) ?_)|((with_reducible show AllReadyH _ _ _ _ _ _ _ _ _ (5::_));first|refine gcB 5 (some 14) rfl rfl hq (ks (B:=B4_) hq.fr (hq.hold 2 rfl)) (fun x=>(cu x)) (fun _ hq=> ?_) ?_|refine gcB 5 (some 14) rfl rfl hq (ks (B:=B4_) hq.fr (hq.hold 3 rfl)) (fun x=>(cu x)) (fun _ hq=> ?_) ?_)|((with_reducible show AllReadyH _ _ _ _ _ _ _ _ _ (8::_));refine Nl 8 (some 17) rfl rfl (Ox rfl rfl) hq (fun _ hZ=>(cu hZ)) (fun _ B8_ _ hq=> ?_) ?_)|((with_reducible show AllReadyH _ _ _ _ _ _ _ _ _ (9::_));first|refine gcB 9 (some 18) rfl rfl hq (kn (B:=B8_) (hq.hp 0 rfl) (hq.hold 2 rfl)) (fun x=>(cu x)) (fun _ hq=> ?_) ?_|refine gcB 9 (some 18) rfl rfl hq (kn (B:=B8_) (hq.hp 0 rfl) (hq.hold 3 rfl)) (fun x=>(cu x)) (fun _ hq=> ?_) ?_)|((with_reducible show AllReadyH _ _ _ _ _ _ _ _ _ (11::_));refine gcB 11 (some 20) rfl rfl hq (Ni v _) (fun x=>(cu x)) (fun _ hq=> ?_) ?_)|((with_reducible show AllReadyH _ _ _ _ _ _ _ _ _ (12::_));refine Nl 12 (some 21) rfl rfl (ZcF rfl rfl rfl rfl rfl) hq (fun _ hZ=>(cu hZ)) (fun _ B12_ _ hq=> ?_) ?_)|((with_reducible show AllReadyH _ _ _ _ _ _ _ _ _ (13::_));refine gcW 13 (some 22) rfl rfl (cu hq) (ko (B:=B12_) (hq.hold 4 rfl)) ?_ ?_)|exact gn
 ·rintro a' X ⟨v13,v17,v21,rfl,hS9⟩
  simp only[nn]
  have SS:=Ab hS9
  clear hS9
  by_cases hc:orE [thE o h.l.length,Bm [v],Ay h.l.length [v],Df v]=0
  ·obtain⟨j,q,ho_,hj⟩:=Kf (h:=h) (o:=o) (Ef hc (thE o h.l.length) (by simp))
   have HO_:=Ab ho_
   clear ho_
   go_wp2_with (first|go_skip|((with_reducible show wpList ..);first|(refine rd rfl (Lm rfl rfl rfl hc) ?_)|(refine zL (v.cs) 40 5 1 rwV szV rfl rfl SS rfl rfl rfl ?_;simp only[nn])))
   have HC:=hC j q _ (Aa HO_) hj hc (HP.To.end H (Aa SS) rfl)
   rw[Dg] at HC
   rw[←Aa HO_] at HC
   refine HC.mono ?_
   rintro _ Y9 ⟨h1,y,er,rfl,hP,T9⟩
   replace SS:=Ab ((Aa SS).heap 0 rfl T9)
   have hb9:h1.b=h.b:=T9.hb
   clear T9 HC
   go_wp2
   go_ret2
   exact⟨h1,y,er,rfl, .inr ⟨hc,hP⟩,HP.To.end H (Aa SS) hb9⟩
  ·go_wp2_with (first|go_skip|((with_reducible show wpList ..);(refine rd rfl (Gy rfl rfl rfl hc) ?_)))
   go_ret2
   exact⟨h,false,_,rfl, .inl ⟨hc,rfl,rfl,rfl⟩,HP.To.end H (Aa SS) rfl⟩
theorem dorSet (h:HP) (o:Int) (k:KK) (v:VV) (r:VV) (w:World) (H:h.Is w) (hl:h.l.length<=65536) (hT:Tabs w) (P:HP->Bool->Value->Prop) (hC: ∀(j:Nat) (q:OB) (X:World),o=(j:Int)+1->h.l[j]? =some q->orE [thE o h.l.length,Da k,Bm [v,r],Ay h.l.length [v,r]]=0->h.To h w X->Calls prog 45 #[.pointer (some ⟨h.b,0,none⟩), .int .i64 ((j:Int)+1),k.agg,v.agg,r.agg] X fun e w'=> ∃(h1:HP) (y:Bool) (er:Value),e= .returned (.tuple #[.bool y,er])/\P h1 y er/\h.To h1 X w'):Calls prog 19 #[.pointer (some ⟨h.b,0,none⟩), .int .i64 o,k.agg,v.agg,r.agg] w fun e w'=> ∃(h1:HP) (y:Bool) (er:Value),e= .returned (.tuple #[.bool y,er])/\((orE [thE o h.l.length,Da k,Bm [v,r],Ay h.l.length [v,r]]≠0/\er=Ax (orE [thE o h.l.length,Da k,Bm [v,r],Ay h.l.length [v,r]])/\h1=h/\y=false)∨(orE [thE o h.l.length,Da k,Bm [v,r],Ay h.l.length [v,r]]=0/\P h1 y er))/\h.To h1 w w':=by
 have SS:=Ab H.start
 rw[Du,Dg,Dg]
 go_enter func19,ntmps19
 go_wp2_with (first|go_skip|((with_reducible show wpList ..);first|(refine zB 37 (k.cs) rfl rfl rfl SS ?_;clear SS;intro Xp0 Bp0 SS;simp only[nn])|(refine zB 40 (v.cs) rfl rfl rfl SS ?_;clear SS;intro Xp1 Bp1 SS;simp only[nn])|(refine zB 40 (r.cs) rfl rfl rfl SS ?_;clear SS;intro Xp2 Bp2 SS;simp only[nn])))
 have kt:=fun {X:World} (s:h.Is X)=>Gw h o X s
 have kk:=fun {X:World} (s:Fr w X h.blocks)=>Xn k X (hT.fr s H.low).1
 have ks:=fun {X:World} {B:Nat} (s:Fr w X h.blocks) (g:Holds X B ([v,r].flatMap VV.cs))=>Og (some ⟨B,0,none⟩) 2 [v,r] X (hT.fr s H.low).1 (Dy g) (by simp)
 have kn:=fun {X:World} {B:Nat} (s:h.Is X) (g:Holds X B ([v,r].flatMap VV.cs))=>Lx h (some ⟨B,0,none⟩) 2 [v,r] X s (Dy g) (by simp)
 have ko:=fun {X:World} {B:Nat} (g:Holds X B (Mr [thE o h.l.length,Da k,Bm [v,r],Ay h.l.length [v,r]]))=>Mh B 4 [thE o h.l.length,Da k,Bm [v,r],Ay h.l.length [v,r]] X g (by simp)
 have hS1:Sy w _ h.blocks [hpO h,Av Bp0 k.cs,Av Bp1 v.cs,Av Bp2 r.cs]:=(Aa SS).drew
 clear SS
 refine Dx (fun a a' X=> ∃(v20 v25 v27:Value),a'=(((((((((((((((((a.put (some 13) (.pointer (some ⟨h.b,0,none⟩))).put (some 14) (.int .i64 o)).put (some 15) (.int .i64 (thE o h.l.length))).put (some 16) (.agg k.cs.toArray)).put (some 17) (.int .i64 (Da k))).put (some 18) (.agg (v.cs).toArray)).put (some 19) (.agg (r.cs).toArray)).put (some 20) v20).put (some 21) (.int .i64 (Bm [v,r]))).put (some 22) (.pointer (some ⟨h.b,0,none⟩))).put (some 23) (.agg (v.cs).toArray)).put (some 24) (.agg (r.cs).toArray)).put (some 25) v25).put (some 26) (.int .i64 (Ay h.l.length [v,r]))).put (some 27) v27).put (some 28) (.int .i64 (orE [thE o h.l.length,Da k,Bm [v,r],Ay h.l.length [v,r]]))).put (some 12) (.int .i64 (orE [thE o h.l.length,Da k,Bm [v,r],Ay h.l.length [v,r]])))/\Sy w X h.blocks [hpO h,Av Bp0 k.cs,Av Bp1 v.cs,Av Bp2 r.cs]) ?_ ?_
 ·have cu: ∀{X:World} {M:List Ob},Sy w X h.blocks ([hpO h,Av Bp0 k.cs,Av Bp1 v.cs,Av Bp2 r.cs]++M)->Sy w X h.blocks [hpO h,Av Bp0 k.cs,Av Bp1 v.cs,Av Bp2 r.cs]:=fun h=>Sy.left h
  refine wp_region_held_drew (P:=prog) (S:=fun X=>Sy w X h.blocks _) (by kernel_rfl) (hS1) (fun hS0=> ?_)
  refine gp 0 (some 13) (.pointer (some ⟨h.b,0,none⟩)) rfl rfl (hS1) ?_
  refine gp 1 (some 14) (.int .i64 o) rfl rfl (hS1) ?_
  refine gq 3 (some 16) (.agg k.cs.toArray) rfl rfl (fun X hX=>Af (vs:=k.cs) 37 2 rwK szK rfl rfl (hX.hold 1 rfl) rfl rfl) (hS1) ?_
  refine gq 5 (some 18) (.agg (v.cs).toArray) rfl rfl (fun X hX=>Af (vs:=v.cs) 40 5 rwV szV rfl rfl (hX.hold 2 rfl) rfl rfl) (hS1) ?_
  refine gq 6 (some 19) (.agg (r.cs).toArray) rfl rfl (fun X hX=>Af (vs:=r.cs) 40 5 rwV szV rfl rfl (hX.hold 3 rfl) rfl rfl) (hS1) ?_
  refine gp 9 (some 22) (.pointer (some ⟨h.b,0,none⟩)) rfl rfl (hS1) ?_
  refine gq 10 (some 23) (.agg (v.cs).toArray) rfl rfl (fun X hX=>Af (vs:=v.cs) 40 5 rwV szV rfl rfl (hX.hold 2 rfl) rfl rfl) (hS1) ?_
  refine gq 11 (some 24) (.agg (r.cs).toArray) rfl rfl (fun X hX=>Af (vs:=r.cs) 40 5 rwV szV rfl rfl (hX.hold 3 rfl) rfl rfl) (hS1) ?_
  have hq:=hS1
  repeat' first|((with_reducible show wpAnyH ..);(try simp only[nn]);first|refine gr (rs:= [2,7,12]) ?_ (by decide+kernel)|refine gr (rs:= [4,7,12]) ?_ (by decide+kernel)|refine gr (rs:= [7,12]) ?_ (by decide+kernel)|refine gr (rs:= [8,12]) ?_ (by decide+kernel)|refine gr (rs:= [12]) ?_ (by decide+kernel)|refine gr (rs:= [13]) ?_ (by decide+kernel)|refine gr (rs:= [14]) ?_ (by decide+kernel)|refine gr (rs:= [15]) ?_ (by decide+kernel)|refine gr (rs:= [8]) ?_ (by decide+kernel)|refine gr (rs:= [7]) ?_ (by decide+kernel)|refine gr (rs:= [4,12]) ?_ (by decide+kernel)|refine gr (rs:= [4]) ?_ (by decide+kernel)|refine gr (rs:= [4,7]) ?_ (by decide+kernel)|refine gr (rs:= [2,12]) ?_ (by decide+kernel)|refine gr (rs:= [2]) ?_ (by decide+kernel)|refine gr (rs:= [2,7]) ?_ (by decide+kernel)|(refine gp 16 (some 12) (.int .i64 (orE [thE o h.l.length,Da k,Bm [v,r],Ay h.l.length [v,r]])) rfl rfl (cu hq) ?_)|(refine dn ?_;(try simp only[nn]);exact pN ⟨_,_,_,rfl,(cu hq)⟩))|((with_reducible show AllReadyH _ _ _ _ _ _ _ _ _ (2::_));first|refine gcW 2 (some 15) rfl rfl (cu hq) (kt (hq.hp 0 rfl)) ?_ ?_|refine gcW 2 (some 15) rfl rfl (hq) (kt (hq.hp 0 rfl)) ?_ ?_)|((with_reducible show AllReadyH _ _ _ _ _ _ _ _ _ (4::_));first|refine gcB 4 (some 17) rfl rfl hq (kk hq.fr) (fun x=>(cu x)) (fun _ hq=> ?_) ?_|refine gcB 4 (some 17) rfl rfl hq (kk hq.fr) id (fun _ hq=> ?_) ?_)|((with_reducible show AllReadyH _ _ _ _ _ _ _ _ _ (7::_));refine Nl 7 (some 20) rfl rfl (ZcE rfl rfl rfl) hq (fun _ hZ=>(cu hZ)) (fun _ B7_ _ hq=> ?_) ?_)|((with_reducible show AllReadyH _ _ _ _ _ _ _ _ _ (8::_));first|refine gcB 8 (some 21) rfl rfl hq (ks (B:=B7_) hq.fr (hq.hold 4 rfl)) (fun x=>(cu x)) (fun _ hq=> ?_) ?_|refine gcB 8 (some 21) rfl rfl hq (ks (B:=B7_) hq.fr (hq.hold 5 rfl)) (fun x=>(cu x)) (fun _ hq=> ?_) ?_)|((with_reducible show AllReadyH _ _ _ _ _ _ _ _ _ (12::_));refine Nl 12 (some 25) rfl rfl (ZcE rfl rfl rfl) hq (fun _ hZ=>(cu hZ)) (fun _ B12_ _ hq=> ?_) ?_)|((with_reducible show AllReadyH _ _ _ _ _ _ _ _ _ (13::_));first|refine gcB 13 (some 26) rfl rfl hq (kn (B:=B12_) (hq.hp 0 rfl) (hq.hold 4 rfl)) (fun x=>(cu x)) (fun _ hq=> ?_) ?_|refine gcB 13 (some 26) rfl rfl hq (kn (B:=B12_) (hq.hp 0 rfl) (hq.hold 5 rfl)) (fun x=>(cu x)) (fun _ hq=> ?_) ?_)|((with_reducible show AllReadyH _ _ _ _ _ _ _ _ _ (14::_));refine Nl 14 (some 27) rfl rfl (ZcF rfl rfl rfl rfl rfl) hq (fun _ hZ=>(cu hZ)) (fun _ B14_ _ hq=> ?_) ?_)|((with_reducible show AllReadyH _ _ _ _ _ _ _ _ _ (15::_));refine gcW 15 (some 28) rfl rfl (cu hq) (ko (B:=B14_) (hq.hold 6 rfl)) ?_ ?_)|exact gn
 ·rintro a' X ⟨v20,v25,v27,rfl,hS9⟩
  simp only[nn]
  have SS:=Ab hS9
  clear hS9
  by_cases hc:orE [thE o h.l.length,Da k,Bm [v,r],Ay h.l.length [v,r]]=0
  ·obtain⟨j,q,ho_,hj⟩:=Kf (h:=h) (o:=o) (Ef hc (thE o h.l.length) (by simp))
   have HO_:=Ab ho_
   clear ho_
   go_wp2_with (first|go_skip|((with_reducible show wpList ..);first|(refine rd rfl (Lm rfl rfl rfl hc) ?_)|(refine zL (k.cs) 37 2 1 rwK szK rfl rfl SS rfl rfl rfl ?_;simp only[nn])|(refine zL (v.cs) 40 5 2 rwV szV rfl rfl SS rfl rfl rfl ?_;simp only[nn])|(refine zL (r.cs) 40 5 3 rwV szV rfl rfl SS rfl rfl rfl ?_;simp only[nn])))
   have HC:=hC j q _ (Aa HO_) hj hc (HP.To.end H (Aa SS) rfl)
   rw[Du,Dg,Dg] at HC
   rw[←Aa HO_] at HC
   refine HC.mono ?_
   rintro _ Y9 ⟨h1,y,er,rfl,hP,T9⟩
   replace SS:=Ab ((Aa SS).heap 0 rfl T9)
   have hb9:h1.b=h.b:=T9.hb
   clear T9 HC
   go_wp2
   go_ret2
   exact⟨h1,y,er,rfl, .inr ⟨hc,hP⟩,HP.To.end H (Aa SS) hb9⟩
  ·go_wp2_with (first|go_skip|((with_reducible show wpList ..);(refine rd rfl (Gy rfl rfl rfl hc) ?_)))
   go_ret2
   exact⟨h,false,_,rfl, .inl ⟨hc,rfl,rfl,rfl⟩,HP.To.end H (Aa SS) rfl⟩
