import Derived.Test.YthcmamjpfigdfaaGreatDoorRk
set_option linter.all false
namespace Go.Proofs.YthcmamjpfigdfaaGreatDoor
set_option maxRecDepth 100000
set_option maxHeartbeats 0
section
open Go Go.Proofs Go.Maps Go.RowKit FM
attribute [local go_sem] Al Ak Ar Ah Am Ai Au Dd Db Bi Aj Bh
theorem Qh (h:HP) (o:Int) (k:KK) (d:DD) (w:World) (H:h.Is w) (hl:h.l.length<=65536) (hT:Tabs w) (hFd:FD d) (P:HP->Bool->Value->Prop) (hC: ∀(j:Nat) (q:OB) (X:World),o=(j:Int)+1->h.l[j]? =some q->orE [thE o h.l.length,Da k,Mt d,Ay h.l.length [d.v,d.g,d.s],Mu [d.g,d.s]]=0->h.To h w X->Calls Tryz.prog 42 #[.pointer (some ⟨h.b,0,none⟩), .int .i64 ((j:Int)+1),k.agg,d.agg] X fun e w'=> ∃(h1:HP) (y:Bool) (er:Value),e= .returned (.tuple #[.bool y,er])/\P h1 y er/\h.To h1 X w'):Calls Tryz.prog 16 #[.pointer (some ⟨h.b,0,none⟩), .int .i64 o,k.agg,d.agg] w fun e w'=> ∃(h1:HP) (y:Bool) (er:Value),e= .returned (.tuple #[.bool y,er])/\((orE [thE o h.l.length,Da k,Mt d,Ay h.l.length [d.v,d.g,d.s],Mu [d.g,d.s]]≠0/\er=Ax (orE [thE o h.l.length,Da k,Mt d,Ay h.l.length [d.v,d.g,d.s],Mu [d.g,d.s]])/\h1=h/\y=false)∨(orE [thE o h.l.length,Da k,Mt d,Ay h.l.length [d.v,d.g,d.s],Mu [d.g,d.s]]=0/\P h1 y er))/\h.To h1 w w':=by
 have SS:=Ab H.start
 rw[Du,Qj]
 go_enter Tryz.func16,Tryz.ntmps16
 go_wp2_with (first|go_skip|((with_reducible show wpList ..);first|(refine zB 37 (k.cs) rfl rfl rfl SS ?_;clear SS;intro Xp0 Bp0 SS;simp only[nn])|(refine zB 43 (d.cs) rfl rfl rfl SS ?_;clear SS;intro Xp1 Bp1 SS;simp only[nn])))
 have kt:=fun {X:World} (s:h.Is X)=>Gw h o X s
 have kk:=fun {X:World} (s:Fr w X h.blocks)=>Xn k X (hT.fr s H.low).1
 have kd:=fun {X:World} (s:Fr w X h.blocks)=>ZdF d hFd X (hT.fr s H.low).1
 have kn:=fun {X:World} {B:Nat} (s:h.Is X) (g:Holds X B ([d.v,d.g,d.s].flatMap VV.cs))=>Lx h (some ⟨B,0,none⟩) 3 [d.v,d.g,d.s] X s (Dy g) (by simp)
 have ka:=fun {X:World} {B:Nat} (s:h.Is X) (g:Holds X B ([d.g,d.s].flatMap VV.cs))=>acc_h h (some ⟨B,0,none⟩) 2 [d.g,d.s] X s hl (Dy g) (by simp)
 have ko:=fun {X:World} {B:Nat} (g:Holds X B (Mr [thE o h.l.length,Da k,Mt d,Ay h.l.length [d.v,d.g,d.s],Mu [d.g,d.s]]))=>Mh B 5 [thE o h.l.length,Da k,Mt d,Ay h.l.length [d.v,d.g,d.s],Mu [d.g,d.s]] X g (by simp)
 have hS1:Sy w _ h.blocks [hpO h,Av Bp0 k.cs,Av Bp1 d.cs]:=(Aa SS).drew
 clear SS
 refine Dx (fun a a' X=> ∃(v25 v32 v34:Value),a'=((((((((((((((((((((((((((a.put (some 11) (.pointer (some ⟨h.b,0,none⟩))).put (some 12) (.int .i64 o)).put (some 13) (.int .i64 (thE o h.l.length))).put (some 14) (.agg k.cs.toArray)).put (some 15) (.int .i64 (Da k))).put (some 16) (.agg d.cs.toArray)).put (some 17) (.int .i64 (Mt d))).put (some 18) (.pointer (some ⟨h.b,0,none⟩))).put (some 19) (.pointer (some ⟨Bp1,0,none⟩))).put (some 20) (.agg (d.v.cs).toArray)).put (some 21) (.pointer (some ⟨Bp1,5,none⟩))).put (some 22) (.agg (d.g.cs).toArray)).put (some 23) (.pointer (some ⟨Bp1,10,none⟩))).put (some 24) (.agg (d.s.cs).toArray)).put (some 25) v25).put (some 26) (.int .i64 (Ay h.l.length [d.v,d.g,d.s]))).put (some 27) (.pointer (some ⟨h.b,0,none⟩))).put (some 28) (.pointer (some ⟨Bp1,5,none⟩))).put (some 29) (.agg (d.g.cs).toArray)).put (some 30) (.pointer (some ⟨Bp1,10,none⟩))).put (some 31) (.agg (d.s.cs).toArray)).put (some 32) v32).put (some 33) (.int .i64 (Mu [d.g,d.s]))).put (some 34) v34).put (some 35) (.int .i64 (orE [thE o h.l.length,Da k,Mt d,Ay h.l.length [d.v,d.g,d.s],Mu [d.g,d.s]]))).put (some 10) (.int .i64 (orE [thE o h.l.length,Da k,Mt d,Ay h.l.length [d.v,d.g,d.s],Mu [d.g,d.s]])))/\Sy w X h.blocks [hpO h,Av Bp0 k.cs,Av Bp1 d.cs]) ?_ ?_
 ·have cu: ∀{X:World} {M:List Ob},Sy w X h.blocks ([hpO h,Av Bp0 k.cs,Av Bp1 d.cs]++M)->Sy w X h.blocks [hpO h,Av Bp0 k.cs,Av Bp1 d.cs]:=fun h=>Sy.left h
  refine wp_region_held_drew (P:=Tryz.prog) (S:=fun X=>Sy w X h.blocks _) (by kernel_rfl) (hS1) (fun hS0=> ?_)
  refine gp 0 (some 11) (.pointer (some ⟨h.b,0,none⟩)) rfl rfl (hS1) ?_
  refine gp 1 (some 12) (.int .i64 o) rfl rfl (hS1) ?_
  refine gq 3 (some 14) (.agg k.cs.toArray) rfl rfl (fun X hX=>Af (vs:=k.cs) 37 2 rwK szK rfl rfl (hX.hold 1 rfl) rfl rfl) (hS1) ?_
  refine gq 5 (some 16) (.agg d.cs.toArray) rfl rfl (fun X hX=>Af (vs:=d.cs) 43 18 rwD szD rfl rfl (hX.hold 2 rfl) rfl rfl) (hS1) ?_
  refine gp 7 (some 18) (.pointer (some ⟨h.b,0,none⟩)) rfl rfl (hS1) ?_
  refine gp 8 (some 19) (.pointer (some ⟨Bp1,0,none⟩)) rfl rfl (hS1) ?_
  refine gq 9 (some 20) (.agg (d.v.cs).toArray) rfl rfl (fun X hX=>Af (vs:=d.v.cs) 40 5 rwV szV rfl rfl (hX.hold 2 rfl) rfl rfl) (hS1) ?_
  refine gp 10 (some 21) (.pointer (some ⟨Bp1,5,none⟩)) rfl rfl (hS1) ?_
  refine gq 11 (some 22) (.agg (d.g.cs).toArray) rfl rfl (fun X hX=>Af (vs:=d.g.cs) 40 5 rwV szV rfl rfl (hX.hold 2 rfl) rfl rfl) (hS1) ?_
  refine gp 12 (some 23) (.pointer (some ⟨Bp1,10,none⟩)) rfl rfl (hS1) ?_
  refine gq 13 (some 24) (.agg (d.s.cs).toArray) rfl rfl (fun X hX=>Af (vs:=d.s.cs) 40 5 rwV szV rfl rfl (hX.hold 2 rfl) rfl rfl) (hS1) ?_
  refine gp 16 (some 27) (.pointer (some ⟨h.b,0,none⟩)) rfl rfl (hS1) ?_
  refine gp 17 (some 28) (.pointer (some ⟨Bp1,5,none⟩)) rfl rfl (hS1) ?_
  refine gq 18 (some 29) (.agg (d.g.cs).toArray) rfl rfl (fun X hX=>Af (vs:=d.g.cs) 40 5 rwV szV rfl rfl (hX.hold 2 rfl) rfl rfl) (hS1) ?_
  refine gp 19 (some 30) (.pointer (some ⟨Bp1,10,none⟩)) rfl rfl (hS1) ?_
  refine gq 20 (some 31) (.agg (d.s.cs).toArray) rfl rfl (fun X hX=>Af (vs:=d.s.cs) 40 5 rwV szV rfl rfl (hX.hold 2 rfl) rfl rfl) (hS1) ?_
  have hq:=hS1
  repeat' first|((with_reducible show wpAnyH ..);(try simp only[nn]);first|refine gr (rs:= [2,14,21]) ?_ (by decide+kernel)|refine gr (rs:= [4,14,21]) ?_ (by decide+kernel)|refine gr (rs:= [6,14,21]) ?_ (by decide+kernel)|refine gr (rs:= [14,21]) ?_ (by decide+kernel)|refine gr (rs:= [15,21]) ?_ (by decide+kernel)|refine gr (rs:= [21]) ?_ (by decide+kernel)|refine gr (rs:= [22]) ?_ (by decide+kernel)|refine gr (rs:= [23]) ?_ (by decide+kernel)|refine gr (rs:= [24]) ?_ (by decide+kernel)|refine gr (rs:= [15]) ?_ (by decide+kernel)|refine gr (rs:= [14]) ?_ (by decide+kernel)|refine gr (rs:= [6,21]) ?_ (by decide+kernel)|refine gr (rs:= [6]) ?_ (by decide+kernel)|refine gr (rs:= [6,14]) ?_ (by decide+kernel)|refine gr (rs:= [4,21]) ?_ (by decide+kernel)|refine gr (rs:= [4]) ?_ (by decide+kernel)|refine gr (rs:= [4,14]) ?_ (by decide+kernel)|refine gr (rs:= [2,21]) ?_ (by decide+kernel)|refine gr (rs:= [2]) ?_ (by decide+kernel)|refine gr (rs:= [2,14]) ?_ (by decide+kernel)|(refine gp 25 (some 10) (.int .i64 (orE [thE o h.l.length,Da k,Mt d,Ay h.l.length [d.v,d.g,d.s],Mu [d.g,d.s]])) rfl rfl (cu hq) ?_)|(refine dn ?_;(try simp only[nn]);exact pN ⟨_,_,_,rfl,(cu hq)⟩))|((with_reducible show AllReadyH _ _ _ _ _ _ _ _ _ (2::_));first|refine gcW 2 (some 13) rfl rfl (cu hq) (kt (hq.hp 0 rfl)) ?_ ?_|refine gcW 2 (some 13) rfl rfl (hq) (kt (hq.hp 0 rfl)) ?_ ?_)|((with_reducible show AllReadyH _ _ _ _ _ _ _ _ _ (4::_));first|refine gcB 4 (some 15) rfl rfl hq (kk hq.fr) (fun x=>(cu x)) (fun _ hq=> ?_) ?_|refine gcB 4 (some 15) rfl rfl hq (kk hq.fr) id (fun _ hq=> ?_) ?_)|((with_reducible show AllReadyH _ _ _ _ _ _ _ _ _ (6::_));first|refine gcB 6 (some 17) rfl rfl hq (kd hq.fr) (fun x=>(cu x)) (fun _ hq=> ?_) ?_|refine gcB 6 (some 17) rfl rfl hq (kd hq.fr) id (fun _ hq=> ?_) ?_)|((with_reducible show AllReadyH _ _ _ _ _ _ _ _ _ (14::_));refine Nl 14 (some 25) rfl rfl (ex_bsV3 rfl rfl rfl rfl) hq (fun _ hZ=>(cu hZ)) (fun _ B14_ _ hq=> ?_) ?_)|((with_reducible show AllReadyH _ _ _ _ _ _ _ _ _ (15::_));first|refine gcB 15 (some 26) rfl rfl hq (kn (B:=B14_) (hq.hp 0 rfl) (hq.hold 3 rfl)) (fun x=>(cu x)) (fun _ hq=> ?_) ?_|refine gcB 15 (some 26) rfl rfl hq (kn (B:=B14_) (hq.hp 0 rfl) (hq.hold 4 rfl)) (fun x=>(cu x)) (fun _ hq=> ?_) ?_)|((with_reducible show AllReadyH _ _ _ _ _ _ _ _ _ (21::_));refine Nl 21 (some 32) rfl rfl (ZcE rfl rfl rfl) hq (fun _ hZ=>(cu hZ)) (fun _ B21_ _ hq=> ?_) ?_)|((with_reducible show AllReadyH _ _ _ _ _ _ _ _ _ (22::_));first|refine gcB 22 (some 33) rfl rfl hq (ka (B:=B21_) (hq.hp 0 rfl) (hq.hold 3 rfl)) (fun x=>(cu x)) (fun _ hq=> ?_) ?_|refine gcB 22 (some 33) rfl rfl hq (ka (B:=B21_) (hq.hp 0 rfl) (hq.hold 4 rfl)) (fun x=>(cu x)) (fun _ hq=> ?_) ?_)|((with_reducible show AllReadyH _ _ _ _ _ _ _ _ _ (23::_));refine Nl 23 (some 34) rfl rfl (ex_bsE5 rfl rfl rfl rfl rfl rfl) hq (fun _ hZ=>(cu hZ)) (fun _ B23_ _ hq=> ?_) ?_)|((with_reducible show AllReadyH _ _ _ _ _ _ _ _ _ (24::_));refine gcW 24 (some 35) rfl rfl (cu hq) (ko (B:=B23_) (hq.hold 5 rfl)) ?_ ?_)|exact gn
 ·rintro a' X ⟨v25,v32,v34,rfl,hS9⟩
  simp only[nn]
  have SS:=Ab hS9
  clear hS9
  by_cases hc:orE [thE o h.l.length,Da k,Mt d,Ay h.l.length [d.v,d.g,d.s],Mu [d.g,d.s]]=0
  ·obtain⟨j,q,ho_,hj⟩:=Kf (h:=h) (o:=o) (Ef hc (thE o h.l.length) (by simp))
   have HO_:=Ab ho_
   clear ho_
   go_wp2_with (first|go_skip|((with_reducible show wpList ..);first|(refine rd rfl (Lm rfl rfl rfl hc) ?_)|(refine zL (k.cs) 37 2 1 rwK szK rfl rfl SS rfl rfl rfl ?_;simp only[nn])|(refine zL (d.cs) 43 18 2 rwD szD rfl rfl SS rfl rfl rfl ?_;simp only[nn])))
   have HC:=hC j q _ (Aa HO_) hj hc (HP.To.end H (Aa SS) rfl)
   rw[Du,Qj] at HC
   rw[←Aa HO_] at HC
   refine HC.mono ?_
   rintro _ Y9 ⟨h1,y,er,rfl,hP,T9⟩
   replace SS:=Ab ((Aa SS).heap 0 rfl T9)
   have hb9:h1.b=h.b:=T9.hb
   clear T9 HC
   go_wp2
   go_ret2
   exact⟨h1,y,er,rfl, .inr ⟨hc,hP⟩,HP.To.end H (Aa SS) hb9⟩
  ·go_wp2_with (first|go_skip|((with_reducible show wpList ..);(refine rd rfl (Gy rfl rfl rfl hc) ?_)))
   go_ret2
   exact⟨h,false,_,rfl, .inl ⟨hc,rfl,rfl,rfl⟩,HP.To.end H (Aa SS) rfl⟩
