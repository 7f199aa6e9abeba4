import Derived.Test.YtieahhciibdnaaaGreatDoorRf
set_option linter.all false
namespace Go.Proofs.YtieahhciibdnaaaGreatDoor
set_option maxRecDepth 100000
set_option maxHeartbeats 0
section
open Go Go.Proofs Go.Maps Go.RowKit FM
attribute [local go_sem] Ak Ae Aq Dl Dk Bl Af Aj Ad Bj Et Es
theorem dorGet (h:HP) (o:Int) (k:KK) (r:VV) (w:World) (H:h.Is w) (hl:h.l.length<=65536) (hT:Tabs w) (P:HP->VV->Value->Prop) (hC: ∀(j:Nat) (q:OB) (X:World),o=(j:Int)+1->h.l[j]? =some q->orE [thE o h.l.length,Bh k,Aw [r],Ap h.l.length [r]]=0->h.To h w X->Calls Tryz.prog 56 #[.pointer (some ⟨h.b,0,none⟩), .int .i64 ((j:Int)+1),k.agg,r.agg] X fun e w'=> ∃(h1:HP) (V:VV) (er:Value),e= .returned (.tuple #[V.agg,er])/\P h1 V er/\h.To h1 X w'):Calls Tryz.prog 25 #[.pointer (some ⟨h.b,0,none⟩), .int .i64 o,k.agg,r.agg] w fun e w'=> ∃(h1:HP) (V:VV) (er:Value),e= .returned (.tuple #[V.agg,er])/\((orE [thE o h.l.length,Bh k,Aw [r],Ap h.l.length [r]]≠0/\er=Qp (orE [thE o h.l.length,Bh k,Aw [r],Ap h.l.length [r]])/\h1=h)∨(orE [thE o h.l.length,Bh k,Aw [r],Ap h.l.length [r]]=0/\P h1 V er))/\h.To h1 w w':=by
 have SS:=Ab H.start
 rw[Dg,Db]
 go_enter Tryz.func25,Tryz.ntmps25
 go_wp2_with (first|go_skip|((with_reducible show wpList ..);first|(refine zB 45 (k.cs) (by rfl) rfl rfl rfl SS ?_;clear SS;intro Xp0 Bp0 SS;simp only[nn])|(refine zB 26 (r.cs) (by rfl) rfl rfl rfl SS ?_;clear SS;intro Xp1 Bp1 SS;simp only[nn])|(refine zA 26 (zeroV.cs) (by rfl) rfl SS ?_;clear SS;intro Xc Bc SS;simp only[nn])))
 have kt:=fun {X:World} (s:h.Is X)=>Je h o X s
 have kk:=fun {X:World} (s:Fr w X h.blocks)=>Lu k X (hT.fr s H.low).1
 have ks:=fun {X:World} {B:Nat} (s:Fr w X h.blocks) (g:Holds X B ([r].flatMap VV.cs))=>Ut (some ⟨B,0,none⟩) 1 [r] X (hT.fr s H.low).1 (Ec g) (by simp)
 have kn:=fun {X:World} {B:Nat} (s:h.Is X) (g:Holds X B ([r].flatMap VV.cs))=>Ny h (some ⟨B,0,none⟩) 1 [r] X s (Ec g) (by simp)
 have ko:=fun {X:World} {B:Nat} (g:Holds X B (Md [thE o h.l.length,Bh k,Aw [r],Ap h.l.length [r]]))=>Lt B 4 [thE o h.l.length,Bh k,Aw [r],Ap h.l.length [r]] X g (by simp)
 have hS1:Sy w _ h.blocks [hpO h,Ao Bp0 k.cs,Ao Bp1 r.cs,Ao Bc zeroV.cs]:=(Aa SS).drew
 clear SS
 refine Gd (fun a a' X=> ∃(v17 v21 v23:Value),a'=(((((((((((((((a.put (some 11) (.pointer (some ⟨h.b,0,none⟩))).put (some 12) (.int .i64 o)).put (some 13) (.int .i64 (thE o h.l.length))).put (some 14) (.agg k.cs.toArray)).put (some 15) (.int .i64 (Bh k))).put (some 16) (.agg (r.cs).toArray)).put (some 17) v17).put (some 18) (.int .i64 (Aw [r]))).put (some 19) (.pointer (some ⟨h.b,0,none⟩))).put (some 20) (.agg (r.cs).toArray)).put (some 21) v21).put (some 22) (.int .i64 (Ap h.l.length [r]))).put (some 23) v23).put (some 24) (.int .i64 (orE [thE o h.l.length,Bh k,Aw [r],Ap h.l.length [r]]))).put (some 10) (.int .i64 (orE [thE o h.l.length,Bh k,Aw [r],Ap h.l.length [r]])))/\Sy w X h.blocks [hpO h,Ao Bp0 k.cs,Ao Bp1 r.cs,Ao Bc zeroV.cs]) ?_ ?_
 ·have cu: ∀{X:World} {M:List Ob},Sy w X h.blocks ([hpO h,Ao Bp0 k.cs,Ao Bp1 r.cs,Ao Bc zeroV.cs]++M)->Sy w X h.blocks [hpO h,Ao Bp0 k.cs,Ao Bp1 r.cs,Ao Bc zeroV.cs]:=fun h=>Sy.left h
  refine wp_region_held_drew (P:=Tryz.prog) (S:=fun X=>Sy w X h.blocks _) (by kernel_rfl) (hS1) (fun hS0=> ?_)
  refine gp 0 (some 11) (.pointer (some ⟨h.b,0,none⟩)) rfl rfl (hS1) ?_
  refine gp 1 (some 12) (.int .i64 o) rfl rfl (hS1) ?_
  refine gq 3 (some 14) (.agg k.cs.toArray) rfl rfl (fun X hX=>Am (vs:=k.cs) 45 2 rwK szK rfl rfl (hX.hold 1 rfl) rfl rfl) (hS1) ?_
  refine gq 5 (some 16) (.agg (r.cs).toArray) rfl rfl (fun X hX=>Am (vs:=r.cs) 26 5 rwV szV rfl rfl (hX.hold 2 rfl) rfl rfl) (hS1) ?_
  refine gp 8 (some 19) (.pointer (some ⟨h.b,0,none⟩)) rfl rfl (hS1) ?_
  refine gq 9 (some 20) (.agg (r.cs).toArray) rfl rfl (fun X hX=>Am (vs:=r.cs) 26 5 rwV szV rfl rfl (hX.hold 2 rfl) rfl rfl) (hS1) ?_
  refine gr (rs:= [2,6,10]) (gcW 2 (some 13) rfl rfl (hS1) (kt (hS1.hp 0 rfl)) ?_ (Ax 6 (some 17) rfl rfl (by kernel_rfl) (Bq rfl rfl) (Nat.succ_pos _) hS1 (fun _ hZ=>cu hZ) ?_ (Ax 10 (some 21) rfl rfl (by kernel_rfl) (Bq rfl rfl) (Nat.succ_pos _) hS1 (fun _ hZ=>cu hZ) ?_ gn)))
  ·simp only[nn]
   refine gr (rs:= [4,6,10]) (gcB 4 (some 15) rfl rfl hS1 (kk hS1.fr) id ?_ (Ax 6 (some 17) rfl rfl (by kernel_rfl) (Bq rfl rfl) (Nat.succ_pos _) hS1 (fun _ hZ=>cu hZ) ?_ (Ax 10 (some 21) rfl rfl (by kernel_rfl) (Bq rfl rfl) (Nat.succ_pos _) hS1 (fun _ hZ=>cu hZ) ?_ gn)))
   ·intro Yt2 hqt2
    simp only[nn]
    refine gr (rs:= [6,10]) (Ax 6 (some 17) rfl rfl (by kernel_rfl) (Bq rfl rfl) (Nat.succ_pos _) hqt2 (fun _ hZ=>cu hZ) ?_ (Ax 10 (some 21) rfl rfl (by kernel_rfl) (Bq rfl rfl) (Nat.succ_pos _) hqt2 (fun _ hZ=>cu hZ) ?_ gn))
    ·intro Yt3 Bt3 hEt3 hqt3
     clear hEt3
     simp only[nn]
     refine gr (rs:= [7,10]) (gcB 7 (some 18) rfl rfl hqt3 (ks hqt3.fr (hqt3.hold 4 rfl)) (fun x=>cu x) ?_ (Ax 10 (some 21) rfl rfl (by kernel_rfl) (Bq rfl rfl) (Nat.succ_pos _) hqt3 (fun _ hZ=>cu hZ) ?_ gn))
     ·intro Yt4 hqt4
      simp only[nn]
      refine gr (rs:= [10]) (Ax 10 (some 21) rfl rfl (by kernel_rfl) (Bq rfl rfl) (Nat.succ_pos _) hqt4 (fun _ hZ=>cu hZ) ?_ gn)
      intro Yt5 Bt5 hEt5 hqt5
      clear hEt5
      simp only[nn]
      refine gr (rs:= [11]) (gcB 11 (some 22) rfl rfl hqt5 (kn (hqt5.hp 0 rfl) (hqt5.hold 5 rfl)) (fun x=>cu x) ?_ gn)
      intro Yt6 hqt6
      simp only[nn]
      refine gr (rs:= [12]) (Ax 12 (some 23) rfl rfl (by kernel_rfl) (Bs rfl rfl rfl rfl rfl) (Nat.succ_pos _) hqt6 (fun _ hZ=>cu hZ) ?_ gn)
      intro Yt7 Bt7 hEt7 hqt7
      clear hEt7
      simp only[nn]
      refine gr (rs:= [13]) (gcW 13 (some 24) rfl rfl (cu hqt7) (ko (hqt7.hold 6 rfl)) ?_ gn)
      refine gp 14 (some 10) (.int .i64 (orE [thE o h.l.length,Bh k,Aw [r],Ap h.l.length [r]])) rfl rfl (cu hqt7) ?_
      refine dn ?_
      try simp only[nn]
      exact pN ⟨_,_,_,rfl,cu hqt7⟩
     ·intro Yt9 Bt9 hEt9 hqt9
      clear hEt9
      simp only[nn]
      refine gr (rs:= [7]) (gcB 7 (some 18) rfl rfl hqt9 (ks hqt9.fr (hqt9.hold 4 rfl)) (fun x=>cu x) ?_ gn)
      intro Yt10 hqt10
      simp only[nn]
      refine gr (rs:= [11]) (gcB 11 (some 22) rfl rfl hqt10 (kn (hqt10.hp 0 rfl) (hqt10.hold 5 rfl)) (fun x=>cu x) ?_ gn)
      intro Yt11 hqt11
      simp only[nn]
      refine gr (rs:= [12]) (Ax 12 (some 23) rfl rfl (by kernel_rfl) (Bs rfl rfl rfl rfl rfl) (Nat.succ_pos _) hqt11 (fun _ hZ=>cu hZ) ?_ gn)
      intro Yt12 Bt12 hEt12 hqt12
      clear hEt12
      simp only[nn]
      refine gr (rs:= [13]) (gcW 13 (some 24) rfl rfl (cu hqt12) (ko (hqt12.hold 6 rfl)) ?_ gn)
      refine gp 14 (some 10) (.int .i64 (orE [thE o h.l.length,Bh k,Aw [r],Ap h.l.length [r]])) rfl rfl (cu hqt12) ?_
      refine dn ?_
      try simp only[nn]
      exact pN ⟨_,_,_,rfl,cu hqt12⟩
    ·intro Yt14 Bt14 hEt14 hqt14
     clear hEt14
     simp only[nn]
     refine gr (rs:= [6]) (Ax 6 (some 17) rfl rfl (by kernel_rfl) (Bq rfl rfl) (Nat.succ_pos _) hqt14 (fun _ hZ=>cu hZ) ?_ gn)
     intro Yt15 Bt15 hEt15 hqt15
     clear hEt15
     simp only[nn]
     refine gr (rs:= [7]) (gcB 7 (some 18) rfl rfl hqt15 (ks hqt15.fr (hqt15.hold 5 rfl)) (fun x=>cu x) ?_ gn)
     intro Yt16 hqt16
     simp only[nn]
     refine gr (rs:= [11]) (gcB 11 (some 22) rfl rfl hqt16 (kn (hqt16.hp 0 rfl) (hqt16.hold 4 rfl)) (fun x=>cu x) ?_ gn)
     intro Yt17 hqt17
     simp only[nn]
     refine gr (rs:= [12]) (Ax 12 (some 23) rfl rfl (by kernel_rfl) (Bs rfl rfl rfl rfl rfl) (Nat.succ_pos _) hqt17 (fun _ hZ=>cu hZ) ?_ gn)
     intro Yt18 Bt18 hEt18 hqt18
     clear hEt18
     simp only[nn]
     refine gr (rs:= [13]) (gcW 13 (some 24) rfl rfl (cu hqt18) (ko (hqt18.hold 6 rfl)) ?_ gn)
     refine gp 14 (some 10) (.int .i64 (orE [thE o h.l.length,Bh k,Aw [r],Ap h.l.length [r]])) rfl rfl (cu hqt18) ?_
     refine dn ?_
     try simp only[nn]
     exact pN ⟨_,_,_,rfl,cu hqt18⟩
   ·intro Yt20 Bt20 hEt20 hqt20
    clear hEt20
    simp only[nn]
    refine gr (rs:= [4,10]) (gcB 4 (some 15) rfl rfl hqt20 (kk hqt20.fr) (fun x=>cu x) ?_ (Ax 10 (some 21) rfl rfl (by kernel_rfl) (Bq rfl rfl) (Nat.succ_pos _) hqt20 (fun _ hZ=>cu hZ) ?_ gn))
    ·intro Yt21 hqt21
     simp only[nn]
     refine gr (rs:= [7,10]) (gcB 7 (some 18) rfl rfl hqt21 (ks hqt21.fr (hqt21.hold 4 rfl)) (fun x=>cu x) ?_ (Ax 10 (some 21) rfl rfl (by kernel_rfl) (Bq rfl rfl) (Nat.succ_pos _) hqt21 (fun _ hZ=>cu hZ) ?_ gn))
     ·intro Yt22 hqt22
      simp only[nn]
      refine gr (rs:= [10]) (Ax 10 (some 21) rfl rfl (by kernel_rfl) (Bq rfl rfl) (Nat.succ_pos _) hqt22 (fun _ hZ=>cu hZ) ?_ gn)
      intro Yt23 Bt23 hEt23 hqt23
      clear hEt23
      simp only[nn]
      refine gr (rs:= [11]) (gcB 11 (some 22) rfl rfl hqt23 (kn (hqt23.hp 0 rfl) (hqt23.hold 5 rfl)) (fun x=>cu x) ?_ gn)
      intro Yt24 hqt24
      simp only[nn]
      refine gr (rs:= [12]) (Ax 12 (some 23) rfl rfl (by kernel_rfl) (Bs rfl rfl rfl rfl rfl) (Nat.succ_pos _) hqt24 (fun _ hZ=>cu hZ) ?_ gn)
      intro Yt25 Bt25 hEt25 hqt25
      clear hEt25
      simp only[nn]
      refine gr (rs:= [13]) (gcW 13 (some 24) rfl rfl (cu hqt25) (ko (hqt25.hold 6 rfl)) ?_ gn)
      refine gp 14 (some 10) (.int .i64 (orE [thE o h.l.length,Bh k,Aw [r],Ap h.l.length [r]])) rfl rfl (cu hqt25) ?_
      refine dn ?_
      try simp only[nn]
      exact pN ⟨_,_,_,rfl,cu hqt25⟩
     ·intro Yt27 Bt27 hEt27 hqt27
      clear hEt27
      simp only[nn]
      refine gr (rs:= [7]) (gcB 7 (some 18) rfl rfl hqt27 (ks hqt27.fr (hqt27.hold 4 rfl)) (fun x=>cu x) ?_ gn)
      intro Yt28 hqt28
      simp only[nn]
      refine gr (rs:= [11]) (gcB 11 (some 22) rfl rfl hqt28 (kn (hqt28.hp 0 rfl) (hqt28.hold 5 rfl)) (fun x=>cu x) ?_ gn)
      intro Yt29 hqt29
      simp only[nn]
      refine gr (rs:= [12]) (Ax 12 (some 23) rfl rfl (by kernel_rfl) (Bs rfl rfl rfl rfl rfl) (Nat.succ_pos _) hqt29 (fun _ hZ=>cu hZ) ?_ gn)
      intro Yt30 Bt30 hEt30 hqt30
      clear hEt30
      simp only[nn]
      refine gr (rs:= [13]) (gcW 13 (some 24) rfl rfl (cu hqt30) (ko (hqt30.hold 6 rfl)) ?_ gn)
      refine gp 14 (some 10) (.int .i64 (orE [thE o h.l.length,Bh k,Aw [r],Ap h.l.length [r]])) rfl rfl (cu hqt30) ?_
      refine dn ?_
      try simp only[nn]
      exact pN ⟨_,_,_,rfl,cu hqt30⟩
    ·intro Yt32 Bt32 hEt32 hqt32
     clear hEt32
     simp only[nn]
     refine gr (rs:= [4]) (gcB 4 (some 15) rfl rfl hqt32 (kk hqt32.fr) (fun x=>cu x) ?_ gn)
     intro Yt33 hqt33
     simp only[nn]
     refine gr (rs:= [7]) (gcB 7 (some 18) rfl rfl hqt33 (ks hqt33.fr (hqt33.hold 4 rfl)) (fun x=>cu x) ?_ gn)
     intro Yt34 hqt34
     simp only[nn]
     refine gr (rs:= [11]) (gcB 11 (some 22) rfl rfl hqt34 (kn (hqt34.hp 0 rfl) (hqt34.hold 5 rfl)) (fun x=>cu x) ?_ gn)
     intro Yt35 hqt35
     simp only[nn]
     refine gr (rs:= [12]) (Ax 12 (some 23) rfl rfl (by kernel_rfl) (Bs rfl rfl rfl rfl rfl) (Nat.succ_pos _) hqt35 (fun _ hZ=>cu hZ) ?_ gn)
     intro Yt36 Bt36 hEt36 hqt36
     clear hEt36
     simp only[nn]
     refine gr (rs:= [13]) (gcW 13 (some 24) rfl rfl (cu hqt36) (ko (hqt36.hold 6 rfl)) ?_ gn)
     refine gp 14 (some 10) (.int .i64 (orE [thE o h.l.length,Bh k,Aw [r],Ap h.l.length [r]])) rfl rfl (cu hqt36) ?_
     refine dn ?_
     try simp only[nn]
     exact pN ⟨_,_,_,rfl,cu hqt36⟩
   ·intro Yt38 Bt38 hEt38 hqt38
    clear hEt38
    simp only[nn]
    refine gr (rs:= [4,6]) (gcB 4 (some 15) rfl rfl hqt38 (kk hqt38.fr) (fun x=>cu x) ?_ (Ax 6 (some 17) rfl rfl (by kernel_rfl) (Bq rfl rfl) (Nat.succ_pos _) hqt38 (fun _ hZ=>cu hZ) ?_ gn))
    ·intro Yt39 hqt39
     simp only[nn]
     refine gr (rs:= [6]) (Ax 6 (some 17) rfl rfl (by kernel_rfl) (Bq rfl rfl) (Nat.succ_pos _) hqt39 (fun _ hZ=>cu hZ) ?_ gn)
     intro Yt40 Bt40 hEt40 hqt40
     clear hEt40
     simp only[nn]
     refine gr (rs:= [7]) (gcB 7 (some 18) rfl rfl hqt40 (ks hqt40.fr (hqt40.hold 5 rfl)) (fun x=>cu x) ?_ gn)
     intro Yt41 hqt41
     simp only[nn]
     refine gr (rs:= [11]) (gcB 11 (some 22) rfl rfl hqt41 (kn (hqt41.hp 0 rfl) (hqt41.hold 4 rfl)) (fun x=>cu x) ?_ gn)
     intro Yt42 hqt42
     simp only[nn]
     refine gr (rs:= [12]) (Ax 12 (some 23) rfl rfl (by kernel_rfl) (Bs rfl rfl rfl rfl rfl) (Nat.succ_pos _) hqt42 (fun _ hZ=>cu hZ) ?_ gn)
     intro Yt43 Bt43 hEt43 hqt43
     clear hEt43
     simp only[nn]
     refine gr (rs:= [13]) (gcW 13 (some 24) rfl rfl (cu hqt43) (ko (hqt43.hold 6 rfl)) ?_ gn)
     refine gp 14 (some 10) (.int .i64 (orE [thE o h.l.length,Bh k,Aw [r],Ap h.l.length [r]])) rfl rfl (cu hqt43) ?_
     refine dn ?_
     try simp only[nn]
     exact pN ⟨_,_,_,rfl,cu hqt43⟩
    ·intro Yt45 Bt45 hEt45 hqt45
     clear hEt45
     simp only[nn]
     refine gr (rs:= [4]) (gcB 4 (some 15) rfl rfl hqt45 (kk hqt45.fr) (fun x=>cu x) ?_ gn)
     intro Yt46 hqt46
     simp only[nn]
     refine gr (rs:= [7]) (gcB 7 (some 18) rfl rfl hqt46 (ks hqt46.fr (hqt46.hold 5 rfl)) (fun x=>cu x) ?_ gn)
     intro Yt47 hqt47
     simp only[nn]
     refine gr (rs:= [11]) (gcB 11 (some 22) rfl rfl hqt47 (kn (hqt47.hp 0 rfl) (hqt47.hold 4 rfl)) (fun x=>cu x) ?_ gn)
     intro Yt48 hqt48
     simp only[nn]
     refine gr (rs:= [12]) (Ax 12 (some 23) rfl rfl (by kernel_rfl) (Bs rfl rfl rfl rfl rfl) (Nat.succ_pos _) hqt48 (fun _ hZ=>cu hZ) ?_ gn)
     intro Yt49 Bt49 hEt49 hqt49
     clear hEt49
     simp only[nn]
     refine gr (rs:= [13]) (gcW 13 (some 24) rfl rfl (cu hqt49) (ko (hqt49.hold 6 rfl)) ?_ gn)
     refine gp 14 (some 10) (.int .i64 (orE [thE o h.l.length,Bh k,Aw [r],Ap h.l.length [r]])) rfl rfl (cu hqt49) ?_
     refine dn ?_
     try simp only[nn]
     exact pN ⟨_,_,_,rfl,cu hqt49⟩
  ·intro Yt51 Bt51 hEt51 hqt51
   clear hEt51
   simp only[nn]
   refine gr (rs:= [2,10]) (gcW 2 (some 13) rfl rfl (cu hqt51) (kt (hqt51.hp 0 rfl)) ?_ (Ax 10 (some 21) rfl rfl (by kernel_rfl) (Bq rfl rfl) (Nat.succ_pos _) hqt51 (fun _ hZ=>cu hZ) ?_ gn))
   ·simp only[nn]
    refine gr (rs:= [4,10]) (gcB 4 (some 15) rfl rfl hqt51 (kk hqt51.fr) (fun x=>cu x) ?_ (Ax 10 (some 21) rfl rfl (by kernel_rfl) (Bq rfl rfl) (Nat.succ_pos _) hqt51 (fun _ hZ=>cu hZ) ?_ gn))
    ·intro Yt53 hqt53
     simp only[nn]
     refine gr (rs:= [7,10]) (gcB 7 (some 18) rfl rfl hqt53 (ks hqt53.fr (hqt53.hold 4 rfl)) (fun x=>cu x) ?_ (Ax 10 (some 21) rfl rfl (by kernel_rfl) (Bq rfl rfl) (Nat.succ_pos _) hqt53 (fun _ hZ=>cu hZ) ?_ gn))
     ·intro Yt54 hqt54
      simp only[nn]
      refine gr (rs:= [10]) (Ax 10 (some 21) rfl rfl (by kernel_rfl) (Bq rfl rfl) (Nat.succ_pos _) hqt54 (fun _ hZ=>cu hZ) ?_ gn)
      intro Yt55 Bt55 hEt55 hqt55
      clear hEt55
      simp only[nn]
      refine gr (rs:= [11]) (gcB 11 (some 22) rfl rfl hqt55 (kn (hqt55.hp 0 rfl) (hqt55.hold 5 rfl)) (fun x=>cu x) ?_ gn)
      intro Yt56 hqt56
      simp only[nn]
      refine gr (rs:= [12]) (Ax 12 (some 23) rfl rfl (by kernel_rfl) (Bs rfl rfl rfl rfl rfl) (Nat.succ_pos _) hqt56 (fun _ hZ=>cu hZ) ?_ gn)
      intro Yt57 Bt57 hEt57 hqt57
      clear hEt57
      simp only[nn]
      refine gr (rs:= [13]) (gcW 13 (some 24) rfl rfl (cu hqt57) (ko (hqt57.hold 6 rfl)) ?_ gn)
      refine gp 14 (some 10) (.int .i64 (orE [thE o h.l.length,Bh k,Aw [r],Ap h.l.length [r]])) rfl rfl (cu hqt57) ?_
      refine dn ?_
      try simp only[nn]
      exact pN ⟨_,_,_,rfl,cu hqt57⟩
     ·intro Yt59 Bt59 hEt59 hqt59
      clear hEt59
      simp only[nn]
      refine gr (rs:= [7]) (gcB 7 (some 18) rfl rfl hqt59 (ks hqt59.fr (hqt59.hold 4 rfl)) (fun x=>cu x) ?_ gn)
      intro Yt60 hqt60
      simp only[nn]
      refine gr (rs:= [11]) (gcB 11 (some 22) rfl rfl hqt60 (kn (hqt60.hp 0 rfl) (hqt60.hold 5 rfl)) (fun x=>cu x) ?_ gn)
      intro Yt61 hqt61
      simp only[nn]
      refine gr (rs:= [12]) (Ax 12 (some 23) rfl rfl (by kernel_rfl) (Bs rfl rfl rfl rfl rfl) (Nat.succ_pos _) hqt61 (fun _ hZ=>cu hZ) ?_ gn)
      intro Yt62 Bt62 hEt62 hqt62
      clear hEt62
      simp only[nn]
      refine gr (rs:= [13]) (gcW 13 (some 24) rfl rfl (cu hqt62) (ko (hqt62.hold 6 rfl)) ?_ gn)
      refine gp 14 (some 10) (.int .i64 (orE [thE o h.l.length,Bh k,Aw [r],Ap h.l.length [r]])) rfl rfl (cu hqt62) ?_
      refine dn ?_
      try simp only[nn]
      exact pN ⟨_,_,_,rfl,cu hqt62⟩
    ·intro Yt64 Bt64 hEt64 hqt64
     clear hEt64
     simp only[nn]
     refine gr (rs:= [4]) (gcB 4 (some 15) rfl rfl hqt64 (kk hqt64.fr) (fun x=>cu x) ?_ gn)
     intro Yt65 hqt65
     simp only[nn]
     refine gr (rs:= [7]) (gcB 7 (some 18) rfl rfl hqt65 (ks hqt65.fr (hqt65.hold 4 rfl)) (fun x=>cu x) ?_ gn)
     intro Yt66 hqt66
     simp only[nn]
     refine gr (rs:= [11]) (gcB 11 (some 22) rfl rfl hqt66 (kn (hqt66.hp 0 rfl) (hqt66.hold 5 rfl)) (fun x=>cu x) ?_ gn)
     intro Yt67 hqt67
     simp only[nn]
     refine gr (rs:= [12]) (Ax 12 (some 23) rfl rfl (by kernel_rfl) (Bs rfl rfl rfl rfl rfl) (Nat.succ_pos _) hqt67 (fun _ hZ=>cu hZ) ?_ gn)
     intro Yt68 Bt68 hEt68 hqt68
     clear hEt68
     simp only[nn]
     refine gr (rs:= [13]) (gcW 13 (some 24) rfl rfl (cu hqt68) (ko (hqt68.hold 6 rfl)) ?_ gn)
     refine gp 14 (some 10) (.int .i64 (orE [thE o h.l.length,Bh k,Aw [r],Ap h.l.length [r]])) rfl rfl (cu hqt68) ?_
     refine dn ?_
     try simp only[nn]
     exact pN ⟨_,_,_,rfl,cu hqt68⟩
   ·intro Yt70 Bt70 hEt70 hqt70
    clear hEt70
    simp only[nn]
    refine gr (rs:= [2]) (gcW 2 (some 13) rfl rfl (cu hqt70) (kt (hqt70.hp 0 rfl)) ?_ gn)
    simp only[nn]
    refine gr (rs:= [4]) (gcB 4 (some 15) rfl rfl hqt70 (kk hqt70.fr) (fun x=>cu x) ?_ gn)
    intro Yt72 hqt72
    simp only[nn]
    refine gr (rs:= [7]) (gcB 7 (some 18) rfl rfl hqt72 (ks hqt72.fr (hqt72.hold 4 rfl)) (fun x=>cu x) ?_ gn)
    intro Yt73 hqt73
    simp only[nn]
    refine gr (rs:= [11]) (gcB 11 (some 22) rfl rfl hqt73 (kn (hqt73.hp 0 rfl) (hqt73.hold 5 rfl)) (fun x=>cu x) ?_ gn)
    intro Yt74 hqt74
    simp only[nn]
    refine gr (rs:= [12]) (Ax 12 (some 23) rfl rfl (by kernel_rfl) (Bs rfl rfl rfl rfl rfl) (Nat.succ_pos _) hqt74 (fun _ hZ=>cu hZ) ?_ gn)
    intro Yt75 Bt75 hEt75 hqt75
    clear hEt75
    simp only[nn]
    refine gr (rs:= [13]) (gcW 13 (some 24) rfl rfl (cu hqt75) (ko (hqt75.hold 6 rfl)) ?_ gn)
    refine gp 14 (some 10) (.int .i64 (orE [thE o h.l.length,Bh k,Aw [r],Ap h.l.length [r]])) rfl rfl (cu hqt75) ?_
    refine dn ?_
    try simp only[nn]
    exact pN ⟨_,_,_,rfl,cu hqt75⟩
  ·intro Yt77 Bt77 hEt77 hqt77
   clear hEt77
   simp only[nn]
   refine gr (rs:= [2,6]) (gcW 2 (some 13) rfl rfl (cu hqt77) (kt (hqt77.hp 0 rfl)) ?_ (Ax 6 (some 17) rfl rfl (by kernel_rfl) (Bq rfl rfl) (Nat.succ_pos _) hqt77 (fun _ hZ=>cu hZ) ?_ gn))
   ·simp only[nn]
    refine gr (rs:= [4,6]) (gcB 4 (some 15) rfl rfl hqt77 (kk hqt77.fr) (fun x=>cu x) ?_ (Ax 6 (some 17) rfl rfl (by kernel_rfl) (Bq rfl rfl) (Nat.succ_pos _) hqt77 (fun _ hZ=>cu hZ) ?_ gn))
    ·intro Yt79 hqt79
     simp only[nn]
     refine gr (rs:= [6]) (Ax 6 (some 17) rfl rfl (by kernel_rfl) (Bq rfl rfl) (Nat.succ_pos _) hqt79 (fun _ hZ=>cu hZ) ?_ gn)
     intro Yt80 Bt80 hEt80 hqt80
     clear hEt80
     simp only[nn]
     refine gr (rs:= [7]) (gcB 7 (some 18) rfl rfl hqt80 (ks hqt80.fr (hqt80.hold 5 rfl)) (fun x=>cu x) ?_ gn)
     intro Yt81 hqt81
     simp only[nn]
     refine gr (rs:= [11]) (gcB 11 (some 22) rfl rfl hqt81 (kn (hqt81.hp 0 rfl) (hqt81.hold 4 rfl)) (fun x=>cu x) ?_ gn)
     intro Yt82 hqt82
     simp only[nn]
     refine gr (rs:= [12]) (Ax 12 (some 23) rfl rfl (by kernel_rfl) (Bs rfl rfl rfl rfl rfl) (Nat.succ_pos _) hqt82 (fun _ hZ=>cu hZ) ?_ gn)
     intro Yt83 Bt83 hEt83 hqt83
     clear hEt83
     simp only[nn]
     refine gr (rs:= [13]) (gcW 13 (some 24) rfl rfl (cu hqt83) (ko (hqt83.hold 6 rfl)) ?_ gn)
     refine gp 14 (some 10) (.int .i64 (orE [thE o h.l.length,Bh k,Aw [r],Ap h.l.length [r]])) rfl rfl (cu hqt83) ?_
     refine dn ?_
     try simp only[nn]
     exact pN ⟨_,_,_,rfl,cu hqt83⟩
    ·intro Yt85 Bt85 hEt85 hqt85
     clear hEt85
     simp only[nn]
     refine gr (rs:= [4]) (gcB 4 (some 15) rfl rfl hqt85 (kk hqt85.fr) (fun x=>cu x) ?_ gn)
     intro Yt86 hqt86
     simp only[nn]
     refine gr (rs:= [7]) (gcB 7 (some 18) rfl rfl hqt86 (ks hqt86.fr (hqt86.hold 5 rfl)) (fun x=>cu x) ?_ gn)
     intro Yt87 hqt87
     simp only[nn]
     refine gr (rs:= [11]) (gcB 11 (some 22) rfl rfl hqt87 (kn (hqt87.hp 0 rfl) (hqt87.hold 4 rfl)) (fun x=>cu x) ?_ gn)
     intro Yt88 hqt88
     simp only[nn]
     refine gr (rs:= [12]) (Ax 12 (some 23) rfl rfl (by kernel_rfl) (Bs rfl rfl rfl rfl rfl) (Nat.succ_pos _) hqt88 (fun _ hZ=>cu hZ) ?_ gn)
     intro Yt89 Bt89 hEt89 hqt89
     clear hEt89
     simp only[nn]
     refine gr (rs:= [13]) (gcW 13 (some 24) rfl rfl (cu hqt89) (ko (hqt89.hold 6 rfl)) ?_ gn)
     refine gp 14 (some 10) (.int .i64 (orE [thE o h.l.length,Bh k,Aw [r],Ap h.l.length [r]])) rfl rfl (cu hqt89) ?_
     refine dn ?_
     try simp only[nn]
     exact pN ⟨_,_,_,rfl,cu hqt89⟩
   ·intro Yt91 Bt91 hEt91 hqt91
    clear hEt91
    simp only[nn]
    refine gr (rs:= [2]) (gcW 2 (some 13) rfl rfl (cu hqt91) (kt (hqt91.hp 0 rfl)) ?_ gn)
    simp only[nn]
    refine gr (rs:= [4]) (gcB 4 (some 15) rfl rfl hqt91 (kk hqt91.fr) (fun x=>cu x) ?_ gn)
    intro Yt93 hqt93
    simp only[nn]
    refine gr (rs:= [7]) (gcB 7 (some 18) rfl rfl hqt93 (ks hqt93.fr (hqt93.hold 5 rfl)) (fun x=>cu x) ?_ gn)
    intro Yt94 hqt94
    simp only[nn]
    refine gr (rs:= [11]) (gcB 11 (some 22) rfl rfl hqt94 (kn (hqt94.hp 0 rfl) (hqt94.hold 4 rfl)) (fun x=>cu x) ?_ gn)
    intro Yt95 hqt95
    simp only[nn]
    refine gr (rs:= [12]) (Ax 12 (some 23) rfl rfl (by kernel_rfl) (Bs rfl rfl rfl rfl rfl) (Nat.succ_pos _) hqt95 (fun _ hZ=>cu hZ) ?_ gn)
    intro Yt96 Bt96 hEt96 hqt96
    clear hEt96
    simp only[nn]
    refine gr (rs:= [13]) (gcW 13 (some 24) rfl rfl (cu hqt96) (ko (hqt96.hold 6 rfl)) ?_ gn)
    refine gp 14 (some 10) (.int .i64 (orE [thE o h.l.length,Bh k,Aw [r],Ap h.l.length [r]])) rfl rfl (cu hqt96) ?_
    refine dn ?_
    try simp only[nn]
    exact pN ⟨_,_,_,rfl,cu hqt96⟩
 ·rintro a' X ⟨v17,v21,v23,rfl,hS9⟩
  simp only[nn]
  have SS:=Ab hS9
  clear hS9
  by_cases hc:orE [thE o h.l.length,Bh k,Aw [r],Ap h.l.length [r]]=0
  ·obtain⟨j,q,ho_,hj⟩:=Kl (h:=h) (o:=o) (Jh hc (thE o h.l.length) (by simp))
   have HO_:=Ab ho_
   clear ho_
   go_wp2_with (first|go_skip|((with_reducible show wpList ..);first|(refine rd rfl (Jl rfl rfl rfl hc) ?_)|(refine zL (k.cs) 45 2 1 rwK szK (by rfl) rfl rfl SS rfl rfl rfl ?_;simp only[nn])|(refine zL (r.cs) 26 5 2 rwV szV (by rfl) rfl rfl SS rfl rfl rfl ?_;simp only[nn])))
   have HC:=hC j q _ (Aa HO_) hj hc (HP.To.end H (Aa SS) rfl)
   rw[Dg,Db] at HC
   rw[←Aa HO_] at HC
   refine HC.mono ?_
   rintro _ Y9 ⟨h1,V,er,rfl,hP,T9⟩
   replace SS:=Ab ((Aa SS).heap 0 rfl T9)
   have hb9:h1.b=h.b:=T9.hb
   clear T9 HC
   rw[Db]
   go_wp2_with (first|go_skip|((with_reducible show wpList ..);first|(refine zS (V.cs) 3 26 (by rfl) rfl rfl rfl rfl (Ex _) szV SS rfl ?_;clear SS;intro Xy SS;simp only[nn])))
   refine bodyPost_ret (Jt rwV szV rfl rfl rfl ((Aa SS).hold 3 rfl) rfl) rfl ?_
   exact⟨h1,V,er,rfl, .inr ⟨hc,hP⟩,HP.To.end H (Aa SS) hb9⟩
  ·go_wp2_with (first|go_skip|((with_reducible show wpList ..);first|(refine rd rfl (Jy rfl rfl rfl hc) ?_)|(refine rd rfl (ZbO rfl) ?_)|(refine zS (zeroV.cs) 3 26 (by rfl) rfl rfl rfl rfl (Ex _) szV SS rfl ?_;clear SS;intro Xz SS;simp only[nn])))
   refine bodyPost_ret (Jt rwV szV rfl rfl rfl ((Aa SS).hold 3 rfl) rfl) rfl ?_
   exact⟨h,zeroV,_,rfl, .inl ⟨hc,rfl,rfl⟩,HP.To.end H (Aa SS) rfl⟩
