import Derived.Test.YtieahhciibdnaaaGreatDoorRf
set_option linter.all false
namespace Go.Proofs.YtieahhciibdnaaaGreatDoor
set_option maxRecDepth 100000
set_option maxHeartbeats 0
section
open Go Go.Proofs Go.Maps Go.RowKit FM
attribute [local go_sem] Ak Ae Aq Dl Dk Bl Af Aj Ad Bj Et Es
theorem Nn (h:HP) (o:Int) (k:KK) (d:DD) (w:World) (H:h.Is w) (hl:h.l.length<=65536) (hT:Tabs w) (hFd:FD d) (P:HP->Bool->Value->Prop) (hC: ∀(j:Nat) (q:OB) (X:World),o=(j:Int)+1->h.l[j]? =some q->orE [thE o h.l.length,Bh k,Gi d,Ap h.l.length [d.v,d.g,d.s],Gj [d.g,d.s]]=0->h.To h w X->Calls Tryz.prog 43 #[.pointer (some ⟨h.b,0,none⟩), .int .i64 ((j:Int)+1),k.agg,d.agg] X fun e w'=> ∃(h1:HP) (y:Bool) (er:Value),e= .returned (.tuple #[.bool y,er])/\P h1 y er/\h.To h1 X w'):Calls Tryz.prog 16 #[.pointer (some ⟨h.b,0,none⟩), .int .i64 o,k.agg,d.agg] w fun e w'=> ∃(h1:HP) (y:Bool) (er:Value),e= .returned (.tuple #[.bool y,er])/\((orE [thE o h.l.length,Bh k,Gi d,Ap h.l.length [d.v,d.g,d.s],Gj [d.g,d.s]]≠0/\er=Qp (orE [thE o h.l.length,Bh k,Gi d,Ap h.l.length [d.v,d.g,d.s],Gj [d.g,d.s]])/\h1=h/\y=false)∨(orE [thE o h.l.length,Bh k,Gi d,Ap h.l.length [d.v,d.g,d.s],Gj [d.g,d.s]]=0/\P h1 y er))/\h.To h1 w w':=by
 have SS:=Ab H.start
 rw[Dg,Lh]
 go_enter Tryz.func16,Tryz.ntmps16
 go_wp2_with (first|go_skip|((with_reducible show wpList ..);first|(refine zB 45 (k.cs) (by rfl) rfl rfl rfl SS ?_;clear SS;intro Xp0 Bp0 SS;simp only[nn])|(refine zB 48 (d.cs) (by rfl) rfl rfl rfl SS ?_;clear SS;intro Xp1 Bp1 SS;simp only[nn])))
 have kt:=fun {X:World} (s:h.Is X)=>Je h o X s
 have kk:=fun {X:World} (s:Fr w X h.blocks)=>Lu k X (hT.fr s H.low).1
 have kd:=fun {X:World} (s:Fr w X h.blocks)=>ZbV d hFd X (hT.fr s H.low).1
 have kn:=fun {X:World} {B:Nat} (s:h.Is X) (g:Holds X B ([d.v,d.g,d.s].flatMap VV.cs))=>Ny h (some ⟨B,0,none⟩) 3 [d.v,d.g,d.s] X s (Ec g) (by simp)
 have ka:=fun {X:World} {B:Nat} (s:h.Is X) (g:Holds X B ([d.g,d.s].flatMap VV.cs))=>acc_h h (some ⟨B,0,none⟩) 2 [d.g,d.s] X s hl (Ec g) (by simp)
 have ko:=fun {X:World} {B:Nat} (g:Holds X B (Md [thE o h.l.length,Bh k,Gi d,Ap h.l.length [d.v,d.g,d.s],Gj [d.g,d.s]]))=>Lt B 5 [thE o h.l.length,Bh k,Gi d,Ap h.l.length [d.v,d.g,d.s],Gj [d.g,d.s]] X g (by simp)
 have hS1:Sy w _ h.blocks [hpO h,Ao Bp0 k.cs,Ao Bp1 d.cs]:=(Aa SS).drew
 clear SS
 refine Gd (fun a a' X=> ∃(v25 v32 v34:Value),a'=((((((((((((((((((((((((((a.put (some 11) (.pointer (some ⟨h.b,0,none⟩))).put (some 12) (.int .i64 o)).put (some 13) (.int .i64 (thE o h.l.length))).put (some 14) (.agg k.cs.toArray)).put (some 15) (.int .i64 (Bh k))).put (some 16) (.agg d.cs.toArray)).put (some 17) (.int .i64 (Gi d))).put (some 18) (.pointer (some ⟨h.b,0,none⟩))).put (some 19) (.pointer (some ⟨Bp1,0,none⟩))).put (some 20) (.agg (d.v.cs).toArray)).put (some 21) (.pointer (some ⟨Bp1,5,none⟩))).put (some 22) (.agg (d.g.cs).toArray)).put (some 23) (.pointer (some ⟨Bp1,10,none⟩))).put (some 24) (.agg (d.s.cs).toArray)).put (some 25) v25).put (some 26) (.int .i64 (Ap h.l.length [d.v,d.g,d.s]))).put (some 27) (.pointer (some ⟨h.b,0,none⟩))).put (some 28) (.pointer (some ⟨Bp1,5,none⟩))).put (some 29) (.agg (d.g.cs).toArray)).put (some 30) (.pointer (some ⟨Bp1,10,none⟩))).put (some 31) (.agg (d.s.cs).toArray)).put (some 32) v32).put (some 33) (.int .i64 (Gj [d.g,d.s]))).put (some 34) v34).put (some 35) (.int .i64 (orE [thE o h.l.length,Bh k,Gi d,Ap h.l.length [d.v,d.g,d.s],Gj [d.g,d.s]]))).put (some 10) (.int .i64 (orE [thE o h.l.length,Bh k,Gi d,Ap h.l.length [d.v,d.g,d.s],Gj [d.g,d.s]])))/\Sy w X h.blocks [hpO h,Ao Bp0 k.cs,Ao Bp1 d.cs]) ?_ ?_
 ·have cu: ∀{X:World} {M:List Ob},Sy w X h.blocks ([hpO h,Ao Bp0 k.cs,Ao Bp1 d.cs]++M)->Sy w X h.blocks [hpO h,Ao Bp0 k.cs,Ao Bp1 d.cs]:=fun h=>Sy.left h
  refine wp_region_held_drew (P:=Tryz.prog) (S:=fun X=>Sy w X h.blocks _) (by kernel_rfl) (hS1) (fun hS0=> ?_)
  refine gp 0 (some 11) (.pointer (some ⟨h.b,0,none⟩)) rfl rfl (hS1) ?_
  refine gp 1 (some 12) (.int .i64 o) rfl rfl (hS1) ?_
  refine gq 3 (some 14) (.agg k.cs.toArray) rfl rfl (fun X hX=>Am (vs:=k.cs) 45 2 rwK szK rfl rfl (hX.hold 1 rfl) rfl rfl) (hS1) ?_
  refine gq 5 (some 16) (.agg d.cs.toArray) rfl rfl (fun X hX=>Am (vs:=d.cs) 48 18 rwD szD rfl rfl (hX.hold 2 rfl) rfl rfl) (hS1) ?_
  refine gp 7 (some 18) (.pointer (some ⟨h.b,0,none⟩)) rfl rfl (hS1) ?_
  refine gp 8 (some 19) (.pointer (some ⟨Bp1,0,none⟩)) rfl rfl (hS1) ?_
  refine gq 9 (some 20) (.agg (d.v.cs).toArray) rfl rfl (fun X hX=>Am (vs:=d.v.cs) 26 5 rwV szV rfl rfl (hX.hold 2 rfl) rfl rfl) (hS1) ?_
  refine gp 10 (some 21) (.pointer (some ⟨Bp1,5,none⟩)) rfl rfl (hS1) ?_
  refine gq 11 (some 22) (.agg (d.g.cs).toArray) rfl rfl (fun X hX=>Am (vs:=d.g.cs) 26 5 rwV szV rfl rfl (hX.hold 2 rfl) rfl rfl) (hS1) ?_
  refine gp 12 (some 23) (.pointer (some ⟨Bp1,10,none⟩)) rfl rfl (hS1) ?_
  refine gq 13 (some 24) (.agg (d.s.cs).toArray) rfl rfl (fun X hX=>Am (vs:=d.s.cs) 26 5 rwV szV rfl rfl (hX.hold 2 rfl) rfl rfl) (hS1) ?_
  refine gp 16 (some 27) (.pointer (some ⟨h.b,0,none⟩)) rfl rfl (hS1) ?_
  refine gp 17 (some 28) (.pointer (some ⟨Bp1,5,none⟩)) rfl rfl (hS1) ?_
  refine gq 18 (some 29) (.agg (d.g.cs).toArray) rfl rfl (fun X hX=>Am (vs:=d.g.cs) 26 5 rwV szV rfl rfl (hX.hold 2 rfl) rfl rfl) (hS1) ?_
  refine gp 19 (some 30) (.pointer (some ⟨Bp1,10,none⟩)) rfl rfl (hS1) ?_
  refine gq 20 (some 31) (.agg (d.s.cs).toArray) rfl rfl (fun X hX=>Am (vs:=d.s.cs) 26 5 rwV szV rfl rfl (hX.hold 2 rfl) rfl rfl) (hS1) ?_
  refine gr (rs:= [2,14,21]) (gcW 2 (some 13) rfl rfl (hS1) (kt (hS1.hp 0 rfl)) ?_ (Ax 14 (some 25) rfl rfl (by kernel_rfl) (Gl rfl rfl rfl rfl) (Nat.succ_pos _) hS1 (fun _ hZ=>cu hZ) ?_ (Ax 21 (some 32) rfl rfl (by kernel_rfl) (Dd rfl rfl rfl) (Nat.succ_pos _) hS1 (fun _ hZ=>cu hZ) ?_ gn)))
  ·simp only[nn]
   refine gr (rs:= [4,14,21]) (gcB 4 (some 15) rfl rfl hS1 (kk hS1.fr) id ?_ (Ax 14 (some 25) rfl rfl (by kernel_rfl) (Gl rfl rfl rfl rfl) (Nat.succ_pos _) hS1 (fun _ hZ=>cu hZ) ?_ (Ax 21 (some 32) rfl rfl (by kernel_rfl) (Dd rfl rfl rfl) (Nat.succ_pos _) hS1 (fun _ hZ=>cu hZ) ?_ gn)))
   ·intro Yt2 hqt2
    simp only[nn]
    refine gr (rs:= [6,14,21]) (gcB 6 (some 17) rfl rfl hqt2 (kd hqt2.fr) id ?_ (Ax 14 (some 25) rfl rfl (by kernel_rfl) (Gl rfl rfl rfl rfl) (Nat.succ_pos _) hqt2 (fun _ hZ=>cu hZ) ?_ (Ax 21 (some 32) rfl rfl (by kernel_rfl) (Dd rfl rfl rfl) (Nat.succ_pos _) hqt2 (fun _ hZ=>cu hZ) ?_ gn)))
    ·intro Yt3 hqt3
     simp only[nn]
     refine gr (rs:= [14,21]) (Ax 14 (some 25) rfl rfl (by kernel_rfl) (Gl rfl rfl rfl rfl) (Nat.succ_pos _) hqt3 (fun _ hZ=>cu hZ) ?_ (Ax 21 (some 32) rfl rfl (by kernel_rfl) (Dd rfl rfl rfl) (Nat.succ_pos _) hqt3 (fun _ hZ=>cu hZ) ?_ gn))
     ·intro Yt4 Bt4 hEt4 hqt4
      clear hEt4
      simp only[nn]
      refine gr (rs:= [15,21]) (gcB 15 (some 26) rfl rfl hqt4 (kn (hqt4.hp 0 rfl) (hqt4.hold 3 rfl)) (fun x=>cu x) ?_ (Ax 21 (some 32) rfl rfl (by kernel_rfl) (Dd rfl rfl rfl) (Nat.succ_pos _) hqt4 (fun _ hZ=>cu hZ) ?_ gn))
      ·intro Yt5 hqt5
       simp only[nn]
       refine gr (rs:= [21]) (Ax 21 (some 32) rfl rfl (by kernel_rfl) (Dd rfl rfl rfl) (Nat.succ_pos _) hqt5 (fun _ hZ=>cu hZ) ?_ gn)
       intro Yt6 Bt6 hEt6 hqt6
       clear hEt6
       simp only[nn]
       refine gr (rs:= [22]) (gcB 22 (some 33) rfl rfl hqt6 (ka (hqt6.hp 0 rfl) (hqt6.hold 4 rfl)) (fun x=>cu x) ?_ gn)
       intro Yt7 hqt7
       simp only[nn]
       refine gr (rs:= [23]) (Ax 23 (some 34) rfl rfl (by kernel_rfl) (Dv rfl rfl rfl rfl rfl rfl) (Nat.succ_pos _) hqt7 (fun _ hZ=>cu hZ) ?_ gn)
       intro Yt8 Bt8 hEt8 hqt8
       clear hEt8
       simp only[nn]
       refine gr (rs:= [24]) (gcW 24 (some 35) rfl rfl (cu hqt8) (ko (hqt8.hold 5 rfl)) ?_ gn)
       refine gp 25 (some 10) (.int .i64 (orE [thE o h.l.length,Bh k,Gi d,Ap h.l.length [d.v,d.g,d.s],Gj [d.g,d.s]])) rfl rfl (cu hqt8) ?_
       refine dn ?_
       try simp only[nn]
       exact pN ⟨_,_,_,rfl,cu hqt8⟩
      ·intro Yt10 Bt10 hEt10 hqt10
       clear hEt10
       simp only[nn]
       refine gr (rs:= [15]) (gcB 15 (some 26) rfl rfl hqt10 (kn (hqt10.hp 0 rfl) (hqt10.hold 3 rfl)) (fun x=>cu x) ?_ gn)
       intro Yt11 hqt11
       simp only[nn]
       refine gr (rs:= [22]) (gcB 22 (some 33) rfl rfl hqt11 (ka (hqt11.hp 0 rfl) (hqt11.hold 4 rfl)) (fun x=>cu x) ?_ gn)
       intro Yt12 hqt12
       simp only[nn]
       refine gr (rs:= [23]) (Ax 23 (some 34) rfl rfl (by kernel_rfl) (Dv rfl rfl rfl rfl rfl rfl) (Nat.succ_pos _) hqt12 (fun _ hZ=>cu hZ) ?_ gn)
       intro Yt13 Bt13 hEt13 hqt13
       clear hEt13
       simp only[nn]
       refine gr (rs:= [24]) (gcW 24 (some 35) rfl rfl (cu hqt13) (ko (hqt13.hold 5 rfl)) ?_ gn)
       refine gp 25 (some 10) (.int .i64 (orE [thE o h.l.length,Bh k,Gi d,Ap h.l.length [d.v,d.g,d.s],Gj [d.g,d.s]])) rfl rfl (cu hqt13) ?_
       refine dn ?_
       try simp only[nn]
       exact pN ⟨_,_,_,rfl,cu hqt13⟩
     ·intro Yt15 Bt15 hEt15 hqt15
      clear hEt15
      simp only[nn]
      refine gr (rs:= [14]) (Ax 14 (some 25) rfl rfl (by kernel_rfl) (Gl rfl rfl rfl rfl) (Nat.succ_pos _) hqt15 (fun _ hZ=>cu hZ) ?_ gn)
      intro Yt16 Bt16 hEt16 hqt16
      clear hEt16
      simp only[nn]
      refine gr (rs:= [15]) (gcB 15 (some 26) rfl rfl hqt16 (kn (hqt16.hp 0 rfl) (hqt16.hold 4 rfl)) (fun x=>cu x) ?_ gn)
      intro Yt17 hqt17
      simp only[nn]
      refine gr (rs:= [22]) (gcB 22 (some 33) rfl rfl hqt17 (ka (hqt17.hp 0 rfl) (hqt17.hold 3 rfl)) (fun x=>cu x) ?_ gn)
      intro Yt18 hqt18
      simp only[nn]
      refine gr (rs:= [23]) (Ax 23 (some 34) rfl rfl (by kernel_rfl) (Dv rfl rfl rfl rfl rfl rfl) (Nat.succ_pos _) hqt18 (fun _ hZ=>cu hZ) ?_ gn)
      intro Yt19 Bt19 hEt19 hqt19
      clear hEt19
      simp only[nn]
      refine gr (rs:= [24]) (gcW 24 (some 35) rfl rfl (cu hqt19) (ko (hqt19.hold 5 rfl)) ?_ gn)
      refine gp 25 (some 10) (.int .i64 (orE [thE o h.l.length,Bh k,Gi d,Ap h.l.length [d.v,d.g,d.s],Gj [d.g,d.s]])) rfl rfl (cu hqt19) ?_
      refine dn ?_
      try simp only[nn]
      exact pN ⟨_,_,_,rfl,cu hqt19⟩
    ·intro Yt21 Bt21 hEt21 hqt21
     clear hEt21
     simp only[nn]
     refine gr (rs:= [6,21]) (gcB 6 (some 17) rfl rfl hqt21 (kd hqt21.fr) (fun x=>cu x) ?_ (Ax 21 (some 32) rfl rfl (by kernel_rfl) (Dd rfl rfl rfl) (Nat.succ_pos _) hqt21 (fun _ hZ=>cu hZ) ?_ gn))
     ·intro Yt22 hqt22
      simp only[nn]
      refine gr (rs:= [15,21]) (gcB 15 (some 26) rfl rfl hqt22 (kn (hqt22.hp 0 rfl) (hqt22.hold 3 rfl)) (fun x=>cu x) ?_ (Ax 21 (some 32) rfl rfl (by kernel_rfl) (Dd rfl rfl rfl) (Nat.succ_pos _) hqt22 (fun _ hZ=>cu hZ) ?_ gn))
      ·intro Yt23 hqt23
       simp only[nn]
       refine gr (rs:= [21]) (Ax 21 (some 32) rfl rfl (by kernel_rfl) (Dd rfl rfl rfl) (Nat.succ_pos _) hqt23 (fun _ hZ=>cu hZ) ?_ gn)
       intro Yt24 Bt24 hEt24 hqt24
       clear hEt24
       simp only[nn]
       refine gr (rs:= [22]) (gcB 22 (some 33) rfl rfl hqt24 (ka (hqt24.hp 0 rfl) (hqt24.hold 4 rfl)) (fun x=>cu x) ?_ gn)
       intro Yt25 hqt25
       simp only[nn]
       refine gr (rs:= [23]) (Ax 23 (some 34) rfl rfl (by kernel_rfl) (Dv rfl rfl rfl rfl rfl rfl) (Nat.succ_pos _) hqt25 (fun _ hZ=>cu hZ) ?_ gn)
       intro Yt26 Bt26 hEt26 hqt26
       clear hEt26
       simp only[nn]
       refine gr (rs:= [24]) (gcW 24 (some 35) rfl rfl (cu hqt26) (ko (hqt26.hold 5 rfl)) ?_ gn)
       refine gp 25 (some 10) (.int .i64 (orE [thE o h.l.length,Bh k,Gi d,Ap h.l.length [d.v,d.g,d.s],Gj [d.g,d.s]])) rfl rfl (cu hqt26) ?_
       refine dn ?_
       try simp only[nn]
       exact pN ⟨_,_,_,rfl,cu hqt26⟩
      ·intro Yt28 Bt28 hEt28 hqt28
       clear hEt28
       simp only[nn]
       refine gr (rs:= [15]) (gcB 15 (some 26) rfl rfl hqt28 (kn (hqt28.hp 0 rfl) (hqt28.hold 3 rfl)) (fun x=>cu x) ?_ gn)
       intro Yt29 hqt29
       simp only[nn]
       refine gr (rs:= [22]) (gcB 22 (some 33) rfl rfl hqt29 (ka (hqt29.hp 0 rfl) (hqt29.hold 4 rfl)) (fun x=>cu x) ?_ gn)
       intro Yt30 hqt30
       simp only[nn]
       refine gr (rs:= [23]) (Ax 23 (some 34) rfl rfl (by kernel_rfl) (Dv rfl rfl rfl rfl rfl rfl) (Nat.succ_pos _) hqt30 (fun _ hZ=>cu hZ) ?_ gn)
       intro Yt31 Bt31 hEt31 hqt31
       clear hEt31
       simp only[nn]
       refine gr (rs:= [24]) (gcW 24 (some 35) rfl rfl (cu hqt31) (ko (hqt31.hold 5 rfl)) ?_ gn)
       refine gp 25 (some 10) (.int .i64 (orE [thE o h.l.length,Bh k,Gi d,Ap h.l.length [d.v,d.g,d.s],Gj [d.g,d.s]])) rfl rfl (cu hqt31) ?_
       refine dn ?_
       try simp only[nn]
       exact pN ⟨_,_,_,rfl,cu hqt31⟩
     ·intro Yt33 Bt33 hEt33 hqt33
      clear hEt33
      simp only[nn]
      refine gr (rs:= [6]) (gcB 6 (some 17) rfl rfl hqt33 (kd hqt33.fr) (fun x=>cu x) ?_ gn)
      intro Yt34 hqt34
      simp only[nn]
      refine gr (rs:= [15]) (gcB 15 (some 26) rfl rfl hqt34 (kn (hqt34.hp 0 rfl) (hqt34.hold 3 rfl)) (fun x=>cu x) ?_ gn)
      intro Yt35 hqt35
      simp only[nn]
      refine gr (rs:= [22]) (gcB 22 (some 33) rfl rfl hqt35 (ka (hqt35.hp 0 rfl) (hqt35.hold 4 rfl)) (fun x=>cu x) ?_ gn)
      intro Yt36 hqt36
      simp only[nn]
      refine gr (rs:= [23]) (Ax 23 (some 34) rfl rfl (by kernel_rfl) (Dv rfl rfl rfl rfl rfl rfl) (Nat.succ_pos _) hqt36 (fun _ hZ=>cu hZ) ?_ gn)
      intro Yt37 Bt37 hEt37 hqt37
      clear hEt37
      simp only[nn]
      refine gr (rs:= [24]) (gcW 24 (some 35) rfl rfl (cu hqt37) (ko (hqt37.hold 5 rfl)) ?_ gn)
      refine gp 25 (some 10) (.int .i64 (orE [thE o h.l.length,Bh k,Gi d,Ap h.l.length [d.v,d.g,d.s],Gj [d.g,d.s]])) rfl rfl (cu hqt37) ?_
      refine dn ?_
      try simp only[nn]
      exact pN ⟨_,_,_,rfl,cu hqt37⟩
    ·intro Yt39 Bt39 hEt39 hqt39
     clear hEt39
     simp only[nn]
     refine gr (rs:= [6,14]) (gcB 6 (some 17) rfl rfl hqt39 (kd hqt39.fr) (fun x=>cu x) ?_ (Ax 14 (some 25) rfl rfl (by kernel_rfl) (Gl rfl rfl rfl rfl) (Nat.succ_pos _) hqt39 (fun _ hZ=>cu hZ) ?_ gn))
     ·intro Yt40 hqt40
      simp only[nn]
      refine gr (rs:= [14]) (Ax 14 (some 25) rfl rfl (by kernel_rfl) (Gl rfl rfl rfl rfl) (Nat.succ_pos _) hqt40 (fun _ hZ=>cu hZ) ?_ gn)
      intro Yt41 Bt41 hEt41 hqt41
      clear hEt41
      simp only[nn]
      refine gr (rs:= [15]) (gcB 15 (some 26) rfl rfl hqt41 (kn (hqt41.hp 0 rfl) (hqt41.hold 4 rfl)) (fun x=>cu x) ?_ gn)
      intro Yt42 hqt42
      simp only[nn]
      refine gr (rs:= [22]) (gcB 22 (some 33) rfl rfl hqt42 (ka (hqt42.hp 0 rfl) (hqt42.hold 3 rfl)) (fun x=>cu x) ?_ gn)
      intro Yt43 hqt43
      simp only[nn]
      refine gr (rs:= [23]) (Ax 23 (some 34) rfl rfl (by kernel_rfl) (Dv rfl rfl rfl rfl rfl rfl) (Nat.succ_pos _) hqt43 (fun _ hZ=>cu hZ) ?_ gn)
      intro Yt44 Bt44 hEt44 hqt44
      clear hEt44
      simp only[nn]
      refine gr (rs:= [24]) (gcW 24 (some 35) rfl rfl (cu hqt44) (ko (hqt44.hold 5 rfl)) ?_ gn)
      refine gp 25 (some 10) (.int .i64 (orE [thE o h.l.length,Bh k,Gi d,Ap h.l.length [d.v,d.g,d.s],Gj [d.g,d.s]])) rfl rfl (cu hqt44) ?_
      refine dn ?_
      try simp only[nn]
      exact pN ⟨_,_,_,rfl,cu hqt44⟩
     ·intro Yt46 Bt46 hEt46 hqt46
      clear hEt46
      simp only[nn]
      refine gr (rs:= [6]) (gcB 6 (some 17) rfl rfl hqt46 (kd hqt46.fr) (fun x=>cu x) ?_ gn)
      intro Yt47 hqt47
      simp only[nn]
      refine gr (rs:= [15]) (gcB 15 (some 26) rfl rfl hqt47 (kn (hqt47.hp 0 rfl) (hqt47.hold 4 rfl)) (fun x=>cu x) ?_ gn)
      intro Yt48 hqt48
      simp only[nn]
      refine gr (rs:= [22]) (gcB 22 (some 33) rfl rfl hqt48 (ka (hqt48.hp 0 rfl) (hqt48.hold 3 rfl)) (fun x=>cu x) ?_ gn)
      intro Yt49 hqt49
      simp only[nn]
      refine gr (rs:= [23]) (Ax 23 (some 34) rfl rfl (by kernel_rfl) (Dv rfl rfl rfl rfl rfl rfl) (Nat.succ_pos _) hqt49 (fun _ hZ=>cu hZ) ?_ gn)
      intro Yt50 Bt50 hEt50 hqt50
      clear hEt50
      simp only[nn]
      refine gr (rs:= [24]) (gcW 24 (some 35) rfl rfl (cu hqt50) (ko (hqt50.hold 5 rfl)) ?_ gn)
      refine gp 25 (some 10) (.int .i64 (orE [thE o h.l.length,Bh k,Gi d,Ap h.l.length [d.v,d.g,d.s],Gj [d.g,d.s]])) rfl rfl (cu hqt50) ?_
      refine dn ?_
      try simp only[nn]
      exact pN ⟨_,_,_,rfl,cu hqt50⟩
   ·intro Yt52 Bt52 hEt52 hqt52
    clear hEt52
    simp only[nn]
    refine gr (rs:= [4,21]) (gcB 4 (some 15) rfl rfl hqt52 (kk hqt52.fr) (fun x=>cu x) ?_ (Ax 21 (some 32) rfl rfl (by kernel_rfl) (Dd rfl rfl rfl) (Nat.succ_pos _) hqt52 (fun _ hZ=>cu hZ) ?_ gn))
    ·intro Yt53 hqt53
     simp only[nn]
     refine gr (rs:= [6,21]) (gcB 6 (some 17) rfl rfl hqt53 (kd hqt53.fr) (fun x=>cu x) ?_ (Ax 21 (some 32) rfl rfl (by kernel_rfl) (Dd rfl rfl rfl) (Nat.succ_pos _) hqt53 (fun _ hZ=>cu hZ) ?_ gn))
     ·intro Yt54 hqt54
      simp only[nn]
      refine gr (rs:= [15,21]) (gcB 15 (some 26) rfl rfl hqt54 (kn (hqt54.hp 0 rfl) (hqt54.hold 3 rfl)) (fun x=>cu x) ?_ (Ax 21 (some 32) rfl rfl (by kernel_rfl) (Dd rfl rfl rfl) (Nat.succ_pos _) hqt54 (fun _ hZ=>cu hZ) ?_ gn))
      ·intro Yt55 hqt55
       simp only[nn]
       refine gr (rs:= [21]) (Ax 21 (some 32) rfl rfl (by kernel_rfl) (Dd rfl rfl rfl) (Nat.succ_pos _) hqt55 (fun _ hZ=>cu hZ) ?_ gn)
       intro Yt56 Bt56 hEt56 hqt56
       clear hEt56
       simp only[nn]
       refine gr (rs:= [22]) (gcB 22 (some 33) rfl rfl hqt56 (ka (hqt56.hp 0 rfl) (hqt56.hold 4 rfl)) (fun x=>cu x) ?_ gn)
       intro Yt57 hqt57
       simp only[nn]
       refine gr (rs:= [23]) (Ax 23 (some 34) rfl rfl (by kernel_rfl) (Dv rfl rfl rfl rfl rfl rfl) (Nat.succ_pos _) hqt57 (fun _ hZ=>cu hZ) ?_ gn)
       intro Yt58 Bt58 hEt58 hqt58
       clear hEt58
       simp only[nn]
       refine gr (rs:= [24]) (gcW 24 (some 35) rfl rfl (cu hqt58) (ko (hqt58.hold 5 rfl)) ?_ gn)
       refine gp 25 (some 10) (.int .i64 (orE [thE o h.l.length,Bh k,Gi d,Ap h.l.length [d.v,d.g,d.s],Gj [d.g,d.s]])) rfl rfl (cu hqt58) ?_
       refine dn ?_
       try simp only[nn]
       exact pN ⟨_,_,_,rfl,cu hqt58⟩
      ·intro Yt60 Bt60 hEt60 hqt60
       clear hEt60
       simp only[nn]
       refine gr (rs:= [15]) (gcB 15 (some 26) rfl rfl hqt60 (kn (hqt60.hp 0 rfl) (hqt60.hold 3 rfl)) (fun x=>cu x) ?_ gn)
       intro Yt61 hqt61
       simp only[nn]
       refine gr (rs:= [22]) (gcB 22 (some 33) rfl rfl hqt61 (ka (hqt61.hp 0 rfl) (hqt61.hold 4 rfl)) (fun x=>cu x) ?_ gn)
       intro Yt62 hqt62
       simp only[nn]
       refine gr (rs:= [23]) (Ax 23 (some 34) rfl rfl (by kernel_rfl) (Dv rfl rfl rfl rfl rfl rfl) (Nat.succ_pos _) hqt62 (fun _ hZ=>cu hZ) ?_ gn)
       intro Yt63 Bt63 hEt63 hqt63
       clear hEt63
       simp only[nn]
       refine gr (rs:= [24]) (gcW 24 (some 35) rfl rfl (cu hqt63) (ko (hqt63.hold 5 rfl)) ?_ gn)
       refine gp 25 (some 10) (.int .i64 (orE [thE o h.l.length,Bh k,Gi d,Ap h.l.length [d.v,d.g,d.s],Gj [d.g,d.s]])) rfl rfl (cu hqt63) ?_
       refine dn ?_
       try simp only[nn]
       exact pN ⟨_,_,_,rfl,cu hqt63⟩
     ·intro Yt65 Bt65 hEt65 hqt65
      clear hEt65
      simp only[nn]
      refine gr (rs:= [6]) (gcB 6 (some 17) rfl rfl hqt65 (kd hqt65.fr) (fun x=>cu x) ?_ gn)
      intro Yt66 hqt66
      simp only[nn]
      refine gr (rs:= [15]) (gcB 15 (some 26) rfl rfl hqt66 (kn (hqt66.hp 0 rfl) (hqt66.hold 3 rfl)) (fun x=>cu x) ?_ gn)
      intro Yt67 hqt67
      simp only[nn]
      refine gr (rs:= [22]) (gcB 22 (some 33) rfl rfl hqt67 (ka (hqt67.hp 0 rfl) (hqt67.hold 4 rfl)) (fun x=>cu x) ?_ gn)
      intro Yt68 hqt68
      simp only[nn]
      refine gr (rs:= [23]) (Ax 23 (some 34) rfl rfl (by kernel_rfl) (Dv rfl rfl rfl rfl rfl rfl) (Nat.succ_pos _) hqt68 (fun _ hZ=>cu hZ) ?_ gn)
      intro Yt69 Bt69 hEt69 hqt69
      clear hEt69
      simp only[nn]
      refine gr (rs:= [24]) (gcW 24 (some 35) rfl rfl (cu hqt69) (ko (hqt69.hold 5 rfl)) ?_ gn)
      refine gp 25 (some 10) (.int .i64 (orE [thE o h.l.length,Bh k,Gi d,Ap h.l.length [d.v,d.g,d.s],Gj [d.g,d.s]])) rfl rfl (cu hqt69) ?_
      refine dn ?_
      try simp only[nn]
      exact pN ⟨_,_,_,rfl,cu hqt69⟩
    ·intro Yt71 Bt71 hEt71 hqt71
     clear hEt71
     simp only[nn]
     refine gr (rs:= [4]) (gcB 4 (some 15) rfl rfl hqt71 (kk hqt71.fr) (fun x=>cu x) ?_ gn)
     intro Yt72 hqt72
     simp only[nn]
     refine gr (rs:= [6]) (gcB 6 (some 17) rfl rfl hqt72 (kd hqt72.fr) (fun x=>cu x) ?_ gn)
     intro Yt73 hqt73
     simp only[nn]
     refine gr (rs:= [15]) (gcB 15 (some 26) rfl rfl hqt73 (kn (hqt73.hp 0 rfl) (hqt73.hold 3 rfl)) (fun x=>cu x) ?_ gn)
     intro Yt74 hqt74
     simp only[nn]
     refine gr (rs:= [22]) (gcB 22 (some 33) rfl rfl hqt74 (ka (hqt74.hp 0 rfl) (hqt74.hold 4 rfl)) (fun x=>cu x) ?_ gn)
     intro Yt75 hqt75
     simp only[nn]
     refine gr (rs:= [23]) (Ax 23 (some 34) rfl rfl (by kernel_rfl) (Dv rfl rfl rfl rfl rfl rfl) (Nat.succ_pos _) hqt75 (fun _ hZ=>cu hZ) ?_ gn)
     intro Yt76 Bt76 hEt76 hqt76
     clear hEt76
     simp only[nn]
     refine gr (rs:= [24]) (gcW 24 (some 35) rfl rfl (cu hqt76) (ko (hqt76.hold 5 rfl)) ?_ gn)
     refine gp 25 (some 10) (.int .i64 (orE [thE o h.l.length,Bh k,Gi d,Ap h.l.length [d.v,d.g,d.s],Gj [d.g,d.s]])) rfl rfl (cu hqt76) ?_
     refine dn ?_
     try simp only[nn]
     exact pN ⟨_,_,_,rfl,cu hqt76⟩
   ·intro Yt78 Bt78 hEt78 hqt78
    clear hEt78
    simp only[nn]
    refine gr (rs:= [4,14]) (gcB 4 (some 15) rfl rfl hqt78 (kk hqt78.fr) (fun x=>cu x) ?_ (Ax 14 (some 25) rfl rfl (by kernel_rfl) (Gl rfl rfl rfl rfl) (Nat.succ_pos _) hqt78 (fun _ hZ=>cu hZ) ?_ gn))
    ·intro Yt79 hqt79
     simp only[nn]
     refine gr (rs:= [6,14]) (gcB 6 (some 17) rfl rfl hqt79 (kd hqt79.fr) (fun x=>cu x) ?_ (Ax 14 (some 25) rfl rfl (by kernel_rfl) (Gl rfl rfl rfl rfl) (Nat.succ_pos _) hqt79 (fun _ hZ=>cu hZ) ?_ gn))
     ·intro Yt80 hqt80
      simp only[nn]
      refine gr (rs:= [14]) (Ax 14 (some 25) rfl rfl (by kernel_rfl) (Gl rfl rfl rfl rfl) (Nat.succ_pos _) hqt80 (fun _ hZ=>cu hZ) ?_ gn)
      intro Yt81 Bt81 hEt81 hqt81
      clear hEt81
      simp only[nn]
      refine gr (rs:= [15]) (gcB 15 (some 26) rfl rfl hqt81 (kn (hqt81.hp 0 rfl) (hqt81.hold 4 rfl)) (fun x=>cu x) ?_ gn)
      intro Yt82 hqt82
      simp only[nn]
      refine gr (rs:= [22]) (gcB 22 (some 33) rfl rfl hqt82 (ka (hqt82.hp 0 rfl) (hqt82.hold 3 rfl)) (fun x=>cu x) ?_ gn)
      intro Yt83 hqt83
      simp only[nn]
      refine gr (rs:= [23]) (Ax 23 (some 34) rfl rfl (by kernel_rfl) (Dv rfl rfl rfl rfl rfl rfl) (Nat.succ_pos _) hqt83 (fun _ hZ=>cu hZ) ?_ gn)
      intro Yt84 Bt84 hEt84 hqt84
      clear hEt84
      simp only[nn]
      refine gr (rs:= [24]) (gcW 24 (some 35) rfl rfl (cu hqt84) (ko (hqt84.hold 5 rfl)) ?_ gn)
      refine gp 25 (some 10) (.int .i64 (orE [thE o h.l.length,Bh k,Gi d,Ap h.l.length [d.v,d.g,d.s],Gj [d.g,d.s]])) rfl rfl (cu hqt84) ?_
      refine dn ?_
      try simp only[nn]
      exact pN ⟨_,_,_,rfl,cu hqt84⟩
     ·intro Yt86 Bt86 hEt86 hqt86
      clear hEt86
      simp only[nn]
      refine gr (rs:= [6]) (gcB 6 (some 17) rfl rfl hqt86 (kd hqt86.fr) (fun x=>cu x) ?_ gn)
      intro Yt87 hqt87
      simp only[nn]
      refine gr (rs:= [15]) (gcB 15 (some 26) rfl rfl hqt87 (kn (hqt87.hp 0 rfl) (hqt87.hold 4 rfl)) (fun x=>cu x) ?_ gn)
      intro Yt88 hqt88
      simp only[nn]
      refine gr (rs:= [22]) (gcB 22 (some 33) rfl rfl hqt88 (ka (hqt88.hp 0 rfl) (hqt88.hold 3 rfl)) (fun x=>cu x) ?_ gn)
      intro Yt89 hqt89
      simp only[nn]
      refine gr (rs:= [23]) (Ax 23 (some 34) rfl rfl (by kernel_rfl) (Dv rfl rfl rfl rfl rfl rfl) (Nat.succ_pos _) hqt89 (fun _ hZ=>cu hZ) ?_ gn)
      intro Yt90 Bt90 hEt90 hqt90
      clear hEt90
      simp only[nn]
      refine gr (rs:= [24]) (gcW 24 (some 35) rfl rfl (cu hqt90) (ko (hqt90.hold 5 rfl)) ?_ gn)
      refine gp 25 (some 10) (.int .i64 (orE [thE o h.l.length,Bh k,Gi d,Ap h.l.length [d.v,d.g,d.s],Gj [d.g,d.s]])) rfl rfl (cu hqt90) ?_
      refine dn ?_
      try simp only[nn]
      exact pN ⟨_,_,_,rfl,cu hqt90⟩
    ·intro Yt92 Bt92 hEt92 hqt92
     clear hEt92
     simp only[nn]
     refine gr (rs:= [4]) (gcB 4 (some 15) rfl rfl hqt92 (kk hqt92.fr) (fun x=>cu x) ?_ gn)
     intro Yt93 hqt93
     simp only[nn]
     refine gr (rs:= [6]) (gcB 6 (some 17) rfl rfl hqt93 (kd hqt93.fr) (fun x=>cu x) ?_ gn)
     intro Yt94 hqt94
     simp only[nn]
     refine gr (rs:= [15]) (gcB 15 (some 26) rfl rfl hqt94 (kn (hqt94.hp 0 rfl) (hqt94.hold 4 rfl)) (fun x=>cu x) ?_ gn)
     intro Yt95 hqt95
     simp only[nn]
     refine gr (rs:= [22]) (gcB 22 (some 33) rfl rfl hqt95 (ka (hqt95.hp 0 rfl) (hqt95.hold 3 rfl)) (fun x=>cu x) ?_ gn)
     intro Yt96 hqt96
     simp only[nn]
     refine gr (rs:= [23]) (Ax 23 (some 34) rfl rfl (by kernel_rfl) (Dv rfl rfl rfl rfl rfl rfl) (Nat.succ_pos _) hqt96 (fun _ hZ=>cu hZ) ?_ gn)
     intro Yt97 Bt97 hEt97 hqt97
     clear hEt97
     simp only[nn]
     refine gr (rs:= [24]) (gcW 24 (some 35) rfl rfl (cu hqt97) (ko (hqt97.hold 5 rfl)) ?_ gn)
     refine gp 25 (some 10) (.int .i64 (orE [thE o h.l.length,Bh k,Gi d,Ap h.l.length [d.v,d.g,d.s],Gj [d.g,d.s]])) rfl rfl (cu hqt97) ?_
     refine dn ?_
     try simp only[nn]
     exact pN ⟨_,_,_,rfl,cu hqt97⟩
  ·intro Yt99 Bt99 hEt99 hqt99
   clear hEt99
   simp only[nn]
   refine gr (rs:= [2,21]) (gcW 2 (some 13) rfl rfl (cu hqt99) (kt (hqt99.hp 0 rfl)) ?_ (Ax 21 (some 32) rfl rfl (by kernel_rfl) (Dd rfl rfl rfl) (Nat.succ_pos _) hqt99 (fun _ hZ=>cu hZ) ?_ gn))
   ·simp only[nn]
    refine gr (rs:= [4,21]) (gcB 4 (some 15) rfl rfl hqt99 (kk hqt99.fr) (fun x=>cu x) ?_ (Ax 21 (some 32) rfl rfl (by kernel_rfl) (Dd rfl rfl rfl) (Nat.succ_pos _) hqt99 (fun _ hZ=>cu hZ) ?_ gn))
    ·intro Yt101 hqt101
     simp only[nn]
     refine gr (rs:= [6,21]) (gcB 6 (some 17) rfl rfl hqt101 (kd hqt101.fr) (fun x=>cu x) ?_ (Ax 21 (some 32) rfl rfl (by kernel_rfl) (Dd rfl rfl rfl) (Nat.succ_pos _) hqt101 (fun _ hZ=>cu hZ) ?_ gn))
     ·intro Yt102 hqt102
      simp only[nn]
      refine gr (rs:= [15,21]) (gcB 15 (some 26) rfl rfl hqt102 (kn (hqt102.hp 0 rfl) (hqt102.hold 3 rfl)) (fun x=>cu x) ?_ (Ax 21 (some 32) rfl rfl (by kernel_rfl) (Dd rfl rfl rfl) (Nat.succ_pos _) hqt102 (fun _ hZ=>cu hZ) ?_ gn))
      ·intro Yt103 hqt103
       simp only[nn]
       refine gr (rs:= [21]) (Ax 21 (some 32) rfl rfl (by kernel_rfl) (Dd rfl rfl rfl) (Nat.succ_pos _) hqt103 (fun _ hZ=>cu hZ) ?_ gn)
       intro Yt104 Bt104 hEt104 hqt104
       clear hEt104
       simp only[nn]
       refine gr (rs:= [22]) (gcB 22 (some 33) rfl rfl hqt104 (ka (hqt104.hp 0 rfl) (hqt104.hold 4 rfl)) (fun x=>cu x) ?_ gn)
       intro Yt105 hqt105
       simp only[nn]
       refine gr (rs:= [23]) (Ax 23 (some 34) rfl rfl (by kernel_rfl) (Dv rfl rfl rfl rfl rfl rfl) (Nat.succ_pos _) hqt105 (fun _ hZ=>cu hZ) ?_ gn)
       intro Yt106 Bt106 hEt106 hqt106
       clear hEt106
       simp only[nn]
       refine gr (rs:= [24]) (gcW 24 (some 35) rfl rfl (cu hqt106) (ko (hqt106.hold 5 rfl)) ?_ gn)
       refine gp 25 (some 10) (.int .i64 (orE [thE o h.l.length,Bh k,Gi d,Ap h.l.length [d.v,d.g,d.s],Gj [d.g,d.s]])) rfl rfl (cu hqt106) ?_
       refine dn ?_
       try simp only[nn]
       exact pN ⟨_,_,_,rfl,cu hqt106⟩
      ·intro Yt108 Bt108 hEt108 hqt108
       clear hEt108
       simp only[nn]
       refine gr (rs:= [15]) (gcB 15 (some 26) rfl rfl hqt108 (kn (hqt108.hp 0 rfl) (hqt108.hold 3 rfl)) (fun x=>cu x) ?_ gn)
       intro Yt109 hqt109
       simp only[nn]
       refine gr (rs:= [22]) (gcB 22 (some 33) rfl rfl hqt109 (ka (hqt109.hp 0 rfl) (hqt109.hold 4 rfl)) (fun x=>cu x) ?_ gn)
       intro Yt110 hqt110
       simp only[nn]
       refine gr (rs:= [23]) (Ax 23 (some 34) rfl rfl (by kernel_rfl) (Dv rfl rfl rfl rfl rfl rfl) (Nat.succ_pos _) hqt110 (fun _ hZ=>cu hZ) ?_ gn)
       intro Yt111 Bt111 hEt111 hqt111
       clear hEt111
       simp only[nn]
       refine gr (rs:= [24]) (gcW 24 (some 35) rfl rfl (cu hqt111) (ko (hqt111.hold 5 rfl)) ?_ gn)
       refine gp 25 (some 10) (.int .i64 (orE [thE o h.l.length,Bh k,Gi d,Ap h.l.length [d.v,d.g,d.s],Gj [d.g,d.s]])) rfl rfl (cu hqt111) ?_
       refine dn ?_
       try simp only[nn]
       exact pN ⟨_,_,_,rfl,cu hqt111⟩
     ·intro Yt113 Bt113 hEt113 hqt113
      clear hEt113
      simp only[nn]
      refine gr (rs:= [6]) (gcB 6 (some 17) rfl rfl hqt113 (kd hqt113.fr) (fun x=>cu x) ?_ gn)
      intro Yt114 hqt114
      simp only[nn]
      refine gr (rs:= [15]) (gcB 15 (some 26) rfl rfl hqt114 (kn (hqt114.hp 0 rfl) (hqt114.hold 3 rfl)) (fun x=>cu x) ?_ gn)
      intro Yt115 hqt115
      simp only[nn]
      refine gr (rs:= [22]) (gcB 22 (some 33) rfl rfl hqt115 (ka (hqt115.hp 0 rfl) (hqt115.hold 4 rfl)) (fun x=>cu x) ?_ gn)
      intro Yt116 hqt116
      simp only[nn]
      refine gr (rs:= [23]) (Ax 23 (some 34) rfl rfl (by kernel_rfl) (Dv rfl rfl rfl rfl rfl rfl) (Nat.succ_pos _) hqt116 (fun _ hZ=>cu hZ) ?_ gn)
      intro Yt117 Bt117 hEt117 hqt117
      clear hEt117
      simp only[nn]
      refine gr (rs:= [24]) (gcW 24 (some 35) rfl rfl (cu hqt117) (ko (hqt117.hold 5 rfl)) ?_ gn)
      refine gp 25 (some 10) (.int .i64 (orE [thE o h.l.length,Bh k,Gi d,Ap h.l.length [d.v,d.g,d.s],Gj [d.g,d.s]])) rfl rfl (cu hqt117) ?_
      refine dn ?_
      try simp only[nn]
      exact pN ⟨_,_,_,rfl,cu hqt117⟩
    ·intro Yt119 Bt119 hEt119 hqt119
     clear hEt119
     simp only[nn]
     refine gr (rs:= [4]) (gcB 4 (some 15) rfl rfl hqt119 (kk hqt119.fr) (fun x=>cu x) ?_ gn)
     intro Yt120 hqt120
     simp only[nn]
     refine gr (rs:= [6]) (gcB 6 (some 17) rfl rfl hqt120 (kd hqt120.fr) (fun x=>cu x) ?_ gn)
     intro Yt121 hqt121
     simp only[nn]
     refine gr (rs:= [15]) (gcB 15 (some 26) rfl rfl hqt121 (kn (hqt121.hp 0 rfl) (hqt121.hold 3 rfl)) (fun x=>cu x) ?_ gn)
     intro Yt122 hqt122
     simp only[nn]
     refine gr (rs:= [22]) (gcB 22 (some 33) rfl rfl hqt122 (ka (hqt122.hp 0 rfl) (hqt122.hold 4 rfl)) (fun x=>cu x) ?_ gn)
     intro Yt123 hqt123
     simp only[nn]
     refine gr (rs:= [23]) (Ax 23 (some 34) rfl rfl (by kernel_rfl) (Dv rfl rfl rfl rfl rfl rfl) (Nat.succ_pos _) hqt123 (fun _ hZ=>cu hZ) ?_ gn)
     intro Yt124 Bt124 hEt124 hqt124
     clear hEt124
     simp only[nn]
     refine gr (rs:= [24]) (gcW 24 (some 35) rfl rfl (cu hqt124) (ko (hqt124.hold 5 rfl)) ?_ gn)
     refine gp 25 (some 10) (.int .i64 (orE [thE o h.l.length,Bh k,Gi d,Ap h.l.length [d.v,d.g,d.s],Gj [d.g,d.s]])) rfl rfl (cu hqt124) ?_
     refine dn ?_
     try simp only[nn]
     exact pN ⟨_,_,_,rfl,cu hqt124⟩
   ·intro Yt126 Bt126 hEt126 hqt126
    clear hEt126
    simp only[nn]
    refine gr (rs:= [2]) (gcW 2 (some 13) rfl rfl (cu hqt126) (kt (hqt126.hp 0 rfl)) ?_ gn)
    simp only[nn]
    refine gr (rs:= [4]) (gcB 4 (some 15) rfl rfl hqt126 (kk hqt126.fr) (fun x=>cu x) ?_ gn)
    intro Yt128 hqt128
    simp only[nn]
    refine gr (rs:= [6]) (gcB 6 (some 17) rfl rfl hqt128 (kd hqt128.fr) (fun x=>cu x) ?_ gn)
    intro Yt129 hqt129
    simp only[nn]
    refine gr (rs:= [15]) (gcB 15 (some 26) rfl rfl hqt129 (kn (hqt129.hp 0 rfl) (hqt129.hold 3 rfl)) (fun x=>cu x) ?_ gn)
    intro Yt130 hqt130
    simp only[nn]
    refine gr (rs:= [22]) (gcB 22 (some 33) rfl rfl hqt130 (ka (hqt130.hp 0 rfl) (hqt130.hold 4 rfl)) (fun x=>cu x) ?_ gn)
    intro Yt131 hqt131
    simp only[nn]
    refine gr (rs:= [23]) (Ax 23 (some 34) rfl rfl (by kernel_rfl) (Dv rfl rfl rfl rfl rfl rfl) (Nat.succ_pos _) hqt131 (fun _ hZ=>cu hZ) ?_ gn)
    intro Yt132 Bt132 hEt132 hqt132
    clear hEt132
    simp only[nn]
    refine gr (rs:= [24]) (gcW 24 (some 35) rfl rfl (cu hqt132) (ko (hqt132.hold 5 rfl)) ?_ gn)
    refine gp 25 (some 10) (.int .i64 (orE [thE o h.l.length,Bh k,Gi d,Ap h.l.length [d.v,d.g,d.s],Gj [d.g,d.s]])) rfl rfl (cu hqt132) ?_
    refine dn ?_
    try simp only[nn]
    exact pN ⟨_,_,_,rfl,cu hqt132⟩
  ·intro Yt134 Bt134 hEt134 hqt134
   clear hEt134
   simp only[nn]
   refine gr (rs:= [2,14]) (gcW 2 (some 13) rfl rfl (cu hqt134) (kt (hqt134.hp 0 rfl)) ?_ (Ax 14 (some 25) rfl rfl (by kernel_rfl) (Gl rfl rfl rfl rfl) (Nat.succ_pos _) hqt134 (fun _ hZ=>cu hZ) ?_ gn))
   ·simp only[nn]
    refine gr (rs:= [4,14]) (gcB 4 (some 15) rfl rfl hqt134 (kk hqt134.fr) (fun x=>cu x) ?_ (Ax 14 (some 25) rfl rfl (by kernel_rfl) (Gl rfl rfl rfl rfl) (Nat.succ_pos _) hqt134 (fun _ hZ=>cu hZ) ?_ gn))
    ·intro Yt136 hqt136
     simp only[nn]
     refine gr (rs:= [6,14]) (gcB 6 (some 17) rfl rfl hqt136 (kd hqt136.fr) (fun x=>cu x) ?_ (Ax 14 (some 25) rfl rfl (by kernel_rfl) (Gl rfl rfl rfl rfl) (Nat.succ_pos _) hqt136 (fun _ hZ=>cu hZ) ?_ gn))
     ·intro Yt137 hqt137
      simp only[nn]
      refine gr (rs:= [14]) (Ax 14 (some 25) rfl rfl (by kernel_rfl) (Gl rfl rfl rfl rfl) (Nat.succ_pos _) hqt137 (fun _ hZ=>cu hZ) ?_ gn)
      intro Yt138 Bt138 hEt138 hqt138
      clear hEt138
      simp only[nn]
      refine gr (rs:= [15]) (gcB 15 (some 26) rfl rfl hqt138 (kn (hqt138.hp 0 rfl) (hqt138.hold 4 rfl)) (fun x=>cu x) ?_ gn)
      intro Yt139 hqt139
      simp only[nn]
      refine gr (rs:= [22]) (gcB 22 (some 33) rfl rfl hqt139 (ka (hqt139.hp 0 rfl) (hqt139.hold 3 rfl)) (fun x=>cu x) ?_ gn)
      intro Yt140 hqt140
      simp only[nn]
      refine gr (rs:= [23]) (Ax 23 (some 34) rfl rfl (by kernel_rfl) (Dv rfl rfl rfl rfl rfl rfl) (Nat.succ_pos _) hqt140 (fun _ hZ=>cu hZ) ?_ gn)
      intro Yt141 Bt141 hEt141 hqt141
      clear hEt141
      simp only[nn]
      refine gr (rs:= [24]) (gcW 24 (some 35) rfl rfl (cu hqt141) (ko (hqt141.hold 5 rfl)) ?_ gn)
      refine gp 25 (some 10) (.int .i64 (orE [thE o h.l.length,Bh k,Gi d,Ap h.l.length [d.v,d.g,d.s],Gj [d.g,d.s]])) rfl rfl (cu hqt141) ?_
      refine dn ?_
      try simp only[nn]
      exact pN ⟨_,_,_,rfl,cu hqt141⟩
     ·intro Yt143 Bt143 hEt143 hqt143
      clear hEt143
      simp only[nn]
      refine gr (rs:= [6]) (gcB 6 (some 17) rfl rfl hqt143 (kd hqt143.fr) (fun x=>cu x) ?_ gn)
      intro Yt144 hqt144
      simp only[nn]
      refine gr (rs:= [15]) (gcB 15 (some 26) rfl rfl hqt144 (kn (hqt144.hp 0 rfl) (hqt144.hold 4 rfl)) (fun x=>cu x) ?_ gn)
      intro Yt145 hqt145
      simp only[nn]
      refine gr (rs:= [22]) (gcB 22 (some 33) rfl rfl hqt145 (ka (hqt145.hp 0 rfl) (hqt145.hold 3 rfl)) (fun x=>cu x) ?_ gn)
      intro Yt146 hqt146
      simp only[nn]
      refine gr (rs:= [23]) (Ax 23 (some 34) rfl rfl (by kernel_rfl) (Dv rfl rfl rfl rfl rfl rfl) (Nat.succ_pos _) hqt146 (fun _ hZ=>cu hZ) ?_ gn)
      intro Yt147 Bt147 hEt147 hqt147
      clear hEt147
      simp only[nn]
      refine gr (rs:= [24]) (gcW 24 (some 35) rfl rfl (cu hqt147) (ko (hqt147.hold 5 rfl)) ?_ gn)
      refine gp 25 (some 10) (.int .i64 (orE [thE o h.l.length,Bh k,Gi d,Ap h.l.length [d.v,d.g,d.s],Gj [d.g,d.s]])) rfl rfl (cu hqt147) ?_
      refine dn ?_
      try simp only[nn]
      exact pN ⟨_,_,_,rfl,cu hqt147⟩
    ·intro Yt149 Bt149 hEt149 hqt149
     clear hEt149
     simp only[nn]
     refine gr (rs:= [4]) (gcB 4 (some 15) rfl rfl hqt149 (kk hqt149.fr) (fun x=>cu x) ?_ gn)
     intro Yt150 hqt150
     simp only[nn]
     refine gr (rs:= [6]) (gcB 6 (some 17) rfl rfl hqt150 (kd hqt150.fr) (fun x=>cu x) ?_ gn)
     intro Yt151 hqt151
     simp only[nn]
     refine gr (rs:= [15]) (gcB 15 (some 26) rfl rfl hqt151 (kn (hqt151.hp 0 rfl) (hqt151.hold 4 rfl)) (fun x=>cu x) ?_ gn)
     intro Yt152 hqt152
     simp only[nn]
     refine gr (rs:= [22]) (gcB 22 (some 33) rfl rfl hqt152 (ka (hqt152.hp 0 rfl) (hqt152.hold 3 rfl)) (fun x=>cu x) ?_ gn)
     intro Yt153 hqt153
     simp only[nn]
     refine gr (rs:= [23]) (Ax 23 (some 34) rfl rfl (by kernel_rfl) (Dv rfl rfl rfl rfl rfl rfl) (Nat.succ_pos _) hqt153 (fun _ hZ=>cu hZ) ?_ gn)
     intro Yt154 Bt154 hEt154 hqt154
     clear hEt154
     simp only[nn]
     refine gr (rs:= [24]) (gcW 24 (some 35) rfl rfl (cu hqt154) (ko (hqt154.hold 5 rfl)) ?_ gn)
     refine gp 25 (some 10) (.int .i64 (orE [thE o h.l.length,Bh k,Gi d,Ap h.l.length [d.v,d.g,d.s],Gj [d.g,d.s]])) rfl rfl (cu hqt154) ?_
     refine dn ?_
     try simp only[nn]
     exact pN ⟨_,_,_,rfl,cu hqt154⟩
   ·intro Yt156 Bt156 hEt156 hqt156
    clear hEt156
    simp only[nn]
    refine gr (rs:= [2]) (gcW 2 (some 13) rfl rfl (cu hqt156) (kt (hqt156.hp 0 rfl)) ?_ gn)
    simp only[nn]
    refine gr (rs:= [4]) (gcB 4 (some 15) rfl rfl hqt156 (kk hqt156.fr) (fun x=>cu x) ?_ gn)
    intro Yt158 hqt158
    simp only[nn]
    refine gr (rs:= [6]) (gcB 6 (some 17) rfl rfl hqt158 (kd hqt158.fr) (fun x=>cu x) ?_ gn)
    intro Yt159 hqt159
    simp only[nn]
    refine gr (rs:= [15]) (gcB 15 (some 26) rfl rfl hqt159 (kn (hqt159.hp 0 rfl) (hqt159.hold 4 rfl)) (fun x=>cu x) ?_ gn)
    intro Yt160 hqt160
    simp only[nn]
    refine gr (rs:= [22]) (gcB 22 (some 33) rfl rfl hqt160 (ka (hqt160.hp 0 rfl) (hqt160.hold 3 rfl)) (fun x=>cu x) ?_ gn)
    intro Yt161 hqt161
    simp only[nn]
    refine gr (rs:= [23]) (Ax 23 (some 34) rfl rfl (by kernel_rfl) (Dv rfl rfl rfl rfl rfl rfl) (Nat.succ_pos _) hqt161 (fun _ hZ=>cu hZ) ?_ gn)
    intro Yt162 Bt162 hEt162 hqt162
    clear hEt162
    simp only[nn]
    refine gr (rs:= [24]) (gcW 24 (some 35) rfl rfl (cu hqt162) (ko (hqt162.hold 5 rfl)) ?_ gn)
    refine gp 25 (some 10) (.int .i64 (orE [thE o h.l.length,Bh k,Gi d,Ap h.l.length [d.v,d.g,d.s],Gj [d.g,d.s]])) rfl rfl (cu hqt162) ?_
    refine dn ?_
    try simp only[nn]
    exact pN ⟨_,_,_,rfl,cu hqt162⟩
 ·rintro a' X ⟨v25,v32,v34,rfl,hS9⟩
  simp only[nn]
  have SS:=Ab hS9
  clear hS9
  by_cases hc:orE [thE o h.l.length,Bh k,Gi d,Ap h.l.length [d.v,d.g,d.s],Gj [d.g,d.s]]=0
  ·obtain⟨j,q,ho_,hj⟩:=Kl (h:=h) (o:=o) (Jh hc (thE o h.l.length) (by simp))
   have HO_:=Ab ho_
   clear ho_
   go_wp2_with (first|go_skip|((with_reducible show wpList ..);first|(refine rd rfl (Jl rfl rfl rfl hc) ?_)|(refine zL (k.cs) 45 2 1 rwK szK (by rfl) rfl rfl SS rfl rfl rfl ?_;simp only[nn])|(refine zL (d.cs) 48 18 2 rwD szD (by rfl) rfl rfl SS rfl rfl rfl ?_;simp only[nn])))
   have HC:=hC j q _ (Aa HO_) hj hc (HP.To.end H (Aa SS) rfl)
   rw[Dg,Lh] at HC
   rw[←Aa HO_] at HC
   refine HC.mono ?_
   rintro _ Y9 ⟨h1,y,er,rfl,hP,T9⟩
   replace SS:=Ab ((Aa SS).heap 0 rfl T9)
   have hb9:h1.b=h.b:=T9.hb
   clear T9 HC
   go_wp2
   go_ret2
   exact⟨h1,y,er,rfl, .inr ⟨hc,hP⟩,HP.To.end H (Aa SS) hb9⟩
  ·go_wp2_with (first|go_skip|((with_reducible show wpList ..);first|(refine rd rfl (Jy rfl rfl rfl hc) ?_)))
   go_ret2
   exact⟨h,false,_,rfl, .inl ⟨hc,rfl,rfl,rfl⟩,HP.To.end H (Aa SS) rfl⟩
