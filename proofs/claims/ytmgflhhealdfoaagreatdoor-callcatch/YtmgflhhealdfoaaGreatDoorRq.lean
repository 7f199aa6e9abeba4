import Derived.Test.YtmgflhhealdfoaaGreatDoorRg
set_option linter.all false
namespace Go.Proofs.YtmgflhhealdfoaaGreatDoor
set_option maxHeartbeats 1000000
section
open Go Go.Proofs Go.Maps Go.RowKit FM
attribute [local go_sem] mm_GetOwnProperty mm_DefineOwnProperty mm_Get ta_caller ta_builder
set_option maxHeartbeats 2000000 in
set_option maxRecDepth 100000 in
theorem dorDefineOwnProperty (h : HP) (o : Int) (k : KK) (d : DD) (w : World) (H : h.Is w) (hl : h.l.length ≤ 65536) (hT : Tabs w) (hFd : FD d) (P : HP → Bool → Value → Prop) (hC : ∀ (j : Nat) (q : OB) (X : World), o = (j : Int) + 1 → h.l[j]? = some q → orE [thE o h.l.length, kErr k, chkV d, knownE h.l.length [d.v, d.g, d.s], accE h [d.g, d.s]] = 0 → h.To h w X → Calls Tryz.prog 46 #[.pointer (some ⟨h.b, 0, none⟩), .int .i64 ((j : Int) + 1), k.agg, d.agg] X fun e w' => ∃ (h1 : HP) (y : Bool) (er : Value), e = .returned (.tuple #[.bool y, er]) ∧ P h1 y er ∧ h.To h1 X w') : Calls Tryz.prog 15 #[.pointer (some ⟨h.b, 0, none⟩), .int .i64 o, k.agg, d.agg] w fun e w' => ∃ (h1 : HP) (y : Bool) (er : Value), e = .returned (.tuple #[.bool y, er]) ∧ ((orE [thE o h.l.length, kErr k, chkV d, knownE h.l.length [d.v, d.g, d.s], accE h [d.g, d.s]] ≠ 0 ∧ er = ePair (orE [thE o h.l.length, kErr k, chkV d, knownE h.l.length [d.v, d.g, d.s], accE h [d.g, d.s]]) ∧ h1 = h ∧ y = false) ∨ (orE [thE o h.l.length, kErr k, chkV d, knownE h.l.length [d.v, d.g, d.s], accE h [d.g, d.s]] = 0 ∧ P h1 y er)) ∧ h.To h1 w w' := by
  have SS := hide H.start
  rw [kagg, dagg]
  go_enter Tryz.func15, Tryz.ntmps15
  go_wp2_with (first | go_skip | ((with_reducible show wpList _ _ _ _ _ _); first | (refine zB 26 (k.cs) (by rfl) rfl rfl rfl SS ?_; clear SS; intro Xp0 Bp0 SS; simp only [Act.put, n1, n2, n3]) | (refine zB 38 (d.cs) (by rfl) rfl rfl rfl SS ?_; clear SS; intro Xp1 Bp1 SS; simp only [Act.put, n1, n2, n3])))
  have kt := fun {X : World} (s : h.Is X) => there_h h o X s
  have kk := fun {X : World} (s : Fr w X h.blocks) => kcheck k X (hT.fr s H.low).1
  have kd := fun {X : World} (s : Fr w X h.blocks) => check12D d hFd X (hT.fr s H.low).1
  have kn := fun {X : World} {B : Nat} (s : h.Is X) (g : Holds X B ([d.v, d.g, d.s].flatMap VV.cs)) => known_h h (some ⟨B, 0, none⟩) 3 [d.v, d.g, d.s] X s (reads_holds g) (by simp)
  have ka := fun {X : World} {B : Nat} (s : h.Is X) (g : Holds X B ([d.g, d.s].flatMap VV.cs)) => acc_h h (some ⟨B, 0, none⟩) 2 [d.g, d.s] X s hl (reads_holds g) (by simp)
  have ko := fun {X : World} {B : Nat} (g : Holds X B (ints [thE o h.l.length, kErr k, chkV d, knownE h.l.length [d.v, d.g, d.s], accE h [d.g, d.s]])) => or_any B 5 [thE o h.l.length, kErr k, chkV d, knownE h.l.length [d.v, d.g, d.s], accE h [d.g, d.s]] X g (by simp)
  have hS1 : Sy w _ h.blocks [hpO h, boxO Bp0 k.cs, boxO Bp1 d.cs] := (unhide SS).drew
  clear SS
  refine region_post (fun a a' X => ∃ (v25 v32 v34 : Value), a' = ((((((((((((((((((((((((((a.put (some 11) (.pointer (some ⟨h.b, 0, none⟩))).put (some 12) (.int .i64 o)).put (some 13) (.int .i64 (thE o h.l.length))).put (some 14) (.agg k.cs.toArray)).put (some 15) (.int .i64 (kErr k))).put (some 16) (.agg d.cs.toArray)).put (some 17) (.int .i64 (chkV d))).put (some 18) (.pointer (some ⟨h.b, 0, none⟩))).put (some 19) (.pointer (some ⟨Bp1, 0, none⟩))).put (some 20) (.agg (d.v.cs).toArray)).put (some 21) (.pointer (some ⟨Bp1, 5, none⟩))).put (some 22) (.agg (d.g.cs).toArray)).put (some 23) (.pointer (some ⟨Bp1, 10, none⟩))).put (some 24) (.agg (d.s.cs).toArray)).put (some 25) v25).put (some 26) (.int .i64 (knownE h.l.length [d.v, d.g, d.s]))).put (some 27) (.pointer (some ⟨h.b, 0, none⟩))).put (some 28) (.pointer (some ⟨Bp1, 5, none⟩))).put (some 29) (.agg (d.g.cs).toArray)).put (some 30) (.pointer (some ⟨Bp1, 10, none⟩))).put (some 31) (.agg (d.s.cs).toArray)).put (some 32) v32).put (some 33) (.int .i64 (accE h [d.g, d.s]))).put (some 34) v34).put (some 35) (.int .i64 (orE [thE o h.l.length, kErr k, chkV d, knownE h.l.length [d.v, d.g, d.s], accE h [d.g, d.s]]))).put (some 10) (.int .i64 (orE [thE o h.l.length, kErr k, chkV d, knownE h.l.length [d.v, d.g, d.s], accE h [d.g, d.s]]))) ∧ Sy w X h.blocks [hpO h, boxO Bp0 k.cs, boxO Bp1 d.cs]) ?_ ?_
  · have cu : ∀ {X : World} {M : List Ob}, Sy w X h.blocks ([hpO h, boxO Bp0 k.cs, boxO Bp1 d.cs] ++ M) → Sy w X h.blocks [hpO h, boxO Bp0 k.cs, boxO Bp1 d.cs] := fun h => Sy.left h
    refine wp_region_held_drew (P := Tryz.prog) (S := fun X => Sy w X h.blocks _) (by kernel_rfl) (hS1) (fun hS0 => ?_)
    refine gp 0 (some 11) (.pointer (some ⟨h.b, 0, none⟩)) rfl rfl (hS1) ?_
    simp only [Act.put, n1, n2, n3]
    refine gp 1 (some 12) (.int .i64 o) rfl rfl (hS1) ?_
    simp only [Act.put, n1, n2, n3]
    refine gq 3 (some 14) (.agg k.cs.toArray) rfl rfl (fun X hX => ex_loadN (vs := k.cs) 26 2 rwK szK rfl rfl (hX.hold 1 rfl) rfl rfl) (hS1) ?_
    simp only [Act.put, n1, n2, n3]
    refine gq 5 (some 16) (.agg d.cs.toArray) rfl rfl (fun X hX => ex_loadN (vs := d.cs) 38 18 rwD szD rfl rfl (hX.hold 2 rfl) rfl rfl) (hS1) ?_
    simp only [Act.put, n1, n2, n3]
    refine gp 7 (some 18) (.pointer (some ⟨h.b, 0, none⟩)) rfl rfl (hS1) ?_
    simp only [Act.put, n1, n2, n3]
    refine gp 8 (some 19) (.pointer (some ⟨Bp1, 0, none⟩)) rfl rfl (hS1) ?_
    simp only [Act.put, n1, n2, n3]
    refine gq 9 (some 20) (.agg (d.v.cs).toArray) rfl rfl (fun X hX => ex_loadN (vs := d.v.cs) 24 5 rwV szV rfl rfl (hX.hold 2 rfl) rfl rfl) (hS1) ?_
    simp only [Act.put, n1, n2, n3]
    refine gp 10 (some 21) (.pointer (some ⟨Bp1, 5, none⟩)) rfl rfl (hS1) ?_
    simp only [Act.put, n1, n2, n3]
    refine gq 11 (some 22) (.agg (d.g.cs).toArray) rfl rfl (fun X hX => ex_loadN (vs := d.g.cs) 24 5 rwV szV rfl rfl (hX.hold 2 rfl) rfl rfl) (hS1) ?_
    simp only [Act.put, n1, n2, n3]
    refine gp 12 (some 23) (.pointer (some ⟨Bp1, 10, none⟩)) rfl rfl (hS1) ?_
    simp only [Act.put, n1, n2, n3]
    refine gq 13 (some 24) (.agg (d.s.cs).toArray) rfl rfl (fun X hX => ex_loadN (vs := d.s.cs) 24 5 rwV szV rfl rfl (hX.hold 2 rfl) rfl rfl) (hS1) ?_
    simp only [Act.put, n1, n2, n3]
    refine gp 16 (some 27) (.pointer (some ⟨h.b, 0, none⟩)) rfl rfl (hS1) ?_
    simp only [Act.put, n1, n2, n3]
    refine gp 17 (some 28) (.pointer (some ⟨Bp1, 5, none⟩)) rfl rfl (hS1) ?_
    simp only [Act.put, n1, n2, n3]
    refine gq 18 (some 29) (.agg (d.g.cs).toArray) rfl rfl (fun X hX => ex_loadN (vs := d.g.cs) 24 5 rwV szV rfl rfl (hX.hold 2 rfl) rfl rfl) (hS1) ?_
    simp only [Act.put, n1, n2, n3]
    refine gp 19 (some 30) (.pointer (some ⟨Bp1, 10, none⟩)) rfl rfl (hS1) ?_
    simp only [Act.put, n1, n2, n3]
    refine gq 20 (some 31) (.agg (d.s.cs).toArray) rfl rfl (fun X hX => ex_loadN (vs := d.s.cs) 24 5 rwV szV rfl rfl (hX.hold 2 rfl) rfl rfl) (hS1) ?_
    simp only [Act.put, n1, n2, n3]
    refine gr (rs := [2, 14, 21]) (gcW 2 (some 13) rfl rfl (hS1) (kt (hS1.hp 0 rfl)) ?_ (gbsS 14 (some 25) rfl rfl (by kernel_rfl) (ex_bsV3 rfl rfl rfl rfl) (Nat.succ_pos _) hS1 (fun _ hZ => cu hZ) ?_ (gbsS 21 (some 32) rfl rfl (by kernel_rfl) (ex_bsV2 rfl rfl rfl) (Nat.succ_pos _) hS1 (fun _ hZ => cu hZ) ?_ gn)))
    · simp only [Act.put, n1, n2, n3]
      refine gr (rs := [4, 14, 21]) (gcB 4 (some 15) rfl rfl hS1 (kk hS1.fr) id ?_ (gbsS 14 (some 25) rfl rfl (by kernel_rfl) (ex_bsV3 rfl rfl rfl rfl) (Nat.succ_pos _) hS1 (fun _ hZ => cu hZ) ?_ (gbsS 21 (some 32) rfl rfl (by kernel_rfl) (ex_bsV2 rfl rfl rfl) (Nat.succ_pos _) hS1 (fun _ hZ => cu hZ) ?_ gn)))
      · intro Yt2 hqt2
        simp only [Act.put, n1, n2, n3]
        refine gr (rs := [6, 14, 21]) (gcB 6 (some 17) rfl rfl hqt2 (kd hqt2.fr) id ?_ (gbsS 14 (some 25) rfl rfl (by kernel_rfl) (ex_bsV3 rfl rfl rfl rfl) (Nat.succ_pos _) hqt2 (fun _ hZ => cu hZ) ?_ (gbsS 21 (some 32) rfl rfl (by kernel_rfl) (ex_bsV2 rfl rfl rfl) (Nat.succ_pos _) hqt2 (fun _ hZ => cu hZ) ?_ gn)))
        · intro Yt3 hqt3
          simp only [Act.put, n1, n2, n3]
          refine gr (rs := [14, 21]) (gbsS 14 (some 25) rfl rfl (by kernel_rfl) (ex_bsV3 rfl rfl rfl rfl) (Nat.succ_pos _) hqt3 (fun _ hZ => cu hZ) ?_ (gbsS 21 (some 32) rfl rfl (by kernel_rfl) (ex_bsV2 rfl rfl rfl) (Nat.succ_pos _) hqt3 (fun _ hZ => cu hZ) ?_ gn))
          · intro Yt4 Bt4 hEt4 hqt4
            clear hEt4
            simp only [Act.put, n1, n2, n3]
            refine gr (rs := [15, 21]) (gcB 15 (some 26) rfl rfl hqt4 (kn (hqt4.hp 0 rfl) (hqt4.hold 3 rfl)) (fun x => cu x) ?_ (gbsS 21 (some 32) rfl rfl (by kernel_rfl) (ex_bsV2 rfl rfl rfl) (Nat.succ_pos _) hqt4 (fun _ hZ => cu hZ) ?_ gn))
            · intro Yt5 hqt5
              simp only [Act.put, n1, n2, n3]
              refine gr (rs := [21]) (gbsS 21 (some 32) rfl rfl (by kernel_rfl) (ex_bsV2 rfl rfl rfl) (Nat.succ_pos _) hqt5 (fun _ hZ => cu hZ) ?_ gn)
              intro Yt6 Bt6 hEt6 hqt6
              clear hEt6
              simp only [Act.put, n1, n2, n3]
              refine gr (rs := [22]) (gcB 22 (some 33) rfl rfl hqt6 (ka (hqt6.hp 0 rfl) (hqt6.hold 4 rfl)) (fun x => cu x) ?_ gn)
              intro Yt7 hqt7
              simp only [Act.put, n1, n2, n3]
              refine gr (rs := [23]) (gbsS 23 (some 34) rfl rfl (by kernel_rfl) (ex_bsE5 rfl rfl rfl rfl rfl rfl) (Nat.succ_pos _) hqt7 (fun _ hZ => cu hZ) ?_ gn)
              intro Yt8 Bt8 hEt8 hqt8
              clear hEt8
              simp only [Act.put, n1, n2, n3]
              refine gr (rs := [24]) (gcW 24 (some 35) rfl rfl (cu hqt8) (ko (hqt8.hold 5 rfl)) ?_ gn)
              refine gp 25 (some 10) (.int .i64 (orE [thE o h.l.length, kErr k, chkV d, knownE h.l.length [d.v, d.g, d.s], accE h [d.g, d.s]])) rfl rfl (cu hqt8) ?_
              simp only [Act.put, n1, n2, n3]
              refine wpAnyH_done (by kernel_rfl) ?_ _
              try simp only [Act.put, n1, n2, n3]
              exact pN ⟨_, _, _, rfl, cu hqt8⟩
            · intro Yt10 Bt10 hEt10 hqt10
              clear hEt10
              simp only [Act.put, n1, n2, n3]
              refine gr (rs := [15]) (gcB 15 (some 26) rfl rfl hqt10 (kn (hqt10.hp 0 rfl) (hqt10.hold 3 rfl)) (fun x => cu x) ?_ gn)
              intro Yt11 hqt11
              simp only [Act.put, n1, n2, n3]
              refine gr (rs := [22]) (gcB 22 (some 33) rfl rfl hqt11 (ka (hqt11.hp 0 rfl) (hqt11.hold 4 rfl)) (fun x => cu x) ?_ gn)
              intro Yt12 hqt12
              simp only [Act.put, n1, n2, n3]
              refine gr (rs := [23]) (gbsS 23 (some 34) rfl rfl (by kernel_rfl) (ex_bsE5 rfl rfl rfl rfl rfl rfl) (Nat.succ_pos _) hqt12 (fun _ hZ => cu hZ) ?_ gn)
              intro Yt13 Bt13 hEt13 hqt13
              clear hEt13
              simp only [Act.put, n1, n2, n3]
              refine gr (rs := [24]) (gcW 24 (some 35) rfl rfl (cu hqt13) (ko (hqt13.hold 5 rfl)) ?_ gn)
              refine gp 25 (some 10) (.int .i64 (orE [thE o h.l.length, kErr k, chkV d, knownE h.l.length [d.v, d.g, d.s], accE h [d.g, d.s]])) rfl rfl (cu hqt13) ?_
              simp only [Act.put, n1, n2, n3]
              refine wpAnyH_done (by kernel_rfl) ?_ _
              try simp only [Act.put, n1, n2, n3]
              exact pN ⟨_, _, _, rfl, cu hqt13⟩
          · intro Yt15 Bt15 hEt15 hqt15
            clear hEt15
            simp only [Act.put, n1, n2, n3]
            refine gr (rs := [14]) (gbsS 14 (some 25) rfl rfl (by kernel_rfl) (ex_bsV3 rfl rfl rfl rfl) (Nat.succ_pos _) hqt15 (fun _ hZ => cu hZ) ?_ gn)
            intro Yt16 Bt16 hEt16 hqt16
            clear hEt16
            simp only [Act.put, n1, n2, n3]
            refine gr (rs := [15]) (gcB 15 (some 26) rfl rfl hqt16 (kn (hqt16.hp 0 rfl) (hqt16.hold 4 rfl)) (fun x => cu x) ?_ gn)
            intro Yt17 hqt17
            simp only [Act.put, n1, n2, n3]
            refine gr (rs := [22]) (gcB 22 (some 33) rfl rfl hqt17 (ka (hqt17.hp 0 rfl) (hqt17.hold 3 rfl)) (fun x => cu x) ?_ gn)
            intro Yt18 hqt18
            simp only [Act.put, n1, n2, n3]
            refine gr (rs := [23]) (gbsS 23 (some 34) rfl rfl (by kernel_rfl) (ex_bsE5 rfl rfl rfl rfl rfl rfl) (Nat.succ_pos _) hqt18 (fun _ hZ => cu hZ) ?_ gn)
            intro Yt19 Bt19 hEt19 hqt19
            clear hEt19
            simp only [Act.put, n1, n2, n3]
            refine gr (rs := [24]) (gcW 24 (some 35) rfl rfl (cu hqt19) (ko (hqt19.hold 5 rfl)) ?_ gn)
            refine gp 25 (some 10) (.int .i64 (orE [thE o h.l.length, kErr k, chkV d, knownE h.l.length [d.v, d.g, d.s], accE h [d.g, d.s]])) rfl rfl (cu hqt19) ?_
            simp only [Act.put, n1, n2, n3]
            refine wpAnyH_done (by kernel_rfl) ?_ _
            try simp only [Act.put, n1, n2, n3]
            exact pN ⟨_, _, _, rfl, cu hqt19⟩
        · intro Yt21 Bt21 hEt21 hqt21
          clear hEt21
          simp only [Act.put, n1, n2, n3]
          refine gr (rs := [6, 21]) (gcB 6 (some 17) rfl rfl hqt21 (kd hqt21.fr) (fun x => cu x) ?_ (gbsS 21 (some 32) rfl rfl (by kernel_rfl) (ex_bsV2 rfl rfl rfl) (Nat.succ_pos _) hqt21 (fun _ hZ => cu hZ) ?_ gn))
          · intro Yt22 hqt22
            simp only [Act.put, n1, n2, n3]
            refine gr (rs := [15, 21]) (gcB 15 (some 26) rfl rfl hqt22 (kn (hqt22.hp 0 rfl) (hqt22.hold 3 rfl)) (fun x => cu x) ?_ (gbsS 21 (some 32) rfl rfl (by kernel_rfl) (ex_bsV2 rfl rfl rfl) (Nat.succ_pos _) hqt22 (fun _ hZ => cu hZ) ?_ gn))
            · intro Yt23 hqt23
              simp only [Act.put, n1, n2, n3]
              refine gr (rs := [21]) (gbsS 21 (some 32) rfl rfl (by kernel_rfl) (ex_bsV2 rfl rfl rfl) (Nat.succ_pos _) hqt23 (fun _ hZ => cu hZ) ?_ gn)
              intro Yt24 Bt24 hEt24 hqt24
              clear hEt24
              simp only [Act.put, n1, n2, n3]
              refine gr (rs := [22]) (gcB 22 (some 33) rfl rfl hqt24 (ka (hqt24.hp 0 rfl) (hqt24.hold 4 rfl)) (fun x => cu x) ?_ gn)
              intro Yt25 hqt25
              simp only [Act.put, n1, n2, n3]
              refine gr (rs := [23]) (gbsS 23 (some 34) rfl rfl (by kernel_rfl) (ex_bsE5 rfl rfl rfl rfl rfl rfl) (Nat.succ_pos _) hqt25 (fun _ hZ => cu hZ) ?_ gn)
              intro Yt26 Bt26 hEt26 hqt26
              clear hEt26
              simp only [Act.put, n1, n2, n3]
              refine gr (rs := [24]) (gcW 24 (some 35) rfl rfl (cu hqt26) (ko (hqt26.hold 5 rfl)) ?_ gn)
              refine gp 25 (some 10) (.int .i64 (orE [thE o h.l.length, kErr k, chkV d, knownE h.l.length [d.v, d.g, d.s], accE h [d.g, d.s]])) rfl rfl (cu hqt26) ?_
              simp only [Act.put, n1, n2, n3]
              refine wpAnyH_done (by kernel_rfl) ?_ _
              try simp only [Act.put, n1, n2, n3]
              exact pN ⟨_, _, _, rfl, cu hqt26⟩
            · intro Yt28 Bt28 hEt28 hqt28
              clear hEt28
              simp only [Act.put, n1, n2, n3]
              refine gr (rs := [15]) (gcB 15 (some 26) rfl rfl hqt28 (kn (hqt28.hp 0 rfl) (hqt28.hold 3 rfl)) (fun x => cu x) ?_ gn)
              intro Yt29 hqt29
              simp only [Act.put, n1, n2, n3]
              refine gr (rs := [22]) (gcB 22 (some 33) rfl rfl hqt29 (ka (hqt29.hp 0 rfl) (hqt29.hold 4 rfl)) (fun x => cu x) ?_ gn)
              intro Yt30 hqt30
              simp only [Act.put, n1, n2, n3]
              refine gr (rs := [23]) (gbsS 23 (some 34) rfl rfl (by kernel_rfl) (ex_bsE5 rfl rfl rfl rfl rfl rfl) (Nat.succ_pos _) hqt30 (fun _ hZ => cu hZ) ?_ gn)
              intro Yt31 Bt31 hEt31 hqt31
              clear hEt31
              simp only [Act.put, n1, n2, n3]
              refine gr (rs := [24]) (gcW 24 (some 35) rfl rfl (cu hqt31) (ko (hqt31.hold 5 rfl)) ?_ gn)
              refine gp 25 (some 10) (.int .i64 (orE [thE o h.l.length, kErr k, chkV d, knownE h.l.length [d.v, d.g, d.s], accE h [d.g, d.s]])) rfl rfl (cu hqt31) ?_
              simp only [Act.put, n1, n2, n3]
              refine wpAnyH_done (by kernel_rfl) ?_ _
              try simp only [Act.put, n1, n2, n3]
              exact pN ⟨_, _, _, rfl, cu hqt31⟩
          · intro Yt33 Bt33 hEt33 hqt33
            clear hEt33
            simp only [Act.put, n1, n2, n3]
            refine gr (rs := [6]) (gcB 6 (some 17) rfl rfl hqt33 (kd hqt33.fr) (fun x => cu x) ?_ gn)
            intro Yt34 hqt34
            simp only [Act.put, n1, n2, n3]
            refine gr (rs := [15]) (gcB 15 (some 26) rfl rfl hqt34 (kn (hqt34.hp 0 rfl) (hqt34.hold 3 rfl)) (fun x => cu x) ?_ gn)
            intro Yt35 hqt35
            simp only [Act.put, n1, n2, n3]
            refine gr (rs := [22]) (gcB 22 (some 33) rfl rfl hqt35 (ka (hqt35.hp 0 rfl) (hqt35.hold 4 rfl)) (fun x => cu x) ?_ gn)
            intro Yt36 hqt36
            simp only [Act.put, n1, n2, n3]
            refine gr (rs := [23]) (gbsS 23 (some 34) rfl rfl (by kernel_rfl) (ex_bsE5 rfl rfl rfl rfl rfl rfl) (Nat.succ_pos _) hqt36 (fun _ hZ => cu hZ) ?_ gn)
            intro Yt37 Bt37 hEt37 hqt37
            clear hEt37
            simp only [Act.put, n1, n2, n3]
            refine gr (rs := [24]) (gcW 24 (some 35) rfl rfl (cu hqt37) (ko (hqt37.hold 5 rfl)) ?_ gn)
            refine gp 25 (some 10) (.int .i64 (orE [thE o h.l.length, kErr k, chkV d, knownE h.l.length [d.v, d.g, d.s], accE h [d.g, d.s]])) rfl rfl (cu hqt37) ?_
            simp only [Act.put, n1, n2, n3]
            refine wpAnyH_done (by kernel_rfl) ?_ _
            try simp only [Act.put, n1, n2, n3]
            exact pN ⟨_, _, _, rfl, cu hqt37⟩
        · intro Yt39 Bt39 hEt39 hqt39
          clear hEt39
          simp only [Act.put, n1, n2, n3]
          refine gr (rs := [6, 14]) (gcB 6 (some 17) rfl rfl hqt39 (kd hqt39.fr) (fun x => cu x) ?_ (gbsS 14 (some 25) rfl rfl (by kernel_rfl) (ex_bsV3 rfl rfl rfl rfl) (Nat.succ_pos _) hqt39 (fun _ hZ => cu hZ) ?_ gn))
          · intro Yt40 hqt40
            simp only [Act.put, n1, n2, n3]
            refine gr (rs := [14]) (gbsS 14 (some 25) rfl rfl (by kernel_rfl) (ex_bsV3 rfl rfl rfl rfl) (Nat.succ_pos _) hqt40 (fun _ hZ => cu hZ) ?_ gn)
            intro Yt41 Bt41 hEt41 hqt41
            clear hEt41
            simp only [Act.put, n1, n2, n3]
            refine gr (rs := [15]) (gcB 15 (some 26) rfl rfl hqt41 (kn (hqt41.hp 0 rfl) (hqt41.hold 4 rfl)) (fun x => cu x) ?_ gn)
            intro Yt42 hqt42
            simp only [Act.put, n1, n2, n3]
            refine gr (rs := [22]) (gcB 22 (some 33) rfl rfl hqt42 (ka (hqt42.hp 0 rfl) (hqt42.hold 3 rfl)) (fun x => cu x) ?_ gn)
            intro Yt43 hqt43
            simp only [Act.put, n1, n2, n3]
            refine gr (rs := [23]) (gbsS 23 (some 34) rfl rfl (by kernel_rfl) (ex_bsE5 rfl rfl rfl rfl rfl rfl) (Nat.succ_pos _) hqt43 (fun _ hZ => cu hZ) ?_ gn)
            intro Yt44 Bt44 hEt44 hqt44
            clear hEt44
            simp only [Act.put, n1, n2, n3]
            refine gr (rs := [24]) (gcW 24 (some 35) rfl rfl (cu hqt44) (ko (hqt44.hold 5 rfl)) ?_ gn)
            refine gp 25 (some 10) (.int .i64 (orE [thE o h.l.length, kErr k, chkV d, knownE h.l.length [d.v, d.g, d.s], accE h [d.g, d.s]])) rfl rfl (cu hqt44) ?_
            simp only [Act.put, n1, n2, n3]
            refine wpAnyH_done (by kernel_rfl) ?_ _
            try simp only [Act.put, n1, n2, n3]
            exact pN ⟨_, _, _, rfl, cu hqt44⟩
          · intro Yt46 Bt46 hEt46 hqt46
            clear hEt46
            simp only [Act.put, n1, n2, n3]
            refine gr (rs := [6]) (gcB 6 (some 17) rfl rfl hqt46 (kd hqt46.fr) (fun x => cu x) ?_ gn)
            intro Yt47 hqt47
            simp only [Act.put, n1, n2, n3]
            refine gr (rs := [15]) (gcB 15 (some 26) rfl rfl hqt47 (kn (hqt47.hp 0 rfl) (hqt47.hold 4 rfl)) (fun x => cu x) ?_ gn)
            intro Yt48 hqt48
            simp only [Act.put, n1, n2, n3]
            refine gr (rs := [22]) (gcB 22 (some 33) rfl rfl hqt48 (ka (hqt48.hp 0 rfl) (hqt48.hold 3 rfl)) (fun x => cu x) ?_ gn)
            intro Yt49 hqt49
            simp only [Act.put, n1, n2, n3]
            refine gr (rs := [23]) (gbsS 23 (some 34) rfl rfl (by kernel_rfl) (ex_bsE5 rfl rfl rfl rfl rfl rfl) (Nat.succ_pos _) hqt49 (fun _ hZ => cu hZ) ?_ gn)
            intro Yt50 Bt50 hEt50 hqt50
            clear hEt50
            simp only [Act.put, n1, n2, n3]
            refine gr (rs := [24]) (gcW 24 (some 35) rfl rfl (cu hqt50) (ko (hqt50.hold 5 rfl)) ?_ gn)
            refine gp 25 (some 10) (.int .i64 (orE [thE o h.l.length, kErr k, chkV d, knownE h.l.length [d.v, d.g, d.s], accE h [d.g, d.s]])) rfl rfl (cu hqt50) ?_
            simp only [Act.put, n1, n2, n3]
            refine wpAnyH_done (by kernel_rfl) ?_ _
            try simp only [Act.put, n1, n2, n3]
            exact pN ⟨_, _, _, rfl, cu hqt50⟩
      · intro Yt52 Bt52 hEt52 hqt52
        clear hEt52
        simp only [Act.put, n1, n2, n3]
        refine gr (rs := [4, 21]) (gcB 4 (some 15) rfl rfl hqt52 (kk hqt52.fr) (fun x => cu x) ?_ (gbsS 21 (some 32) rfl rfl (by kernel_rfl) (ex_bsV2 rfl rfl rfl) (Nat.succ_pos _) hqt52 (fun _ hZ => cu hZ) ?_ gn))
        · intro Yt53 hqt53
          simp only [Act.put, n1, n2, n3]
          refine gr (rs := [6, 21]) (gcB 6 (some 17) rfl rfl hqt53 (kd hqt53.fr) (fun x => cu x) ?_ (gbsS 21 (some 32) rfl rfl (by kernel_rfl) (ex_bsV2 rfl rfl rfl) (Nat.succ_pos _) hqt53 (fun _ hZ => cu hZ) ?_ gn))
          · intro Yt54 hqt54
            simp only [Act.put, n1, n2, n3]
            refine gr (rs := [15, 21]) (gcB 15 (some 26) rfl rfl hqt54 (kn (hqt54.hp 0 rfl) (hqt54.hold 3 rfl)) (fun x => cu x) ?_ (gbsS 21 (some 32) rfl rfl (by kernel_rfl) (ex_bsV2 rfl rfl rfl) (Nat.succ_pos _) hqt54 (fun _ hZ => cu hZ) ?_ gn))
            · intro Yt55 hqt55
              simp only [Act.put, n1, n2, n3]
              refine gr (rs := [21]) (gbsS 21 (some 32) rfl rfl (by kernel_rfl) (ex_bsV2 rfl rfl rfl) (Nat.succ_pos _) hqt55 (fun _ hZ => cu hZ) ?_ gn)
              intro Yt56 Bt56 hEt56 hqt56
              clear hEt56
              simp only [Act.put, n1, n2, n3]
              refine gr (rs := [22]) (gcB 22 (some 33) rfl rfl hqt56 (ka (hqt56.hp 0 rfl) (hqt56.hold 4 rfl)) (fun x => cu x) ?_ gn)
              intro Yt57 hqt57
              simp only [Act.put, n1, n2, n3]
              refine gr (rs := [23]) (gbsS 23 (some 34) rfl rfl (by kernel_rfl) (ex_bsE5 rfl rfl rfl rfl rfl rfl) (Nat.succ_pos _) hqt57 (fun _ hZ => cu hZ) ?_ gn)
              intro Yt58 Bt58 hEt58 hqt58
              clear hEt58
              simp only [Act.put, n1, n2, n3]
              refine gr (rs := [24]) (gcW 24 (some 35) rfl rfl (cu hqt58) (ko (hqt58.hold 5 rfl)) ?_ gn)
              refine gp 25 (some 10) (.int .i64 (orE [thE o h.l.length, kErr k, chkV d, knownE h.l.length [d.v, d.g, d.s], accE h [d.g, d.s]])) rfl rfl (cu hqt58) ?_
              simp only [Act.put, n1, n2, n3]
              refine wpAnyH_done (by kernel_rfl) ?_ _
              try simp only [Act.put, n1, n2, n3]
              exact pN ⟨_, _, _, rfl, cu hqt58⟩
            · intro Yt60 Bt60 hEt60 hqt60
              clear hEt60
              simp only [Act.put, n1, n2, n3]
              refine gr (rs := [15]) (gcB 15 (some 26) rfl rfl hqt60 (kn (hqt60.hp 0 rfl) (hqt60.hold 3 rfl)) (fun x => cu x) ?_ gn)
              intro Yt61 hqt61
              simp only [Act.put, n1, n2, n3]
              refine gr (rs := [22]) (gcB 22 (some 33) rfl rfl hqt61 (ka (hqt61.hp 0 rfl) (hqt61.hold 4 rfl)) (fun x => cu x) ?_ gn)
              intro Yt62 hqt62
              simp only [Act.put, n1, n2, n3]
              refine gr (rs := [23]) (gbsS 23 (some 34) rfl rfl (by kernel_rfl) (ex_bsE5 rfl rfl rfl rfl rfl rfl) (Nat.succ_pos _) hqt62 (fun _ hZ => cu hZ) ?_ gn)
              intro Yt63 Bt63 hEt63 hqt63
              clear hEt63
              simp only [Act.put, n1, n2, n3]
              refine gr (rs := [24]) (gcW 24 (some 35) rfl rfl (cu hqt63) (ko (hqt63.hold 5 rfl)) ?_ gn)
              refine gp 25 (some 10) (.int .i64 (orE [thE o h.l.length, kErr k, chkV d, knownE h.l.length [d.v, d.g, d.s], accE h [d.g, d.s]])) rfl rfl (cu hqt63) ?_
              simp only [Act.put, n1, n2, n3]
              refine wpAnyH_done (by kernel_rfl) ?_ _
              try simp only [Act.put, n1, n2, n3]
              exact pN ⟨_, _, _, rfl, cu hqt63⟩
          · intro Yt65 Bt65 hEt65 hqt65
            clear hEt65
            simp only [Act.put, n1, n2, n3]
            refine gr (rs := [6]) (gcB 6 (some 17) rfl rfl hqt65 (kd hqt65.fr) (fun x => cu x) ?_ gn)
            intro Yt66 hqt66
            simp only [Act.put, n1, n2, n3]
            refine gr (rs := [15]) (gcB 15 (some 26) rfl rfl hqt66 (kn (hqt66.hp 0 rfl) (hqt66.hold 3 rfl)) (fun x => cu x) ?_ gn)
            intro Yt67 hqt67
            simp only [Act.put, n1, n2, n3]
            refine gr (rs := [22]) (gcB 22 (some 33) rfl rfl hqt67 (ka (hqt67.hp 0 rfl) (hqt67.hold 4 rfl)) (fun x => cu x) ?_ gn)
            intro Yt68 hqt68
            simp only [Act.put, n1, n2, n3]
            refine gr (rs := [23]) (gbsS 23 (some 34) rfl rfl (by kernel_rfl) (ex_bsE5 rfl rfl rfl rfl rfl rfl) (Nat.succ_pos _) hqt68 (fun _ hZ => cu hZ) ?_ gn)
            intro Yt69 Bt69 hEt69 hqt69
            clear hEt69
            simp only [Act.put, n1, n2, n3]
            refine gr (rs := [24]) (gcW 24 (some 35) rfl rfl (cu hqt69) (ko (hqt69.hold 5 rfl)) ?_ gn)
            refine gp 25 (some 10) (.int .i64 (orE [thE o h.l.length, kErr k, chkV d, knownE h.l.length [d.v, d.g, d.s], accE h [d.g, d.s]])) rfl rfl (cu hqt69) ?_
            simp only [Act.put, n1, n2, n3]
            refine wpAnyH_done (by kernel_rfl) ?_ _
            try simp only [Act.put, n1, n2, n3]
            exact pN ⟨_, _, _, rfl, cu hqt69⟩
        · intro Yt71 Bt71 hEt71 hqt71
          clear hEt71
          simp only [Act.put, n1, n2, n3]
          refine gr (rs := [4]) (gcB 4 (some 15) rfl rfl hqt71 (kk hqt71.fr) (fun x => cu x) ?_ gn)
          intro Yt72 hqt72
          simp only [Act.put, n1, n2, n3]
          refine gr (rs := [6]) (gcB 6 (some 17) rfl rfl hqt72 (kd hqt72.fr) (fun x => cu x) ?_ gn)
          intro Yt73 hqt73
          simp only [Act.put, n1, n2, n3]
          refine gr (rs := [15]) (gcB 15 (some 26) rfl rfl hqt73 (kn (hqt73.hp 0 rfl) (hqt73.hold 3 rfl)) (fun x => cu x) ?_ gn)
          intro Yt74 hqt74
          simp only [Act.put, n1, n2, n3]
          refine gr (rs := [22]) (gcB 22 (some 33) rfl rfl hqt74 (ka (hqt74.hp 0 rfl) (hqt74.hold 4 rfl)) (fun x => cu x) ?_ gn)
          intro Yt75 hqt75
          simp only [Act.put, n1, n2, n3]
          refine gr (rs := [23]) (gbsS 23 (some 34) rfl rfl (by kernel_rfl) (ex_bsE5 rfl rfl rfl rfl rfl rfl) (Nat.succ_pos _) hqt75 (fun _ hZ => cu hZ) ?_ gn)
          intro Yt76 Bt76 hEt76 hqt76
          clear hEt76
          simp only [Act.put, n1, n2, n3]
          refine gr (rs := [24]) (gcW 24 (some 35) rfl rfl (cu hqt76) (ko (hqt76.hold 5 rfl)) ?_ gn)
          refine gp 25 (some 10) (.int .i64 (orE [thE o h.l.length, kErr k, chkV d, knownE h.l.length [d.v, d.g, d.s], accE h [d.g, d.s]])) rfl rfl (cu hqt76) ?_
          simp only [Act.put, n1, n2, n3]
          refine wpAnyH_done (by kernel_rfl) ?_ _
          try simp only [Act.put, n1, n2, n3]
          exact pN ⟨_, _, _, rfl, cu hqt76⟩
      · intro Yt78 Bt78 hEt78 hqt78
        clear hEt78
        simp only [Act.put, n1, n2, n3]
        refine gr (rs := [4, 14]) (gcB 4 (some 15) rfl rfl hqt78 (kk hqt78.fr) (fun x => cu x) ?_ (gbsS 14 (some 25) rfl rfl (by kernel_rfl) (ex_bsV3 rfl rfl rfl rfl) (Nat.succ_pos _) hqt78 (fun _ hZ => cu hZ) ?_ gn))
        · intro Yt79 hqt79
          simp only [Act.put, n1, n2, n3]
          refine gr (rs := [6, 14]) (gcB 6 (some 17) rfl rfl hqt79 (kd hqt79.fr) (fun x => cu x) ?_ (gbsS 14 (some 25) rfl rfl (by kernel_rfl) (ex_bsV3 rfl rfl rfl rfl) (Nat.succ_pos _) hqt79 (fun _ hZ => cu hZ) ?_ gn))
          · intro Yt80 hqt80
            simp only [Act.put, n1, n2, n3]
            refine gr (rs := [14]) (gbsS 14 (some 25) rfl rfl (by kernel_rfl) (ex_bsV3 rfl rfl rfl rfl) (Nat.succ_pos _) hqt80 (fun _ hZ => cu hZ) ?_ gn)
            intro Yt81 Bt81 hEt81 hqt81
            clear hEt81
            simp only [Act.put, n1, n2, n3]
            refine gr (rs := [15]) (gcB 15 (some 26) rfl rfl hqt81 (kn (hqt81.hp 0 rfl) (hqt81.hold 4 rfl)) (fun x => cu x) ?_ gn)
            intro Yt82 hqt82
            simp only [Act.put, n1, n2, n3]
            refine gr (rs := [22]) (gcB 22 (some 33) rfl rfl hqt82 (ka (hqt82.hp 0 rfl) (hqt82.hold 3 rfl)) (fun x => cu x) ?_ gn)
            intro Yt83 hqt83
            simp only [Act.put, n1, n2, n3]
            refine gr (rs := [23]) (gbsS 23 (some 34) rfl rfl (by kernel_rfl) (ex_bsE5 rfl rfl rfl rfl rfl rfl) (Nat.succ_pos _) hqt83 (fun _ hZ => cu hZ) ?_ gn)
            intro Yt84 Bt84 hEt84 hqt84
            clear hEt84
            simp only [Act.put, n1, n2, n3]
            refine gr (rs := [24]) (gcW 24 (some 35) rfl rfl (cu hqt84) (ko (hqt84.hold 5 rfl)) ?_ gn)
            refine gp 25 (some 10) (.int .i64 (orE [thE o h.l.length, kErr k, chkV d, knownE h.l.length [d.v, d.g, d.s], accE h [d.g, d.s]])) rfl rfl (cu hqt84) ?_
            simp only [Act.put, n1, n2, n3]
            refine wpAnyH_done (by kernel_rfl) ?_ _
            try simp only [Act.put, n1, n2, n3]
            exact pN ⟨_, _, _, rfl, cu hqt84⟩
          · intro Yt86 Bt86 hEt86 hqt86
            clear hEt86
            simp only [Act.put, n1, n2, n3]
            refine gr (rs := [6]) (gcB 6 (some 17) rfl rfl hqt86 (kd hqt86.fr) (fun x => cu x) ?_ gn)
            intro Yt87 hqt87
            simp only [Act.put, n1, n2, n3]
            refine gr (rs := [15]) (gcB 15 (some 26) rfl rfl hqt87 (kn (hqt87.hp 0 rfl) (hqt87.hold 4 rfl)) (fun x => cu x) ?_ gn)
            intro Yt88 hqt88
            simp only [Act.put, n1, n2, n3]
            refine gr (rs := [22]) (gcB 22 (some 33) rfl rfl hqt88 (ka (hqt88.hp 0 rfl) (hqt88.hold 3 rfl)) (fun x => cu x) ?_ gn)
            intro Yt89 hqt89
            simp only [Act.put, n1, n2, n3]
            refine gr (rs := [23]) (gbsS 23 (some 34) rfl rfl (by kernel_rfl) (ex_bsE5 rfl rfl rfl rfl rfl rfl) (Nat.succ_pos _) hqt89 (fun _ hZ => cu hZ) ?_ gn)
            intro Yt90 Bt90 hEt90 hqt90
            clear hEt90
            simp only [Act.put, n1, n2, n3]
            refine gr (rs := [24]) (gcW 24 (some 35) rfl rfl (cu hqt90) (ko (hqt90.hold 5 rfl)) ?_ gn)
            refine gp 25 (some 10) (.int .i64 (orE [thE o h.l.length, kErr k, chkV d, knownE h.l.length [d.v, d.g, d.s], accE h [d.g, d.s]])) rfl rfl (cu hqt90) ?_
            simp only [Act.put, n1, n2, n3]
            refine wpAnyH_done (by kernel_rfl) ?_ _
            try simp only [Act.put, n1, n2, n3]
            exact pN ⟨_, _, _, rfl, cu hqt90⟩
        · intro Yt92 Bt92 hEt92 hqt92
          clear hEt92
          simp only [Act.put, n1, n2, n3]
          refine gr (rs := [4]) (gcB 4 (some 15) rfl rfl hqt92 (kk hqt92.fr) (fun x => cu x) ?_ gn)
          intro Yt93 hqt93
          simp only [Act.put, n1, n2, n3]
          refine gr (rs := [6]) (gcB 6 (some 17) rfl rfl hqt93 (kd hqt93.fr) (fun x => cu x) ?_ gn)
          intro Yt94 hqt94
          simp only [Act.put, n1, n2, n3]
          refine gr (rs := [15]) (gcB 15 (some 26) rfl rfl hqt94 (kn (hqt94.hp 0 rfl) (hqt94.hold 4 rfl)) (fun x => cu x) ?_ gn)
          intro Yt95 hqt95
          simp only [Act.put, n1, n2, n3]
          refine gr (rs := [22]) (gcB 22 (some 33) rfl rfl hqt95 (ka (hqt95.hp 0 rfl) (hqt95.hold 3 rfl)) (fun x => cu x) ?_ gn)
          intro Yt96 hqt96
          simp only [Act.put, n1, n2, n3]
          refine gr (rs := [23]) (gbsS 23 (some 34) rfl rfl (by kernel_rfl) (ex_bsE5 rfl rfl rfl rfl rfl rfl) (Nat.succ_pos _) hqt96 (fun _ hZ => cu hZ) ?_ gn)
          intro Yt97 Bt97 hEt97 hqt97
          clear hEt97
          simp only [Act.put, n1, n2, n3]
          refine gr (rs := [24]) (gcW 24 (some 35) rfl rfl (cu hqt97) (ko (hqt97.hold 5 rfl)) ?_ gn)
          refine gp 25 (some 10) (.int .i64 (orE [thE o h.l.length, kErr k, chkV d, knownE h.l.length [d.v, d.g, d.s], accE h [d.g, d.s]])) rfl rfl (cu hqt97) ?_
          simp only [Act.put, n1, n2, n3]
          refine wpAnyH_done (by kernel_rfl) ?_ _
          try simp only [Act.put, n1, n2, n3]
          exact pN ⟨_, _, _, rfl, cu hqt97⟩
    · intro Yt99 Bt99 hEt99 hqt99
      clear hEt99
      simp only [Act.put, n1, n2, n3]
      refine gr (rs := [2, 21]) (gcW 2 (some 13) rfl rfl (cu hqt99) (kt (hqt99.hp 0 rfl)) ?_ (gbsS 21 (some 32) rfl rfl (by kernel_rfl) (ex_bsV2 rfl rfl rfl) (Nat.succ_pos _) hqt99 (fun _ hZ => cu hZ) ?_ gn))
      · simp only [Act.put, n1, n2, n3]
        refine gr (rs := [4, 21]) (gcB 4 (some 15) rfl rfl hqt99 (kk hqt99.fr) (fun x => cu x) ?_ (gbsS 21 (some 32) rfl rfl (by kernel_rfl) (ex_bsV2 rfl rfl rfl) (Nat.succ_pos _) hqt99 (fun _ hZ => cu hZ) ?_ gn))
        · intro Yt101 hqt101
          simp only [Act.put, n1, n2, n3]
          refine gr (rs := [6, 21]) (gcB 6 (some 17) rfl rfl hqt101 (kd hqt101.fr) (fun x => cu x) ?_ (gbsS 21 (some 32) rfl rfl (by kernel_rfl) (ex_bsV2 rfl rfl rfl) (Nat.succ_pos _) hqt101 (fun _ hZ => cu hZ) ?_ gn))
          · intro Yt102 hqt102
            simp only [Act.put, n1, n2, n3]
            refine gr (rs := [15, 21]) (gcB 15 (some 26) rfl rfl hqt102 (kn (hqt102.hp 0 rfl) (hqt102.hold 3 rfl)) (fun x => cu x) ?_ (gbsS 21 (some 32) rfl rfl (by kernel_rfl) (ex_bsV2 rfl rfl rfl) (Nat.succ_pos _) hqt102 (fun _ hZ => cu hZ) ?_ gn))
            · intro Yt103 hqt103
              simp only [Act.put, n1, n2, n3]
              refine gr (rs := [21]) (gbsS 21 (some 32) rfl rfl (by kernel_rfl) (ex_bsV2 rfl rfl rfl) (Nat.succ_pos _) hqt103 (fun _ hZ => cu hZ) ?_ gn)
              intro Yt104 Bt104 hEt104 hqt104
              clear hEt104
              simp only [Act.put, n1, n2, n3]
              refine gr (rs := [22]) (gcB 22 (some 33) rfl rfl hqt104 (ka (hqt104.hp 0 rfl) (hqt104.hold 4 rfl)) (fun x => cu x) ?_ gn)
              intro Yt105 hqt105
              simp only [Act.put, n1, n2, n3]
              refine gr (rs := [23]) (gbsS 23 (some 34) rfl rfl (by kernel_rfl) (ex_bsE5 rfl rfl rfl rfl rfl rfl) (Nat.succ_pos _) hqt105 (fun _ hZ => cu hZ) ?_ gn)
              intro Yt106 Bt106 hEt106 hqt106
              clear hEt106
              simp only [Act.put, n1, n2, n3]
              refine gr (rs := [24]) (gcW 24 (some 35) rfl rfl (cu hqt106) (ko (hqt106.hold 5 rfl)) ?_ gn)
              refine gp 25 (some 10) (.int .i64 (orE [thE o h.l.length, kErr k, chkV d, knownE h.l.length [d.v, d.g, d.s], accE h [d.g, d.s]])) rfl rfl (cu hqt106) ?_
              simp only [Act.put, n1, n2, n3]
              refine wpAnyH_done (by kernel_rfl) ?_ _
              try simp only [Act.put, n1, n2, n3]
              exact pN ⟨_, _, _, rfl, cu hqt106⟩
            · intro Yt108 Bt108 hEt108 hqt108
              clear hEt108
              simp only [Act.put, n1, n2, n3]
              refine gr (rs := [15]) (gcB 15 (some 26) rfl rfl hqt108 (kn (hqt108.hp 0 rfl) (hqt108.hold 3 rfl)) (fun x => cu x) ?_ gn)
              intro Yt109 hqt109
              simp only [Act.put, n1, n2, n3]
              refine gr (rs := [22]) (gcB 22 (some 33) rfl rfl hqt109 (ka (hqt109.hp 0 rfl) (hqt109.hold 4 rfl)) (fun x => cu x) ?_ gn)
              intro Yt110 hqt110
              simp only [Act.put, n1, n2, n3]
              refine gr (rs := [23]) (gbsS 23 (some 34) rfl rfl (by kernel_rfl) (ex_bsE5 rfl rfl rfl rfl rfl rfl) (Nat.succ_pos _) hqt110 (fun _ hZ => cu hZ) ?_ gn)
              intro Yt111 Bt111 hEt111 hqt111
              clear hEt111
              simp only [Act.put, n1, n2, n3]
              refine gr (rs := [24]) (gcW 24 (some 35) rfl rfl (cu hqt111) (ko (hqt111.hold 5 rfl)) ?_ gn)
              refine gp 25 (some 10) (.int .i64 (orE [thE o h.l.length, kErr k, chkV d, knownE h.l.length [d.v, d.g, d.s], accE h [d.g, d.s]])) rfl rfl (cu hqt111) ?_
              simp only [Act.put, n1, n2, n3]
              refine wpAnyH_done (by kernel_rfl) ?_ _
              try simp only [Act.put, n1, n2, n3]
              exact pN ⟨_, _, _, rfl, cu hqt111⟩
          · intro Yt113 Bt113 hEt113 hqt113
            clear hEt113
            simp only [Act.put, n1, n2, n3]
            refine gr (rs := [6]) (gcB 6 (some 17) rfl rfl hqt113 (kd hqt113.fr) (fun x => cu x) ?_ gn)
            intro Yt114 hqt114
            simp only [Act.put, n1, n2, n3]
            refine gr (rs := [15]) (gcB 15 (some 26) rfl rfl hqt114 (kn (hqt114.hp 0 rfl) (hqt114.hold 3 rfl)) (fun x => cu x) ?_ gn)
            intro Yt115 hqt115
            simp only [Act.put, n1, n2, n3]
            refine gr (rs := [22]) (gcB 22 (some 33) rfl rfl hqt115 (ka (hqt115.hp 0 rfl) (hqt115.hold 4 rfl)) (fun x => cu x) ?_ gn)
            intro Yt116 hqt116
            simp only [Act.put, n1, n2, n3]
            refine gr (rs := [23]) (gbsS 23 (some 34) rfl rfl (by kernel_rfl) (ex_bsE5 rfl rfl rfl rfl rfl rfl) (Nat.succ_pos _) hqt116 (fun _ hZ => cu hZ) ?_ gn)
            intro Yt117 Bt117 hEt117 hqt117
            clear hEt117
            simp only [Act.put, n1, n2, n3]
            refine gr (rs := [24]) (gcW 24 (some 35) rfl rfl (cu hqt117) (ko (hqt117.hold 5 rfl)) ?_ gn)
            refine gp 25 (some 10) (.int .i64 (orE [thE o h.l.length, kErr k, chkV d, knownE h.l.length [d.v, d.g, d.s], accE h [d.g, d.s]])) rfl rfl (cu hqt117) ?_
            simp only [Act.put, n1, n2, n3]
            refine wpAnyH_done (by kernel_rfl) ?_ _
            try simp only [Act.put, n1, n2, n3]
            exact pN ⟨_, _, _, rfl, cu hqt117⟩
        · intro Yt119 Bt119 hEt119 hqt119
          clear hEt119
          simp only [Act.put, n1, n2, n3]
          refine gr (rs := [4]) (gcB 4 (some 15) rfl rfl hqt119 (kk hqt119.fr) (fun x => cu x) ?_ gn)
          intro Yt120 hqt120
          simp only [Act.put, n1, n2, n3]
          refine gr (rs := [6]) (gcB 6 (some 17) rfl rfl hqt120 (kd hqt120.fr) (fun x => cu x) ?_ gn)
          intro Yt121 hqt121
          simp only [Act.put, n1, n2, n3]
          refine gr (rs := [15]) (gcB 15 (some 26) rfl rfl hqt121 (kn (hqt121.hp 0 rfl) (hqt121.hold 3 rfl)) (fun x => cu x) ?_ gn)
          intro Yt122 hqt122
          simp only [Act.put, n1, n2, n3]
          refine gr (rs := [22]) (gcB 22 (some 33) rfl rfl hqt122 (ka (hqt122.hp 0 rfl) (hqt122.hold 4 rfl)) (fun x => cu x) ?_ gn)
          intro Yt123 hqt123
          simp only [Act.put, n1, n2, n3]
          refine gr (rs := [23]) (gbsS 23 (some 34) rfl rfl (by kernel_rfl) (ex_bsE5 rfl rfl rfl rfl rfl rfl) (Nat.succ_pos _) hqt123 (fun _ hZ => cu hZ) ?_ gn)
          intro Yt124 Bt124 hEt124 hqt124
          clear hEt124
          simp only [Act.put, n1, n2, n3]
          refine gr (rs := [24]) (gcW 24 (some 35) rfl rfl (cu hqt124) (ko (hqt124.hold 5 rfl)) ?_ gn)
          refine gp 25 (some 10) (.int .i64 (orE [thE o h.l.length, kErr k, chkV d, knownE h.l.length [d.v, d.g, d.s], accE h [d.g, d.s]])) rfl rfl (cu hqt124) ?_
          simp only [Act.put, n1, n2, n3]
          refine wpAnyH_done (by kernel_rfl) ?_ _
          try simp only [Act.put, n1, n2, n3]
          exact pN ⟨_, _, _, rfl, cu hqt124⟩
      · intro Yt126 Bt126 hEt126 hqt126
        clear hEt126
        simp only [Act.put, n1, n2, n3]
        refine gr (rs := [2]) (gcW 2 (some 13) rfl rfl (cu hqt126) (kt (hqt126.hp 0 rfl)) ?_ gn)
        simp only [Act.put, n1, n2, n3]
        refine gr (rs := [4]) (gcB 4 (some 15) rfl rfl hqt126 (kk hqt126.fr) (fun x => cu x) ?_ gn)
        intro Yt128 hqt128
        simp only [Act.put, n1, n2, n3]
        refine gr (rs := [6]) (gcB 6 (some 17) rfl rfl hqt128 (kd hqt128.fr) (fun x => cu x) ?_ gn)
        intro Yt129 hqt129
        simp only [Act.put, n1, n2, n3]
        refine gr (rs := [15]) (gcB 15 (some 26) rfl rfl hqt129 (kn (hqt129.hp 0 rfl) (hqt129.hold 3 rfl)) (fun x => cu x) ?_ gn)
        intro Yt130 hqt130
        simp only [Act.put, n1, n2, n3]
        refine gr (rs := [22]) (gcB 22 (some 33) rfl rfl hqt130 (ka (hqt130.hp 0 rfl) (hqt130.hold 4 rfl)) (fun x => cu x) ?_ gn)
        intro Yt131 hqt131
        simp only [Act.put, n1, n2, n3]
        refine gr (rs := [23]) (gbsS 23 (some 34) rfl rfl (by kernel_rfl) (ex_bsE5 rfl rfl rfl rfl rfl rfl) (Nat.succ_pos _) hqt131 (fun _ hZ => cu hZ) ?_ gn)
        intro Yt132 Bt132 hEt132 hqt132
        clear hEt132
        simp only [Act.put, n1, n2, n3]
        refine gr (rs := [24]) (gcW 24 (some 35) rfl rfl (cu hqt132) (ko (hqt132.hold 5 rfl)) ?_ gn)
        refine gp 25 (some 10) (.int .i64 (orE [thE o h.l.length, kErr k, chkV d, knownE h.l.length [d.v, d.g, d.s], accE h [d.g, d.s]])) rfl rfl (cu hqt132) ?_
        simp only [Act.put, n1, n2, n3]
        refine wpAnyH_done (by kernel_rfl) ?_ _
        try simp only [Act.put, n1, n2, n3]
        exact pN ⟨_, _, _, rfl, cu hqt132⟩
    · intro Yt134 Bt134 hEt134 hqt134
      clear hEt134
      simp only [Act.put, n1, n2, n3]
      refine gr (rs := [2, 14]) (gcW 2 (some 13) rfl rfl (cu hqt134) (kt (hqt134.hp 0 rfl)) ?_ (gbsS 14 (some 25) rfl rfl (by kernel_rfl) (ex_bsV3 rfl rfl rfl rfl) (Nat.succ_pos _) hqt134 (fun _ hZ => cu hZ) ?_ gn))
      · simp only [Act.put, n1, n2, n3]
        refine gr (rs := [4, 14]) (gcB 4 (some 15) rfl rfl hqt134 (kk hqt134.fr) (fun x => cu x) ?_ (gbsS 14 (some 25) rfl rfl (by kernel_rfl) (ex_bsV3 rfl rfl rfl rfl) (Nat.succ_pos _) hqt134 (fun _ hZ => cu hZ) ?_ gn))
        · intro Yt136 hqt136
          simp only [Act.put, n1, n2, n3]
          refine gr (rs := [6, 14]) (gcB 6 (some 17) rfl rfl hqt136 (kd hqt136.fr) (fun x => cu x) ?_ (gbsS 14 (some 25) rfl rfl (by kernel_rfl) (ex_bsV3 rfl rfl rfl rfl) (Nat.succ_pos _) hqt136 (fun _ hZ => cu hZ) ?_ gn))
          · intro Yt137 hqt137
            simp only [Act.put, n1, n2, n3]
            refine gr (rs := [14]) (gbsS 14 (some 25) rfl rfl (by kernel_rfl) (ex_bsV3 rfl rfl rfl rfl) (Nat.succ_pos _) hqt137 (fun _ hZ => cu hZ) ?_ gn)
            intro Yt138 Bt138 hEt138 hqt138
            clear hEt138
            simp only [Act.put, n1, n2, n3]
            refine gr (rs := [15]) (gcB 15 (some 26) rfl rfl hqt138 (kn (hqt138.hp 0 rfl) (hqt138.hold 4 rfl)) (fun x => cu x) ?_ gn)
            intro Yt139 hqt139
            simp only [Act.put, n1, n2, n3]
            refine gr (rs := [22]) (gcB 22 (some 33) rfl rfl hqt139 (ka (hqt139.hp 0 rfl) (hqt139.hold 3 rfl)) (fun x => cu x) ?_ gn)
            intro Yt140 hqt140
            simp only [Act.put, n1, n2, n3]
            refine gr (rs := [23]) (gbsS 23 (some 34) rfl rfl (by kernel_rfl) (ex_bsE5 rfl rfl rfl rfl rfl rfl) (Nat.succ_pos _) hqt140 (fun _ hZ => cu hZ) ?_ gn)
            intro Yt141 Bt141 hEt141 hqt141
            clear hEt141
            simp only [Act.put, n1, n2, n3]
            refine gr (rs := [24]) (gcW 24 (some 35) rfl rfl (cu hqt141) (ko (hqt141.hold 5 rfl)) ?_ gn)
            refine gp 25 (some 10) (.int .i64 (orE [thE o h.l.length, kErr k, chkV d, knownE h.l.length [d.v, d.g, d.s], accE h [d.g, d.s]])) rfl rfl (cu hqt141) ?_
            simp only [Act.put, n1, n2, n3]
            refine wpAnyH_done (by kernel_rfl) ?_ _
            try simp only [Act.put, n1, n2, n3]
            exact pN ⟨_, _, _, rfl, cu hqt141⟩
          · intro Yt143 Bt143 hEt143 hqt143
            clear hEt143
            simp only [Act.put, n1, n2, n3]
            refine gr (rs := [6]) (gcB 6 (some 17) rfl rfl hqt143 (kd hqt143.fr) (fun x => cu x) ?_ gn)
            intro Yt144 hqt144
            simp only [Act.put, n1, n2, n3]
            refine gr (rs := [15]) (gcB 15 (some 26) rfl rfl hqt144 (kn (hqt144.hp 0 rfl) (hqt144.hold 4 rfl)) (fun x => cu x) ?_ gn)
            intro Yt145 hqt145
            simp only [Act.put, n1, n2, n3]
            refine gr (rs := [22]) (gcB 22 (some 33) rfl rfl hqt145 (ka (hqt145.hp 0 rfl) (hqt145.hold 3 rfl)) (fun x => cu x) ?_ gn)
            intro Yt146 hqt146
            simp only [Act.put, n1, n2, n3]
            refine gr (rs := [23]) (gbsS 23 (some 34) rfl rfl (by kernel_rfl) (ex_bsE5 rfl rfl rfl rfl rfl rfl) (Nat.succ_pos _) hqt146 (fun _ hZ => cu hZ) ?_ gn)
            intro Yt147 Bt147 hEt147 hqt147
            clear hEt147
            simp only [Act.put, n1, n2, n3]
            refine gr (rs := [24]) (gcW 24 (some 35) rfl rfl (cu hqt147) (ko (hqt147.hold 5 rfl)) ?_ gn)
            refine gp 25 (some 10) (.int .i64 (orE [thE o h.l.length, kErr k, chkV d, knownE h.l.length [d.v, d.g, d.s], accE h [d.g, d.s]])) rfl rfl (cu hqt147) ?_
            simp only [Act.put, n1, n2, n3]
            refine wpAnyH_done (by kernel_rfl) ?_ _
            try simp only [Act.put, n1, n2, n3]
            exact pN ⟨_, _, _, rfl, cu hqt147⟩
        · intro Yt149 Bt149 hEt149 hqt149
          clear hEt149
          simp only [Act.put, n1, n2, n3]
          refine gr (rs := [4]) (gcB 4 (some 15) rfl rfl hqt149 (kk hqt149.fr) (fun x => cu x) ?_ gn)
          intro Yt150 hqt150
          simp only [Act.put, n1, n2, n3]
          refine gr (rs := [6]) (gcB 6 (some 17) rfl rfl hqt150 (kd hqt150.fr) (fun x => cu x) ?_ gn)
          intro Yt151 hqt151
          simp only [Act.put, n1, n2, n3]
          refine gr (rs := [15]) (gcB 15 (some 26) rfl rfl hqt151 (kn (hqt151.hp 0 rfl) (hqt151.hold 4 rfl)) (fun x => cu x) ?_ gn)
          intro Yt152 hqt152
          simp only [Act.put, n1, n2, n3]
          refine gr (rs := [22]) (gcB 22 (some 33) rfl rfl hqt152 (ka (hqt152.hp 0 rfl) (hqt152.hold 3 rfl)) (fun x => cu x) ?_ gn)
          intro Yt153 hqt153
          simp only [Act.put, n1, n2, n3]
          refine gr (rs := [23]) (gbsS 23 (some 34) rfl rfl (by kernel_rfl) (ex_bsE5 rfl rfl rfl rfl rfl rfl) (Nat.succ_pos _) hqt153 (fun _ hZ => cu hZ) ?_ gn)
          intro Yt154 Bt154 hEt154 hqt154
          clear hEt154
          simp only [Act.put, n1, n2, n3]
          refine gr (rs := [24]) (gcW 24 (some 35) rfl rfl (cu hqt154) (ko (hqt154.hold 5 rfl)) ?_ gn)
          refine gp 25 (some 10) (.int .i64 (orE [thE o h.l.length, kErr k, chkV d, knownE h.l.length [d.v, d.g, d.s], accE h [d.g, d.s]])) rfl rfl (cu hqt154) ?_
          simp only [Act.put, n1, n2, n3]
          refine wpAnyH_done (by kernel_rfl) ?_ _
          try simp only [Act.put, n1, n2, n3]
          exact pN ⟨_, _, _, rfl, cu hqt154⟩
      · intro Yt156 Bt156 hEt156 hqt156
        clear hEt156
        simp only [Act.put, n1, n2, n3]
        refine gr (rs := [2]) (gcW 2 (some 13) rfl rfl (cu hqt156) (kt (hqt156.hp 0 rfl)) ?_ gn)
        simp only [Act.put, n1, n2, n3]
        refine gr (rs := [4]) (gcB 4 (some 15) rfl rfl hqt156 (kk hqt156.fr) (fun x => cu x) ?_ gn)
        intro Yt158 hqt158
        simp only [Act.put, n1, n2, n3]
        refine gr (rs := [6]) (gcB 6 (some 17) rfl rfl hqt158 (kd hqt158.fr) (fun x => cu x) ?_ gn)
        intro Yt159 hqt159
        simp only [Act.put, n1, n2, n3]
        refine gr (rs := [15]) (gcB 15 (some 26) rfl rfl hqt159 (kn (hqt159.hp 0 rfl) (hqt159.hold 4 rfl)) (fun x => cu x) ?_ gn)
        intro Yt160 hqt160
        simp only [Act.put, n1, n2, n3]
        refine gr (rs := [22]) (gcB 22 (some 33) rfl rfl hqt160 (ka (hqt160.hp 0 rfl) (hqt160.hold 3 rfl)) (fun x => cu x) ?_ gn)
        intro Yt161 hqt161
        simp only [Act.put, n1, n2, n3]
        refine gr (rs := [23]) (gbsS 23 (some 34) rfl rfl (by kernel_rfl) (ex_bsE5 rfl rfl rfl rfl rfl rfl) (Nat.succ_pos _) hqt161 (fun _ hZ => cu hZ) ?_ gn)
        intro Yt162 Bt162 hEt162 hqt162
        clear hEt162
        simp only [Act.put, n1, n2, n3]
        refine gr (rs := [24]) (gcW 24 (some 35) rfl rfl (cu hqt162) (ko (hqt162.hold 5 rfl)) ?_ gn)
        refine gp 25 (some 10) (.int .i64 (orE [thE o h.l.length, kErr k, chkV d, knownE h.l.length [d.v, d.g, d.s], accE h [d.g, d.s]])) rfl rfl (cu hqt162) ?_
        simp only [Act.put, n1, n2, n3]
        refine wpAnyH_done (by kernel_rfl) ?_ _
        try simp only [Act.put, n1, n2, n3]
        exact pN ⟨_, _, _, rfl, cu hqt162⟩
  · rintro a' X ⟨v25, v32, v34, rfl, hS9⟩
    simp only [Act.put, n1, n2, n3]
    have SS := hide hS9
    clear hS9
    by_cases hc : orE [thE o h.l.length, kErr k, chkV d, knownE h.l.length [d.v, d.g, d.s], accE h [d.g, d.s]] = 0
    · obtain ⟨j, q, ho_, hj⟩ := th_zero (h := h) (o := o) (orE_zero hc (thE o h.l.length) (by simp))
      have HO_ := hide ho_
      clear ho_
      go_wp2_with (first | go_skip | ((with_reducible show wpList _ _ _ _ _ _); first | (refine rd (by rfl) (ex_neE0 rfl rfl rfl hc) ?_; simp only [Act.put, n1, n2, n3]) | (refine zL (k.cs) 26 2 1 rwK szK (by rfl) rfl rfl SS rfl rfl rfl ?_; simp only [Act.put, n1, n2, n3]) | (refine zL (d.cs) 38 18 2 rwD szD (by rfl) rfl rfl SS rfl rfl rfl ?_; simp only [Act.put, n1, n2, n3])))
      have HC := hC j q _ (unhide HO_) hj hc (HP.To.end H (unhide SS) rfl)
      rw [kagg, dagg] at HC
      rw [← unhide HO_] at HC
      refine HC.mono ?_
      rintro _ Y9 ⟨h1, y, er, rfl, hP, T9⟩
      replace SS := hide ((unhide SS).heap 0 rfl T9)
      have hb9 : h1.b = h.b := T9.hb
      clear T9 HC
      go_wp2
      go_ret2
      exact ⟨h1, y, er, rfl, .inr ⟨hc, hP⟩, HP.To.end H (unhide SS) hb9⟩
    · go_wp2_with (first | go_skip | ((with_reducible show wpList _ _ _ _ _ _); first | (refine rd (by rfl) (ex_neE1 rfl rfl rfl hc) ?_; simp only [Act.put, n1, n2, n3])))
      go_ret2
      exact ⟨h, false, _, rfl, .inl ⟨hc, rfl, rfl, rfl⟩, HP.To.end H (unhide SS) rfl⟩
set_option maxHeartbeats 2000000 in
set_option maxRecDepth 100000 in
theorem dorGet (h : HP) (o : Int) (k : KK) (r : VV) (w : World) (H : h.Is w) (hl : h.l.length ≤ 65536) (hT : Tabs w) (P : HP → VV → Value → Prop) (hC : ∀ (j : Nat) (q : OB) (X : World), o = (j : Int) + 1 → h.l[j]? = some q → orE [thE o h.l.length, kErr k, soundE [r], knownE h.l.length [r]] = 0 → h.To h w X → Calls Tryz.prog 50 #[.pointer (some ⟨h.b, 0, none⟩), .int .i64 ((j : Int) + 1), k.agg, r.agg] X fun e w' => ∃ (h1 : HP) (V : VV) (er : Value), e = .returned (.tuple #[V.agg, er]) ∧ P h1 V er ∧ h.To h1 X w') : Calls Tryz.prog 20 #[.pointer (some ⟨h.b, 0, none⟩), .int .i64 o, k.agg, r.agg] w fun e w' => ∃ (h1 : HP) (V : VV) (er : Value), e = .returned (.tuple #[V.agg, er]) ∧ ((orE [thE o h.l.length, kErr k, soundE [r], knownE h.l.length [r]] ≠ 0 ∧ er = ePair (orE [thE o h.l.length, kErr k, soundE [r], knownE h.l.length [r]]) ∧ h1 = h) ∨ (orE [thE o h.l.length, kErr k, soundE [r], knownE h.l.length [r]] = 0 ∧ P h1 V er)) ∧ h.To h1 w w' := by
  have SS := hide H.start
  rw [kagg, vagg]
  go_enter Tryz.func20, Tryz.ntmps20
  go_wp2_with (first | go_skip | ((with_reducible show wpList _ _ _ _ _ _); first | (refine zB 26 (k.cs) (by rfl) rfl rfl rfl SS ?_; clear SS; intro Xp0 Bp0 SS; simp only [Act.put, n1, n2, n3]) | (refine zB 24 (r.cs) (by rfl) rfl rfl rfl SS ?_; clear SS; intro Xp1 Bp1 SS; simp only [Act.put, n1, n2, n3]) | (refine zA 24 (zeroV.cs) (by rfl) rfl SS ?_; clear SS; intro Xc Bc SS; simp only [Act.put, n1, n2, n3])))
  have kt := fun {X : World} (s : h.Is X) => there_h h o X s
  have kk := fun {X : World} (s : Fr w X h.blocks) => kcheck k X (hT.fr s H.low).1
  have ks := fun {X : World} {B : Nat} (s : Fr w X h.blocks) (g : Holds X B ([r].flatMap VV.cs)) => sound_h (some ⟨B, 0, none⟩) 1 [r] X (hT.fr s H.low).1 (reads_holds g) (by simp)
  have kn := fun {X : World} {B : Nat} (s : h.Is X) (g : Holds X B ([r].flatMap VV.cs)) => known_h h (some ⟨B, 0, none⟩) 1 [r] X s (reads_holds g) (by simp)
  have ko := fun {X : World} {B : Nat} (g : Holds X B (ints [thE o h.l.length, kErr k, soundE [r], knownE h.l.length [r]])) => or_any B 4 [thE o h.l.length, kErr k, soundE [r], knownE h.l.length [r]] X g (by simp)
  have hS1 : Sy w _ h.blocks [hpO h, boxO Bp0 k.cs, boxO Bp1 r.cs, boxO Bc zeroV.cs] := (unhide SS).drew
  clear SS
  refine region_post (fun a a' X => ∃ (v17 v21 v23 : Value), a' = (((((((((((((((a.put (some 11) (.pointer (some ⟨h.b, 0, none⟩))).put (some 12) (.int .i64 o)).put (some 13) (.int .i64 (thE o h.l.length))).put (some 14) (.agg k.cs.toArray)).put (some 15) (.int .i64 (kErr k))).put (some 16) (.agg (r.cs).toArray)).put (some 17) v17).put (some 18) (.int .i64 (soundE [r]))).put (some 19) (.pointer (some ⟨h.b, 0, none⟩))).put (some 20) (.agg (r.cs).toArray)).put (some 21) v21).put (some 22) (.int .i64 (knownE h.l.length [r]))).put (some 23) v23).put (some 24) (.int .i64 (orE [thE o h.l.length, kErr k, soundE [r], knownE h.l.length [r]]))).put (some 10) (.int .i64 (orE [thE o h.l.length, kErr k, soundE [r], knownE h.l.length [r]]))) ∧ Sy w X h.blocks [hpO h, boxO Bp0 k.cs, boxO Bp1 r.cs, boxO Bc zeroV.cs]) ?_ ?_
  · have cu : ∀ {X : World} {M : List Ob}, Sy w X h.blocks ([hpO h, boxO Bp0 k.cs, boxO Bp1 r.cs, boxO Bc zeroV.cs] ++ M) → Sy w X h.blocks [hpO h, boxO Bp0 k.cs, boxO Bp1 r.cs, boxO Bc zeroV.cs] := fun h => Sy.left h
    refine wp_region_held_drew (P := Tryz.prog) (S := fun X => Sy w X h.blocks _) (by kernel_rfl) (hS1) (fun hS0 => ?_)
    refine gp 0 (some 11) (.pointer (some ⟨h.b, 0, none⟩)) rfl rfl (hS1) ?_
    simp only [Act.put, n1, n2, n3]
    refine gp 1 (some 12) (.int .i64 o) rfl rfl (hS1) ?_
    simp only [Act.put, n1, n2, n3]
    refine gq 3 (some 14) (.agg k.cs.toArray) rfl rfl (fun X hX => ex_loadN (vs := k.cs) 26 2 rwK szK rfl rfl (hX.hold 1 rfl) rfl rfl) (hS1) ?_
    simp only [Act.put, n1, n2, n3]
    refine gq 5 (some 16) (.agg (r.cs).toArray) rfl rfl (fun X hX => ex_loadN (vs := r.cs) 24 5 rwV szV rfl rfl (hX.hold 2 rfl) rfl rfl) (hS1) ?_
    simp only [Act.put, n1, n2, n3]
    refine gp 8 (some 19) (.pointer (some ⟨h.b, 0, none⟩)) rfl rfl (hS1) ?_
    simp only [Act.put, n1, n2, n3]
    refine gq 9 (some 20) (.agg (r.cs).toArray) rfl rfl (fun X hX => ex_loadN (vs := r.cs) 24 5 rwV szV rfl rfl (hX.hold 2 rfl) rfl rfl) (hS1) ?_
    simp only [Act.put, n1, n2, n3]
    refine gr (rs := [2, 6, 10]) (gcW 2 (some 13) rfl rfl (hS1) (kt (hS1.hp 0 rfl)) ?_ (gbsS 6 (some 17) rfl rfl (by kernel_rfl) (ex_bsV1 rfl rfl) (Nat.succ_pos _) hS1 (fun _ hZ => cu hZ) ?_ (gbsS 10 (some 21) rfl rfl (by kernel_rfl) (ex_bsV1 rfl rfl) (Nat.succ_pos _) hS1 (fun _ hZ => cu hZ) ?_ gn)))
    · simp only [Act.put, n1, n2, n3]
      refine gr (rs := [4, 6, 10]) (gcB 4 (some 15) rfl rfl hS1 (kk hS1.fr) id ?_ (gbsS 6 (some 17) rfl rfl (by kernel_rfl) (ex_bsV1 rfl rfl) (Nat.succ_pos _) hS1 (fun _ hZ => cu hZ) ?_ (gbsS 10 (some 21) rfl rfl (by kernel_rfl) (ex_bsV1 rfl rfl) (Nat.succ_pos _) hS1 (fun _ hZ => cu hZ) ?_ gn)))
      · intro Yt2 hqt2
        simp only [Act.put, n1, n2, n3]
        refine gr (rs := [6, 10]) (gbsS 6 (some 17) rfl rfl (by kernel_rfl) (ex_bsV1 rfl rfl) (Nat.succ_pos _) hqt2 (fun _ hZ => cu hZ) ?_ (gbsS 10 (some 21) rfl rfl (by kernel_rfl) (ex_bsV1 rfl rfl) (Nat.succ_pos _) hqt2 (fun _ hZ => cu hZ) ?_ gn))
        · intro Yt3 Bt3 hEt3 hqt3
          clear hEt3
          simp only [Act.put, n1, n2, n3]
          refine gr (rs := [7, 10]) (gcB 7 (some 18) rfl rfl hqt3 (ks hqt3.fr (hqt3.hold 4 rfl)) (fun x => cu x) ?_ (gbsS 10 (some 21) rfl rfl (by kernel_rfl) (ex_bsV1 rfl rfl) (Nat.succ_pos _) hqt3 (fun _ hZ => cu hZ) ?_ gn))
          · intro Yt4 hqt4
            simp only [Act.put, n1, n2, n3]
            refine gr (rs := [10]) (gbsS 10 (some 21) rfl rfl (by kernel_rfl) (ex_bsV1 rfl rfl) (Nat.succ_pos _) hqt4 (fun _ hZ => cu hZ) ?_ gn)
            intro Yt5 Bt5 hEt5 hqt5
            clear hEt5
            simp only [Act.put, n1, n2, n3]
            refine gr (rs := [11]) (gcB 11 (some 22) rfl rfl hqt5 (kn (hqt5.hp 0 rfl) (hqt5.hold 5 rfl)) (fun x => cu x) ?_ gn)
            intro Yt6 hqt6
            simp only [Act.put, n1, n2, n3]
            refine gr (rs := [12]) (gbsS 12 (some 23) rfl rfl (by kernel_rfl) (ex_bsE4 rfl rfl rfl rfl rfl) (Nat.succ_pos _) hqt6 (fun _ hZ => cu hZ) ?_ gn)
            intro Yt7 Bt7 hEt7 hqt7
            clear hEt7
            simp only [Act.put, n1, n2, n3]
            refine gr (rs := [13]) (gcW 13 (some 24) rfl rfl (cu hqt7) (ko (hqt7.hold 6 rfl)) ?_ gn)
            refine gp 14 (some 10) (.int .i64 (orE [thE o h.l.length, kErr k, soundE [r], knownE h.l.length [r]])) rfl rfl (cu hqt7) ?_
            simp only [Act.put, n1, n2, n3]
            refine wpAnyH_done (by kernel_rfl) ?_ _
            try simp only [Act.put, n1, n2, n3]
            exact pN ⟨_, _, _, rfl, cu hqt7⟩
          · intro Yt9 Bt9 hEt9 hqt9
            clear hEt9
            simp only [Act.put, n1, n2, n3]
            refine gr (rs := [7]) (gcB 7 (some 18) rfl rfl hqt9 (ks hqt9.fr (hqt9.hold 4 rfl)) (fun x => cu x) ?_ gn)
            intro Yt10 hqt10
            simp only [Act.put, n1, n2, n3]
            refine gr (rs := [11]) (gcB 11 (some 22) rfl rfl hqt10 (kn (hqt10.hp 0 rfl) (hqt10.hold 5 rfl)) (fun x => cu x) ?_ gn)
            intro Yt11 hqt11
            simp only [Act.put, n1, n2, n3]
            refine gr (rs := [12]) (gbsS 12 (some 23) rfl rfl (by kernel_rfl) (ex_bsE4 rfl rfl rfl rfl rfl) (Nat.succ_pos _) hqt11 (fun _ hZ => cu hZ) ?_ gn)
            intro Yt12 Bt12 hEt12 hqt12
            clear hEt12
            simp only [Act.put, n1, n2, n3]
            refine gr (rs := [13]) (gcW 13 (some 24) rfl rfl (cu hqt12) (ko (hqt12.hold 6 rfl)) ?_ gn)
            refine gp 14 (some 10) (.int .i64 (orE [thE o h.l.length, kErr k, soundE [r], knownE h.l.length [r]])) rfl rfl (cu hqt12) ?_
            simp only [Act.put, n1, n2, n3]
            refine wpAnyH_done (by kernel_rfl) ?_ _
            try simp only [Act.put, n1, n2, n3]
            exact pN ⟨_, _, _, rfl, cu hqt12⟩
        · intro Yt14 Bt14 hEt14 hqt14
          clear hEt14
          simp only [Act.put, n1, n2, n3]
          refine gr (rs := [6]) (gbsS 6 (some 17) rfl rfl (by kernel_rfl) (ex_bsV1 rfl rfl) (Nat.succ_pos _) hqt14 (fun _ hZ => cu hZ) ?_ gn)
          intro Yt15 Bt15 hEt15 hqt15
          clear hEt15
          simp only [Act.put, n1, n2, n3]
          refine gr (rs := [7]) (gcB 7 (some 18) rfl rfl hqt15 (ks hqt15.fr (hqt15.hold 5 rfl)) (fun x => cu x) ?_ gn)
          intro Yt16 hqt16
          simp only [Act.put, n1, n2, n3]
          refine gr (rs := [11]) (gcB 11 (some 22) rfl rfl hqt16 (kn (hqt16.hp 0 rfl) (hqt16.hold 4 rfl)) (fun x => cu x) ?_ gn)
          intro Yt17 hqt17
          simp only [Act.put, n1, n2, n3]
          refine gr (rs := [12]) (gbsS 12 (some 23) rfl rfl (by kernel_rfl) (ex_bsE4 rfl rfl rfl rfl rfl) (Nat.succ_pos _) hqt17 (fun _ hZ => cu hZ) ?_ gn)
          intro Yt18 Bt18 hEt18 hqt18
          clear hEt18
          simp only [Act.put, n1, n2, n3]
          refine gr (rs := [13]) (gcW 13 (some 24) rfl rfl (cu hqt18) (ko (hqt18.hold 6 rfl)) ?_ gn)
          refine gp 14 (some 10) (.int .i64 (orE [thE o h.l.length, kErr k, soundE [r], knownE h.l.length [r]])) rfl rfl (cu hqt18) ?_
          simp only [Act.put, n1, n2, n3]
          refine wpAnyH_done (by kernel_rfl) ?_ _
          try simp only [Act.put, n1, n2, n3]
          exact pN ⟨_, _, _, rfl, cu hqt18⟩
      · intro Yt20 Bt20 hEt20 hqt20
        clear hEt20
        simp only [Act.put, n1, n2, n3]
        refine gr (rs := [4, 10]) (gcB 4 (some 15) rfl rfl hqt20 (kk hqt20.fr) (fun x => cu x) ?_ (gbsS 10 (some 21) rfl rfl (by kernel_rfl) (ex_bsV1 rfl rfl) (Nat.succ_pos _) hqt20 (fun _ hZ => cu hZ) ?_ gn))
        · intro Yt21 hqt21
          simp only [Act.put, n1, n2, n3]
          refine gr (rs := [7, 10]) (gcB 7 (some 18) rfl rfl hqt21 (ks hqt21.fr (hqt21.hold 4 rfl)) (fun x => cu x) ?_ (gbsS 10 (some 21) rfl rfl (by kernel_rfl) (ex_bsV1 rfl rfl) (Nat.succ_pos _) hqt21 (fun _ hZ => cu hZ) ?_ gn))
          · intro Yt22 hqt22
            simp only [Act.put, n1, n2, n3]
            refine gr (rs := [10]) (gbsS 10 (some 21) rfl rfl (by kernel_rfl) (ex_bsV1 rfl rfl) (Nat.succ_pos _) hqt22 (fun _ hZ => cu hZ) ?_ gn)
            intro Yt23 Bt23 hEt23 hqt23
            clear hEt23
            simp only [Act.put, n1, n2, n3]
            refine gr (rs := [11]) (gcB 11 (some 22) rfl rfl hqt23 (kn (hqt23.hp 0 rfl) (hqt23.hold 5 rfl)) (fun x => cu x) ?_ gn)
            intro Yt24 hqt24
            simp only [Act.put, n1, n2, n3]
            refine gr (rs := [12]) (gbsS 12 (some 23) rfl rfl (by kernel_rfl) (ex_bsE4 rfl rfl rfl rfl rfl) (Nat.succ_pos _) hqt24 (fun _ hZ => cu hZ) ?_ gn)
            intro Yt25 Bt25 hEt25 hqt25
            clear hEt25
            simp only [Act.put, n1, n2, n3]
            refine gr (rs := [13]) (gcW 13 (some 24) rfl rfl (cu hqt25) (ko (hqt25.hold 6 rfl)) ?_ gn)
            refine gp 14 (some 10) (.int .i64 (orE [thE o h.l.length, kErr k, soundE [r], knownE h.l.length [r]])) rfl rfl (cu hqt25) ?_
            simp only [Act.put, n1, n2, n3]
            refine wpAnyH_done (by kernel_rfl) ?_ _
            try simp only [Act.put, n1, n2, n3]
            exact pN ⟨_, _, _, rfl, cu hqt25⟩
          · intro Yt27 Bt27 hEt27 hqt27
            clear hEt27
            simp only [Act.put, n1, n2, n3]
            refine gr (rs := [7]) (gcB 7 (some 18) rfl rfl hqt27 (ks hqt27.fr (hqt27.hold 4 rfl)) (fun x => cu x) ?_ gn)
            intro Yt28 hqt28
            simp only [Act.put, n1, n2, n3]
            refine gr (rs := [11]) (gcB 11 (some 22) rfl rfl hqt28 (kn (hqt28.hp 0 rfl) (hqt28.hold 5 rfl)) (fun x => cu x) ?_ gn)
            intro Yt29 hqt29
            simp only [Act.put, n1, n2, n3]
            refine gr (rs := [12]) (gbsS 12 (some 23) rfl rfl (by kernel_rfl) (ex_bsE4 rfl rfl rfl rfl rfl) (Nat.succ_pos _) hqt29 (fun _ hZ => cu hZ) ?_ gn)
            intro Yt30 Bt30 hEt30 hqt30
            clear hEt30
            simp only [Act.put, n1, n2, n3]
            refine gr (rs := [13]) (gcW 13 (some 24) rfl rfl (cu hqt30) (ko (hqt30.hold 6 rfl)) ?_ gn)
            refine gp 14 (some 10) (.int .i64 (orE [thE o h.l.length, kErr k, soundE [r], knownE h.l.length [r]])) rfl rfl (cu hqt30) ?_
            simp only [Act.put, n1, n2, n3]
            refine wpAnyH_done (by kernel_rfl) ?_ _
            try simp only [Act.put, n1, n2, n3]
            exact pN ⟨_, _, _, rfl, cu hqt30⟩
        · intro Yt32 Bt32 hEt32 hqt32
          clear hEt32
          simp only [Act.put, n1, n2, n3]
          refine gr (rs := [4]) (gcB 4 (some 15) rfl rfl hqt32 (kk hqt32.fr) (fun x => cu x) ?_ gn)
          intro Yt33 hqt33
          simp only [Act.put, n1, n2, n3]
          refine gr (rs := [7]) (gcB 7 (some 18) rfl rfl hqt33 (ks hqt33.fr (hqt33.hold 4 rfl)) (fun x => cu x) ?_ gn)
          intro Yt34 hqt34
          simp only [Act.put, n1, n2, n3]
          refine gr (rs := [11]) (gcB 11 (some 22) rfl rfl hqt34 (kn (hqt34.hp 0 rfl) (hqt34.hold 5 rfl)) (fun x => cu x) ?_ gn)
          intro Yt35 hqt35
          simp only [Act.put, n1, n2, n3]
          refine gr (rs := [12]) (gbsS 12 (some 23) rfl rfl (by kernel_rfl) (ex_bsE4 rfl rfl rfl rfl rfl) (Nat.succ_pos _) hqt35 (fun _ hZ => cu hZ) ?_ gn)
          intro Yt36 Bt36 hEt36 hqt36
          clear hEt36
          simp only [Act.put, n1, n2, n3]
          refine gr (rs := [13]) (gcW 13 (some 24) rfl rfl (cu hqt36) (ko (hqt36.hold 6 rfl)) ?_ gn)
          refine gp 14 (some 10) (.int .i64 (orE [thE o h.l.length, kErr k, soundE [r], knownE h.l.length [r]])) rfl rfl (cu hqt36) ?_
          simp only [Act.put, n1, n2, n3]
          refine wpAnyH_done (by kernel_rfl) ?_ _
          try simp only [Act.put, n1, n2, n3]
          exact pN ⟨_, _, _, rfl, cu hqt36⟩
      · intro Yt38 Bt38 hEt38 hqt38
        clear hEt38
        simp only [Act.put, n1, n2, n3]
        refine gr (rs := [4, 6]) (gcB 4 (some 15) rfl rfl hqt38 (kk hqt38.fr) (fun x => cu x) ?_ (gbsS 6 (some 17) rfl rfl (by kernel_rfl) (ex_bsV1 rfl rfl) (Nat.succ_pos _) hqt38 (fun _ hZ => cu hZ) ?_ gn))
        · intro Yt39 hqt39
          simp only [Act.put, n1, n2, n3]
          refine gr (rs := [6]) (gbsS 6 (some 17) rfl rfl (by kernel_rfl) (ex_bsV1 rfl rfl) (Nat.succ_pos _) hqt39 (fun _ hZ => cu hZ) ?_ gn)
          intro Yt40 Bt40 hEt40 hqt40
          clear hEt40
          simp only [Act.put, n1, n2, n3]
          refine gr (rs := [7]) (gcB 7 (some 18) rfl rfl hqt40 (ks hqt40.fr (hqt40.hold 5 rfl)) (fun x => cu x) ?_ gn)
          intro Yt41 hqt41
          simp only [Act.put, n1, n2, n3]
          refine gr (rs := [11]) (gcB 11 (some 22) rfl rfl hqt41 (kn (hqt41.hp 0 rfl) (hqt41.hold 4 rfl)) (fun x => cu x) ?_ gn)
          intro Yt42 hqt42
          simp only [Act.put, n1, n2, n3]
          refine gr (rs := [12]) (gbsS 12 (some 23) rfl rfl (by kernel_rfl) (ex_bsE4 rfl rfl rfl rfl rfl) (Nat.succ_pos _) hqt42 (fun _ hZ => cu hZ) ?_ gn)
          intro Yt43 Bt43 hEt43 hqt43
          clear hEt43
          simp only [Act.put, n1, n2, n3]
          refine gr (rs := [13]) (gcW 13 (some 24) rfl rfl (cu hqt43) (ko (hqt43.hold 6 rfl)) ?_ gn)
          refine gp 14 (some 10) (.int .i64 (orE [thE o h.l.length, kErr k, soundE [r], knownE h.l.length [r]])) rfl rfl (cu hqt43) ?_
          simp only [Act.put, n1, n2, n3]
          refine wpAnyH_done (by kernel_rfl) ?_ _
          try simp only [Act.put, n1, n2, n3]
          exact pN ⟨_, _, _, rfl, cu hqt43⟩
        · intro Yt45 Bt45 hEt45 hqt45
          clear hEt45
          simp only [Act.put, n1, n2, n3]
          refine gr (rs := [4]) (gcB 4 (some 15) rfl rfl hqt45 (kk hqt45.fr) (fun x => cu x) ?_ gn)
          intro Yt46 hqt46
          simp only [Act.put, n1, n2, n3]
          refine gr (rs := [7]) (gcB 7 (some 18) rfl rfl hqt46 (ks hqt46.fr (hqt46.hold 5 rfl)) (fun x => cu x) ?_ gn)
          intro Yt47 hqt47
          simp only [Act.put, n1, n2, n3]
          refine gr (rs := [11]) (gcB 11 (some 22) rfl rfl hqt47 (kn (hqt47.hp 0 rfl) (hqt47.hold 4 rfl)) (fun x => cu x) ?_ gn)
          intro Yt48 hqt48
          simp only [Act.put, n1, n2, n3]
          refine gr (rs := [12]) (gbsS 12 (some 23) rfl rfl (by kernel_rfl) (ex_bsE4 rfl rfl rfl rfl rfl) (Nat.succ_pos _) hqt48 (fun _ hZ => cu hZ) ?_ gn)
          intro Yt49 Bt49 hEt49 hqt49
          clear hEt49
          simp only [Act.put, n1, n2, n3]
          refine gr (rs := [13]) (gcW 13 (some 24) rfl rfl (cu hqt49) (ko (hqt49.hold 6 rfl)) ?_ gn)
          refine gp 14 (some 10) (.int .i64 (orE [thE o h.l.length, kErr k, soundE [r], knownE h.l.length [r]])) rfl rfl (cu hqt49) ?_
          simp only [Act.put, n1, n2, n3]
          refine wpAnyH_done (by kernel_rfl) ?_ _
          try simp only [Act.put, n1, n2, n3]
          exact pN ⟨_, _, _, rfl, cu hqt49⟩
    · intro Yt51 Bt51 hEt51 hqt51
      clear hEt51
      simp only [Act.put, n1, n2, n3]
      refine gr (rs := [2, 10]) (gcW 2 (some 13) rfl rfl (cu hqt51) (kt (hqt51.hp 0 rfl)) ?_ (gbsS 10 (some 21) rfl rfl (by kernel_rfl) (ex_bsV1 rfl rfl) (Nat.succ_pos _) hqt51 (fun _ hZ => cu hZ) ?_ gn))
      · simp only [Act.put, n1, n2, n3]
        refine gr (rs := [4, 10]) (gcB 4 (some 15) rfl rfl hqt51 (kk hqt51.fr) (fun x => cu x) ?_ (gbsS 10 (some 21) rfl rfl (by kernel_rfl) (ex_bsV1 rfl rfl) (Nat.succ_pos _) hqt51 (fun _ hZ => cu hZ) ?_ gn))
        · intro Yt53 hqt53
          simp only [Act.put, n1, n2, n3]
          refine gr (rs := [7, 10]) (gcB 7 (some 18) rfl rfl hqt53 (ks hqt53.fr (hqt53.hold 4 rfl)) (fun x => cu x) ?_ (gbsS 10 (some 21) rfl rfl (by kernel_rfl) (ex_bsV1 rfl rfl) (Nat.succ_pos _) hqt53 (fun _ hZ => cu hZ) ?_ gn))
          · intro Yt54 hqt54
            simp only [Act.put, n1, n2, n3]
            refine gr (rs := [10]) (gbsS 10 (some 21) rfl rfl (by kernel_rfl) (ex_bsV1 rfl rfl) (Nat.succ_pos _) hqt54 (fun _ hZ => cu hZ) ?_ gn)
            intro Yt55 Bt55 hEt55 hqt55
            clear hEt55
            simp only [Act.put, n1, n2, n3]
            refine gr (rs := [11]) (gcB 11 (some 22) rfl rfl hqt55 (kn (hqt55.hp 0 rfl) (hqt55.hold 5 rfl)) (fun x => cu x) ?_ gn)
            intro Yt56 hqt56
            simp only [Act.put, n1, n2, n3]
            refine gr (rs := [12]) (gbsS 12 (some 23) rfl rfl (by kernel_rfl) (ex_bsE4 rfl rfl rfl rfl rfl) (Nat.succ_pos _) hqt56 (fun _ hZ => cu hZ) ?_ gn)
            intro Yt57 Bt57 hEt57 hqt57
            clear hEt57
            simp only [Act.put, n1, n2, n3]
            refine gr (rs := [13]) (gcW 13 (some 24) rfl rfl (cu hqt57) (ko (hqt57.hold 6 rfl)) ?_ gn)
            refine gp 14 (some 10) (.int .i64 (orE [thE o h.l.length, kErr k, soundE [r], knownE h.l.length [r]])) rfl rfl (cu hqt57) ?_
            simp only [Act.put, n1, n2, n3]
            refine wpAnyH_done (by kernel_rfl) ?_ _
            try simp only [Act.put, n1, n2, n3]
            exact pN ⟨_, _, _, rfl, cu hqt57⟩
          · intro Yt59 Bt59 hEt59 hqt59
            clear hEt59
            simp only [Act.put, n1, n2, n3]
            refine gr (rs := [7]) (gcB 7 (some 18) rfl rfl hqt59 (ks hqt59.fr (hqt59.hold 4 rfl)) (fun x => cu x) ?_ gn)
            intro Yt60 hqt60
            simp only [Act.put, n1, n2, n3]
            refine gr (rs := [11]) (gcB 11 (some 22) rfl rfl hqt60 (kn (hqt60.hp 0 rfl) (hqt60.hold 5 rfl)) (fun x => cu x) ?_ gn)
            intro Yt61 hqt61
            simp only [Act.put, n1, n2, n3]
            refine gr (rs := [12]) (gbsS 12 (some 23) rfl rfl (by kernel_rfl) (ex_bsE4 rfl rfl rfl rfl rfl) (Nat.succ_pos _) hqt61 (fun _ hZ => cu hZ) ?_ gn)
            intro Yt62 Bt62 hEt62 hqt62
            clear hEt62
            simp only [Act.put, n1, n2, n3]
            refine gr (rs := [13]) (gcW 13 (some 24) rfl rfl (cu hqt62) (ko (hqt62.hold 6 rfl)) ?_ gn)
            refine gp 14 (some 10) (.int .i64 (orE [thE o h.l.length, kErr k, soundE [r], knownE h.l.length [r]])) rfl rfl (cu hqt62) ?_
            simp only [Act.put, n1, n2, n3]
            refine wpAnyH_done (by kernel_rfl) ?_ _
            try simp only [Act.put, n1, n2, n3]
            exact pN ⟨_, _, _, rfl, cu hqt62⟩
        · intro Yt64 Bt64 hEt64 hqt64
          clear hEt64
          simp only [Act.put, n1, n2, n3]
          refine gr (rs := [4]) (gcB 4 (some 15) rfl rfl hqt64 (kk hqt64.fr) (fun x => cu x) ?_ gn)
          intro Yt65 hqt65
          simp only [Act.put, n1, n2, n3]
          refine gr (rs := [7]) (gcB 7 (some 18) rfl rfl hqt65 (ks hqt65.fr (hqt65.hold 4 rfl)) (fun x => cu x) ?_ gn)
          intro Yt66 hqt66
          simp only [Act.put, n1, n2, n3]
          refine gr (rs := [11]) (gcB 11 (some 22) rfl rfl hqt66 (kn (hqt66.hp 0 rfl) (hqt66.hold 5 rfl)) (fun x => cu x) ?_ gn)
          intro Yt67 hqt67
          simp only [Act.put, n1, n2, n3]
          refine gr (rs := [12]) (gbsS 12 (some 23) rfl rfl (by kernel_rfl) (ex_bsE4 rfl rfl rfl rfl rfl) (Nat.succ_pos _) hqt67 (fun _ hZ => cu hZ) ?_ gn)
          intro Yt68 Bt68 hEt68 hqt68
          clear hEt68
          simp only [Act.put, n1, n2, n3]
          refine gr (rs := [13]) (gcW 13 (some 24) rfl rfl (cu hqt68) (ko (hqt68.hold 6 rfl)) ?_ gn)
          refine gp 14 (some 10) (.int .i64 (orE [thE o h.l.length, kErr k, soundE [r], knownE h.l.length [r]])) rfl rfl (cu hqt68) ?_
          simp only [Act.put, n1, n2, n3]
          refine wpAnyH_done (by kernel_rfl) ?_ _
          try simp only [Act.put, n1, n2, n3]
          exact pN ⟨_, _, _, rfl, cu hqt68⟩
      · intro Yt70 Bt70 hEt70 hqt70
        clear hEt70
        simp only [Act.put, n1, n2, n3]
        refine gr (rs := [2]) (gcW 2 (some 13) rfl rfl (cu hqt70) (kt (hqt70.hp 0 rfl)) ?_ gn)
        simp only [Act.put, n1, n2, n3]
        refine gr (rs := [4]) (gcB 4 (some 15) rfl rfl hqt70 (kk hqt70.fr) (fun x => cu x) ?_ gn)
        intro Yt72 hqt72
        simp only [Act.put, n1, n2, n3]
        refine gr (rs := [7]) (gcB 7 (some 18) rfl rfl hqt72 (ks hqt72.fr (hqt72.hold 4 rfl)) (fun x => cu x) ?_ gn)
        intro Yt73 hqt73
        simp only [Act.put, n1, n2, n3]
        refine gr (rs := [11]) (gcB 11 (some 22) rfl rfl hqt73 (kn (hqt73.hp 0 rfl) (hqt73.hold 5 rfl)) (fun x => cu x) ?_ gn)
        intro Yt74 hqt74
        simp only [Act.put, n1, n2, n3]
        refine gr (rs := [12]) (gbsS 12 (some 23) rfl rfl (by kernel_rfl) (ex_bsE4 rfl rfl rfl rfl rfl) (Nat.succ_pos _) hqt74 (fun _ hZ => cu hZ) ?_ gn)
        intro Yt75 Bt75 hEt75 hqt75
        clear hEt75
        simp only [Act.put, n1, n2, n3]
        refine gr (rs := [13]) (gcW 13 (some 24) rfl rfl (cu hqt75) (ko (hqt75.hold 6 rfl)) ?_ gn)
        refine gp 14 (some 10) (.int .i64 (orE [thE o h.l.length, kErr k, soundE [r], knownE h.l.length [r]])) rfl rfl (cu hqt75) ?_
        simp only [Act.put, n1, n2, n3]
        refine wpAnyH_done (by kernel_rfl) ?_ _
        try simp only [Act.put, n1, n2, n3]
        exact pN ⟨_, _, _, rfl, cu hqt75⟩
    · intro Yt77 Bt77 hEt77 hqt77
      clear hEt77
      simp only [Act.put, n1, n2, n3]
      refine gr (rs := [2, 6]) (gcW 2 (some 13) rfl rfl (cu hqt77) (kt (hqt77.hp 0 rfl)) ?_ (gbsS 6 (some 17) rfl rfl (by kernel_rfl) (ex_bsV1 rfl rfl) (Nat.succ_pos _) hqt77 (fun _ hZ => cu hZ) ?_ gn))
      · simp only [Act.put, n1, n2, n3]
        refine gr (rs := [4, 6]) (gcB 4 (some 15) rfl rfl hqt77 (kk hqt77.fr) (fun x => cu x) ?_ (gbsS 6 (some 17) rfl rfl (by kernel_rfl) (ex_bsV1 rfl rfl) (Nat.succ_pos _) hqt77 (fun _ hZ => cu hZ) ?_ gn))
        · intro Yt79 hqt79
          simp only [Act.put, n1, n2, n3]
          refine gr (rs := [6]) (gbsS 6 (some 17) rfl rfl (by kernel_rfl) (ex_bsV1 rfl rfl) (Nat.succ_pos _) hqt79 (fun _ hZ => cu hZ) ?_ gn)
          intro Yt80 Bt80 hEt80 hqt80
          clear hEt80
          simp only [Act.put, n1, n2, n3]
          refine gr (rs := [7]) (gcB 7 (some 18) rfl rfl hqt80 (ks hqt80.fr (hqt80.hold 5 rfl)) (fun x => cu x) ?_ gn)
          intro Yt81 hqt81
          simp only [Act.put, n1, n2, n3]
          refine gr (rs := [11]) (gcB 11 (some 22) rfl rfl hqt81 (kn (hqt81.hp 0 rfl) (hqt81.hold 4 rfl)) (fun x => cu x) ?_ gn)
          intro Yt82 hqt82
          simp only [Act.put, n1, n2, n3]
          refine gr (rs := [12]) (gbsS 12 (some 23) rfl rfl (by kernel_rfl) (ex_bsE4 rfl rfl rfl rfl rfl) (Nat.succ_pos _) hqt82 (fun _ hZ => cu hZ) ?_ gn)
          intro Yt83 Bt83 hEt83 hqt83
          clear hEt83
          simp only [Act.put, n1, n2, n3]
          refine gr (rs := [13]) (gcW 13 (some 24) rfl rfl (cu hqt83) (ko (hqt83.hold 6 rfl)) ?_ gn)
          refine gp 14 (some 10) (.int .i64 (orE [thE o h.l.length, kErr k, soundE [r], knownE h.l.length [r]])) rfl rfl (cu hqt83) ?_
          simp only [Act.put, n1, n2, n3]
          refine wpAnyH_done (by kernel_rfl) ?_ _
          try simp only [Act.put, n1, n2, n3]
          exact pN ⟨_, _, _, rfl, cu hqt83⟩
        · intro Yt85 Bt85 hEt85 hqt85
          clear hEt85
          simp only [Act.put, n1, n2, n3]
          refine gr (rs := [4]) (gcB 4 (some 15) rfl rfl hqt85 (kk hqt85.fr) (fun x => cu x) ?_ gn)
          intro Yt86 hqt86
          simp only [Act.put, n1, n2, n3]
          refine gr (rs := [7]) (gcB 7 (some 18) rfl rfl hqt86 (ks hqt86.fr (hqt86.hold 5 rfl)) (fun x => cu x) ?_ gn)
          intro Yt87 hqt87
          simp only [Act.put, n1, n2, n3]
          refine gr (rs := [11]) (gcB 11 (some 22) rfl rfl hqt87 (kn (hqt87.hp 0 rfl) (hqt87.hold 4 rfl)) (fun x => cu x) ?_ gn)
          intro Yt88 hqt88
          simp only [Act.put, n1, n2, n3]
          refine gr (rs := [12]) (gbsS 12 (some 23) rfl rfl (by kernel_rfl) (ex_bsE4 rfl rfl rfl rfl rfl) (Nat.succ_pos _) hqt88 (fun _ hZ => cu hZ) ?_ gn)
          intro Yt89 Bt89 hEt89 hqt89
          clear hEt89
          simp only [Act.put, n1, n2, n3]
          refine gr (rs := [13]) (gcW 13 (some 24) rfl rfl (cu hqt89) (ko (hqt89.hold 6 rfl)) ?_ gn)
          refine gp 14 (some 10) (.int .i64 (orE [thE o h.l.length, kErr k, soundE [r], knownE h.l.length [r]])) rfl rfl (cu hqt89) ?_
          simp only [Act.put, n1, n2, n3]
          refine wpAnyH_done (by kernel_rfl) ?_ _
          try simp only [Act.put, n1, n2, n3]
          exact pN ⟨_, _, _, rfl, cu hqt89⟩
      · intro Yt91 Bt91 hEt91 hqt91
        clear hEt91
        simp only [Act.put, n1, n2, n3]
        refine gr (rs := [2]) (gcW 2 (some 13) rfl rfl (cu hqt91) (kt (hqt91.hp 0 rfl)) ?_ gn)
        simp only [Act.put, n1, n2, n3]
        refine gr (rs := [4]) (gcB 4 (some 15) rfl rfl hqt91 (kk hqt91.fr) (fun x => cu x) ?_ gn)
        intro Yt93 hqt93
        simp only [Act.put, n1, n2, n3]
        refine gr (rs := [7]) (gcB 7 (some 18) rfl rfl hqt93 (ks hqt93.fr (hqt93.hold 5 rfl)) (fun x => cu x) ?_ gn)
        intro Yt94 hqt94
        simp only [Act.put, n1, n2, n3]
        refine gr (rs := [11]) (gcB 11 (some 22) rfl rfl hqt94 (kn (hqt94.hp 0 rfl) (hqt94.hold 4 rfl)) (fun x => cu x) ?_ gn)
        intro Yt95 hqt95
        simp only [Act.put, n1, n2, n3]
        refine gr (rs := [12]) (gbsS 12 (some 23) rfl rfl (by kernel_rfl) (ex_bsE4 rfl rfl rfl rfl rfl) (Nat.succ_pos _) hqt95 (fun _ hZ => cu hZ) ?_ gn)
        intro Yt96 Bt96 hEt96 hqt96
        clear hEt96
        simp only [Act.put, n1, n2, n3]
        refine gr (rs := [13]) (gcW 13 (some 24) rfl rfl (cu hqt96) (ko (hqt96.hold 6 rfl)) ?_ gn)
        refine gp 14 (some 10) (.int .i64 (orE [thE o h.l.length, kErr k, soundE [r], knownE h.l.length [r]])) rfl rfl (cu hqt96) ?_
        simp only [Act.put, n1, n2, n3]
        refine wpAnyH_done (by kernel_rfl) ?_ _
        try simp only [Act.put, n1, n2, n3]
        exact pN ⟨_, _, _, rfl, cu hqt96⟩
  · rintro a' X ⟨v17, v21, v23, rfl, hS9⟩
    simp only [Act.put, n1, n2, n3]
    have SS := hide hS9
    clear hS9
    by_cases hc : orE [thE o h.l.length, kErr k, soundE [r], knownE h.l.length [r]] = 0
    · obtain ⟨j, q, ho_, hj⟩ := th_zero (h := h) (o := o) (orE_zero hc (thE o h.l.length) (by simp))
      have HO_ := hide ho_
      clear ho_
      go_wp2_with (first | go_skip | ((with_reducible show wpList _ _ _ _ _ _); first | (refine rd (by rfl) (ex_neE0 rfl rfl rfl hc) ?_; simp only [Act.put, n1, n2, n3]) | (refine zL (k.cs) 26 2 1 rwK szK (by rfl) rfl rfl SS rfl rfl rfl ?_; simp only [Act.put, n1, n2, n3]) | (refine zL (r.cs) 24 5 2 rwV szV (by rfl) rfl rfl SS rfl rfl rfl ?_; simp only [Act.put, n1, n2, n3])))
      have HC := hC j q _ (unhide HO_) hj hc (HP.To.end H (unhide SS) rfl)
      rw [kagg, vagg] at HC
      rw [← unhide HO_] at HC
      refine HC.mono ?_
      rintro _ Y9 ⟨h1, V, er, rfl, hP, T9⟩
      replace SS := hide ((unhide SS).heap 0 rfl T9)
      have hb9 : h1.b = h.b := T9.hb
      clear T9 HC
      rw [vagg]
      go_wp2_with (first | go_skip | ((with_reducible show wpList _ _ _ _ _ _); first | (refine zS (V.cs) 3 24 (by rfl) rfl rfl rfl rfl (oneV _) szV SS rfl ?_; clear SS; intro Xy SS; simp only [Act.put, n1, n2, n3])))
      refine bodyPost_ret (res_ct rwV szV rfl rfl rfl ((unhide SS).hold 3 rfl) rfl) rfl ?_
      exact ⟨h1, V, er, rfl, .inr ⟨hc, hP⟩, HP.To.end H (unhide SS) hb9⟩
    · go_wp2_with (first | go_skip | ((with_reducible show wpList _ _ _ _ _ _); first | (refine rd (by rfl) (ex_neE1 rfl rfl rfl hc) ?_; simp only [Act.put, n1, n2, n3]) | (refine rd (by rfl) (ex_zeroV rfl) ?_; simp only [Act.put, n1, n2, n3]) | (refine zS (zeroV.cs) 3 24 (by rfl) rfl rfl rfl rfl (oneV _) szV SS rfl ?_; clear SS; intro Xz SS; simp only [Act.put, n1, n2, n3])))
      refine bodyPost_ret (res_ct rwV szV rfl rfl rfl ((unhide SS).hold 3 rfl) rfl) rfl ?_
      exact ⟨h, zeroV, _, rfl, .inl ⟨hc, rfl, rfl⟩, HP.To.end H (unhide SS) rfl⟩
end
end Go.Proofs.YtmgflhhealdfoaaGreatDoor
namespace Go.Proofs.YtmgflhhealdfoaaGreatDoor
section
open Go Go.Proofs Go.RowKit FM
theorem none_zero {v : VV} (h : thV v = false) : v = zeroV := by
  unfold thV at h
  simp only [Bool.not_eq_false', Bool.and_eq_true, beq_iff_eq, Bool.not_eq_true'] at h
  obtain ⟨k, b, x, s, i⟩ := v
  obtain ⟨⟨⟨⟨rfl, rfl⟩, rfl⟩, hs⟩, rfl⟩ := h
  have := empty_of hs
  subst this
  rfl
/-- A field that is as it must be: absent, or well formed. -/
def okF (v : VV) : Prop := (v.k != 0) = thV v ∧ (thV v = true → v.good = true)
theorem okV {d : DD} (h : soundV d = true) : okF d.v := by
  have hk := (sound_keys h).1
  unfold soundV at h
  simp only [Bool.and_eq_true, Bool.or_eq_true, Bool.not_eq_true'] at h
  refine ⟨hk, fun ht => ?_⟩
  rcases h.1.1.1.1.1 with h | h
  · rw [ht] at h
    exact absurd h (by decide)
  · exact h
theorem okC {v : VV} (h : callV v = true) : okF v := by
  refine ⟨(fieldG v).2 h, fun ht => ?_⟩
  rw [(fieldG v).1, ht] at h
  unfold slotV at h
  simp at h
  exact h.1
theorem okG {d : DD} (h : soundV d = true) : okF d.g := by
  unfold soundV at h
  simp only [Bool.and_eq_true] at h
  exact okC h.1.1.1.1.2
theorem okS {d : DD} (h : soundV d = true) : okF d.s := by
  unfold soundV at h
  simp only [Bool.and_eq_true] at h
  exact okC h.1.1.1.2
/-- What is said of a descriptor, in signs. -/
theorem whole_iff (a : DD) : wholeV a = true ↔ soundV a = true ∧ (a.e != 0) = true ∧ (a.c != 0) = true ∧ ((thV a.v = true ∧ (a.w != 0) = true ∧ thV a.g = false ∧ thV a.s = false) ∨ (thV a.g = true ∧ thV a.s = true ∧ thV a.v = false ∧ (a.w != 0) = false)) := by
  unfold wholeV kindV shapeV
  generalize soundV a = sd
  generalize thV a.v = tv
  generalize thV a.g = tg
  generalize thV a.s = ts
  generalize (a.w != 0) = qa
  generalize (a.e != 0) = qe
  generalize (a.c != 0) = qc
  cases sd <;> cases tv <;> cases qa <;> cases tg <;> cases ts <;> cases qe <;> cases qc <;> decide
theorem kind_iff (d : DD) : ¬ kindV d = 0 ↔ soundV d = true ∧ (((thV d.v || d.w != 0) && (thV d.g || thV d.s)) = false) := by
  unfold kindV shapeV
  generalize soundV d = sd
  generalize thV d.v = tv
  generalize thV d.g = tg
  generalize thV d.s = ts
  generalize (d.w != 0) = qa
  cases sd <;> cases tv <;> cases qa <;> cases tg <;> cases ts <;> decide
/-- a has each field that d asks for, and is whole. -/
structure Took (a d : DD) : Prop where
  whole : wholeV a = true
  turn : turnV a d = false
  v : thV d.v = true → a.v = d.v
  g : thV d.g = true → a.g = d.g
  s : thV d.s = true → a.s = d.s
  w : (d.w != 0) = true → a.w = d.w
  e : (d.e != 0) = true → a.e = d.e
  c : (d.c != 0) = true → a.c = d.c
theorem orV_th {v a : VV} (h : thV v = true) : orV v a = v := by unfold orV; rw [h]; rfl
theorem orV_no {v a : VV} (h : thV v = false) : orV v a = a := by unfold orV; rw [h]; rfl
theorem orT_th {v a : Int} (h : (v != 0) = true) : orT v a = v := by unfold orT; rw [h]; rfl
theorem orT_no {v a : Int} (h : (v != 0) = false) : orT v a = a := by unfold orT; rw [h]; rfl
theorem sound_parts {d : DD} (h : soundV d = true) : (!thV d.v || d.v.good) = true ∧ callV d.g = true ∧ callV d.s = true ∧ triV d.w = true ∧ triV d.e = true ∧ triV d.c = true := by
  unfold soundV at h
  simp only [Bool.and_eq_true] at h
  exact ⟨h.1.1.1.1.1, h.1.1.1.1.2, h.1.1.1.2, h.1.1.2, h.1.2, h.2⟩
theorem same_refl (x : Nat) : sameV x x = true := by unfold sameV; simp
theorem alike_refl (v : VV) : alikeV sameV v v = true := by
  unfold alikeV
  rw [same_refl]
  simp
theorem sam_refl {v : VV} (h : okF v) : samV v v = true := by
  unfold samV
  cases ht : thV v
  · rfl
  · rw [h.2 ht, alike_refl]
    rfl
/-- What d asks for is what a has: d changes a no more. -/
theorem took_again {a d : DD} (x : Bool) (h : ¬ kindV d = 0) (T : Took a d) : appD x a d = a ∧ appB x a d = true ∧ appE a d = 0 := by
  obtain ⟨hs, hk⟩ := (kind_iff d).1 h
  obtain ⟨p1, p2, p3, p4, p5, p6⟩ := sound_parts hs
  have hbec : becV a d = a := by
    unfold becV
    rw [T.turn]
    have e : ∀ (v u : VV), (thV v = true → u = v) → orV v u = u := fun v u k => by
      cases hv : thV v
      · exact orV_no hv
      · rw [orV_th hv, k hv]
    have f : ∀ (v u : Int), ((v != 0) = true → u = v) → orT v u = u := fun v u k => by
      cases hv : (v != 0)
      · exact orT_no hv
      · rw [orT_th hv, k hv]
    rw [e _ _ T.v, e _ _ T.g, e _ _ T.s, f _ _ T.w, f _ _ T.e, f _ _ T.c]
    rfl
  have hst : stV a = true := by unfold stV; rw [T.whole, Bool.or_true]
  have hno : noV a = false := by
    obtain ⟨-, he, -, -⟩ := (whole_iff a).1 T.whole
    unfold noV
    rw [he]
    simp
  have dif : ∀ (v u : VV), okF v → (thV v = true → u = v) → difV u v = false := fun v u o k => by
    unfold difV
    cases hv : thV v
    · rfl
    · rw [k hv, sam_refl o]
      rfl
  have hf : (a.c == 1 && forbV a d) = false := by
    cases hc : (a.c == 1)
    · rfl
    · have hc1 : a.c = 1 := by simpa using hc
      have c2 : (d.c == 2) = false := by
        cases h2 : (d.c == 2)
        · rfl
        · have : d.c = 2 := by simpa using h2
          have := T.c (by rw [this]; rfl)
          omega
      have e2 : (d.e != 0 && d.e != a.e) = false := by
        cases h2 : (d.e != 0)
        · rfl
        · rw [T.e h2]
          simp
      unfold forbV
      rw [c2, e2, T.turn, dif _ _ (okG hs) T.g, dif _ _ (okS hs) T.s, dif _ _ (okV hs) T.v]
      by_cases h3 : shapeV a = 3
      · simp [h3]
      · simp only [h3, Bool.or_false, Bool.or_self, Bool.false_eq_true, if_false, beq_iff_eq, Bool.true_and]
        cases h2 : (d.w == 2)
        · simp
        · have d2 : d.w = 2 := by simpa using h2
          have := T.w (by rw [d2]; rfl)
          rw [this, d2]
          decide
  have hk0 : (kindV d == 0) = false := by simp [h]
  unfold appD appB appE
  rw [hst, hno, hf, hbec, hk0]
  exact ⟨rfl, rfl, rfl⟩
