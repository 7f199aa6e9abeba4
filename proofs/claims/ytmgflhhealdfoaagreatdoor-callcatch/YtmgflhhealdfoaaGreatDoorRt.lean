import Derived.Test.YtmgflhhealdfoaaGreatDoorRs
set_option linter.all false
namespace Go.Proofs.YtmgflhhealdfoaaGreatDoor
set_option maxHeartbeats 1000000
section
open Go Go.Proofs Go.Maps Go.RowKit FM
attribute [local go_sem] mm_GetOwnProperty mm_DefineOwnProperty mm_Get ta_caller ta_builder
def HP.wb (h : HP) (base g c : Nat) (l : List OP) : HP := { h with e := rowO base 40 32 (.slice (some ⟨g, 0, none⟩) l.length c) l.length (l.flatMap OP.cs), eo := rowO_ok _ _ _ _ _ _ }
theorem wb_body (h : HP) (base g c : Nat) (l : List OP) : (h.wb base g c l).body g c l := ⟨base, rfl⟩
theorem wb_end {h h1 : HP} {w X : World} {base g c : Nat} {l : List OP} {M : List Ob} (H : h.Is w) (S : Sy w X h.blocks (hpO h1 :: rowO base 40 32 (.slice (some ⟨g, 0, none⟩) l.length c) l.length (l.flatMap OP.cs) :: M)) (h0 : h1.e.bs = []) (hb : h1.b = h.b) : h.To (h1.wb base g c l) w X := by
  have H2 : (h1.wb base g c l).Is X := (S.hp 0 rfl).take (rowO_ok _ _ _ _ _ _) (S.get 1 rfl) h0 (fun b hb hm => S.apart (i := 0) (j := 1) rfl rfl (by decide) b hm hb) (fun b hb2 => (S.lo _ (List.mem_of_getElem? (i := 1) rfl) b hb2).elim (H.low b) (fun h => by have := H.big; omega))
  have S2 := Sy.join (L := []) (c := hpO (h1.wb base g c l)) S (hpO_ok _) H2 (fun x hx => HP.take_blocks (rowO_ok _ _ _ _ _ _) x hx)
  exact HP.To.end H S2 hb
theorem ex_bPg {o : Oper} {a : Act} {w : World} {x0 x1 : Operand} (g c n : Nat) (ct : Bool) (ho : o.op = .build 81 #[(0, x0), (1, x1)]) (h0 : a.eval x0 = .slice (some ⟨g, 0, none⟩) n c) (h1 : a.eval x1 = .bool ct) : (execOp a.eval o).run Tryz.prog w = .ok (.value (.agg (pgC g c n ct).toArray)) w := by
  have e : (Instr.build 81 #[(0, .slice (some ⟨g, 0, none⟩) n c), (1, .bool ct)]).run Tryz.prog w = .ok (.agg (pgC g c n ct).toArray) w := by kernel_rfl
  unfold execOp
  simp only [ho, List.map_toArray, List.map_cons, List.map_nil, h0, h1]
  simp [e]
theorem add_ok (h : HP) (v : VV) (cl : Int) (mm : Nat) (ow : Option (Nat × Value)) (w : World) (H : h.Is w) (hT : Tabs w) (hl : h.l.length ≤ 65536) (hz : orE [checkE h.l.length v, protoE v, roomE h] = 0) : Calls Tryz.prog 21 #[.pointer (some ⟨h.b, 0, none⟩), .int .i64 cl, v.agg, .iface (mt mm) (.agg #[]), ow1 ow] w fun e w' => ∃ (gv : Value) (q : OB), e = .returned (.tuple #[.int .i64 ((h.l.length : Int) + 1), .nilIface]) ∧ q.c = cl ∧ q.p = v ∧ q.x = true ∧ q.m = mm ∧ q.ow = ow ∧ pr q.T = [] ∧ q.T.last = 0 ∧ h.To (h.more gv q) w w' := by
  refine (add_h h v cl mm ow w H hT hl).mono ?_
  rintro e Y (⟨-, h1, -⟩ | ⟨-, gv, q, h2⟩)
  · exact absurd hz h1
  · exact ⟨gv, q, h2⟩
theorem ex_bOrd {o : Oper} {a : Act} {w : World} (ho : o.op = .build 72 #[]) : (execOp a.eval o).run Tryz.prog w = .ok (.value (.agg #[])) w := by
  have e : (Instr.build 72 #[]).run Tryz.prog w = .ok (.agg #[]) w := by kernel_rfl
  unfold execOp
  simp only [ho]
  simp [e]
set_option maxHeartbeats 2000000 in
set_option maxRecDepth 100000 in
theorem make_ok (h : HP) (v : VV) (w : World) (H : h.Is w) (hT : Tabs w) (hl : h.l.length ≤ 65536) (hz : orE [checkE h.l.length v, protoE v, roomE h] = 0) : Calls Tryz.prog 7 #[.pointer (some ⟨h.b, 0, none⟩), v.agg] w fun e w' => ∃ (gv : Value) (q : OB), e = .returned (.tuple #[.int .i64 ((h.l.length : Int) + 1), .nilIface]) ∧ (q.c = 1 ∧ q.p = v ∧ q.x = true ∧ q.m = 0 ∧ pr q.T = [] ∧ q.T.last = 0) ∧ h.To (h.more gv q) w w' := by
  have SS := hide H.start
  have HC := hide (fun (X : World) (TX : h.To h w X) => add_ok h v 1 0 none X TX.is (TX.tabs H hT) hl hz)
  rw [vagg] at *
  go_enter Tryz.func7, Tryz.ntmps7
  go_wp2_with (first | go_skip | ((with_reducible show wpList _ _ _ _ _ _); first | (refine zB 24 (v.cs) (by rfl) rfl rfl rfl SS ?_; clear SS; intro Xa Ba SS; simp only [Act.put, n1, n2, n3]) | (refine zL (v.cs) 24 5 1 rwV szV (by rfl) rfl rfl SS rfl rfl rfl ?_; simp only [Act.put, n1, n2, n3]) | (refine rd (by rfl) (ex_bOrd rfl) ?_; simp only [Act.put, n1, n2, n3])))
  refine (unhide HC _ (HP.To.end H (unhide SS) rfl)).mono ?_
  rintro _ Y ⟨gv, q, rfl, a1, a2, a3, a4, -, a5, a6, T1⟩
  replace SS := hide ((unhide SS).heap 0 rfl T1)
  have HA := hide (And.intro a1 (And.intro a2 (And.intro a3 (And.intro a4 (And.intro a5 a6)))))
  clear a1 a2 a3 a4 a5 a6 T1
  go_wp2
  go_ret2
  exact ⟨gv, q, rfl, unhide HA, HP.To.end H (unhide SS) rfl⟩
def newE (h : HP) (v : VV) (l : List OP) : Int := orE [checkE h.l.length v, protoE v, 0, wfE l, knOE h.l.length l, 0]
set_option maxRecDepth 100000 in
theorem callProto_any (v : VV) (w : World) : Calls Tryz.prog 23 #[v.agg] w fun e w' => e = .returned (.int .i64 (protoE v)) ∧ Below w.heap.size w w' := by
  unfold protoE
  have SS := hide (Sy.nil w [])
  rw [vagg]
  by_cases h2 : v.k = 2
  · rw [if_pos (.inl h2)]
    go_enter Tryz.func23, Tryz.ntmps23
    go_wp2_with (first | go_skip | ((with_reducible show wpList _ _ _ _ _ _); first | (refine zB 24 (v.cs) (by rfl) rfl rfl rfl SS ?_; clear SS; intro Xa Ba SS; simp only [Act.put, n1, n2, n3]) | (refine z1 3 Tryz.isAgg3 0 (by rfl) rfl rfl SS rfl rfl ?_; simp only [Act.put, n1, n2, n3]) | (refine rd (by rfl) (ex_neY rfl rfl rfl h2) ?_; simp only [Act.put, n1, n2, n3])))
    go_ret
    exact ⟨rfl, (unhide SS).fr.below⟩
  · by_cases h7 : v.k = 7
    · rw [if_pos (.inr h7)]
      go_enter Tryz.func23, Tryz.ntmps23
      go_wp2_with (first | go_skip | ((with_reducible show wpList _ _ _ _ _ _); first | (refine zB 24 (v.cs) (by rfl) rfl rfl rfl SS ?_; clear SS; intro Xa Ba SS; simp only [Act.put, n1, n2, n3]) | (refine z1 3 Tryz.isAgg3 0 (by rfl) rfl rfl SS rfl rfl ?_; simp only [Act.put, n1, n2, n3]) | (refine rd (by rfl) (ex_neY rfl rfl rfl h7) ?_; simp only [Act.put, n1, n2, n3]) | (refine rd (by rfl) (ex_neN rfl rfl rfl h2) ?_; simp only [Act.put, n1, n2, n3])))
      go_ret
      exact ⟨rfl, (unhide SS).fr.below⟩
    · rw [if_neg (fun h => h.elim h2 h7)]
      go_enter Tryz.func23, Tryz.ntmps23
      go_wp2_with (first | go_skip | ((with_reducible show wpList _ _ _ _ _ _); first | (refine zB 24 (v.cs) (by rfl) rfl rfl rfl SS ?_; clear SS; intro Xa Ba SS; simp only [Act.put, n1, n2, n3]) | (refine z1 3 Tryz.isAgg3 0 (by rfl) rfl rfl SS rfl rfl ?_; simp only [Act.put, n1, n2, n3]) | (refine rd (by rfl) (ex_neN rfl rfl rfl h2) ?_; simp only [Act.put, n1, n2, n3]) | (refine rd (by rfl) (ex_neN rfl rfl rfl h7) ?_; simp only [Act.put, n1, n2, n3])))
      go_ret
      exact ⟨rfl, (unhide SS).fr.below⟩
set_option maxHeartbeats 2000000 in
set_option maxRecDepth 100000 in
theorem new_O (h : HP) (v : VV) (Bl cl : Nat) (l : List OP) (ct : Bool) (w : World) (H : h.Is w) (hT : Tabs w) (hl : h.l.length ≤ 65536) (he : h.e.bs = []) (hBl : Holds w Bl (l.flatMap OP.cs)) (hltB : Bl < w.heap.size) (hout : Bl ∉ h.blocks) (hO : ∀ o ∈ l, OkO o) (hG : ∀ o ∈ l, o.e.g.k ≠ 7 ∧ o.e.s.k ≠ 7) (hn : l.length ≤ 256) (h0l : 0 < l.length) (hz2 : orE [checkE h.l.length v, protoE v, roomE h] = 0) : Calls Tryz.prog 8 #[.pointer (some ⟨h.b, 0, none⟩), v.agg, .slice (some ⟨Bl, 0, none⟩) l.length cl, .bool ct] w fun e w' => (e = .returned (.tuple #[.int .i64 0, ePair (newE h v l)]) ∧ newE h v l ≠ 0 ∧ h.To h w w') ∨ (newE h v l = 0 ∧ ∃ gv q g c, e = .returned (.tuple #[.int .i64 ((h.l.length : Int) + 1), .nilIface]) ∧ (q.c = 2 ∧ q.p = v ∧ q.x = true ∧ q.m = fm ct ∧ q.ow = some (81, pgV g c l ct) ∧ pr q.T = [] ∧ q.T.last = 0) ∧ h.To ((h.more gv q).wb w.heap.size g c l) w w') := by
  have SS := hide H.start
  have HBL := hide hBl
  have HRO : Hid (∀ X, Fr w X h.blocks → ReadsO X (some ⟨Bl, 0, none⟩) l) := hide (fun X k => readsO_holds (hBl.block (k.block Bl hltB hout)) hO)
  rw [vagg]
  go_enter Tryz.func8, Tryz.ntmps8
  go_wp2_with (first | go_skip | ((with_reducible show wpList _ _ _ _ _ _); first | (refine zB 24 (v.cs) (by rfl) rfl rfl rfl SS ?_; clear SS; intro Xa Ba SS; simp only [Act.put, n1, n2, n3])))
  have hS : Sy w _ h.blocks [boxO Ba v.cs, hpO h] := (Sy.back (unhide SS)).drew
  clear SS
  refine wp_region_held_drew (P := Tryz.prog) (S := fun X => Sy w X h.blocks _) (by kernel_rfl) (hS) (fun hS0 => ?_)
  refine gp 0 (some 11) (.pointer (some ⟨h.b, 0, none⟩)) rfl rfl (hS) ?_
  simp only [Act.put, n1, n2, n3]
  refine gq 1 (some 12) (.agg v.cs.toArray) rfl rfl (fun X hX => ex_loadN (vs := v.cs) 24 5 rwV szV rfl rfl (hX.hold 0 rfl) rfl rfl) (hS) ?_
  simp only [Act.put, n1, n2, n3]
  refine gq 3 (some 14) (.agg v.cs.toArray) rfl rfl (fun X hX => ex_loadN (vs := v.cs) 24 5 rwV szV rfl rfl (hX.hold 0 rfl) rfl rfl) (hS) ?_
  simp only [Act.put, n1, n2, n3]
  refine gp 5 (some 16) (.slice (some ⟨Bl, 0, none⟩) l.length cl) rfl rfl (hS) ?_
  simp only [Act.put, n1, n2, n3]
  refine gp 7 (some 18) (.slice (some ⟨Bl, 0, none⟩) l.length cl) rfl rfl (hS) ?_
  simp only [Act.put, n1, n2, n3]
  refine gp 9 (some 20) (.pointer (some ⟨h.b, 0, none⟩)) rfl rfl (hS) ?_
  simp only [Act.put, n1, n2, n3]
  refine gp 10 (some 21) (.slice (some ⟨Bl, 0, none⟩) l.length cl) rfl rfl (hS) ?_
  simp only [Act.put, n1, n2, n3]
  refine gp 12 (some 23) (.pointer (some ⟨h.b, 0, none⟩)) rfl rfl (hS) ?_
  simp only [Act.put, n1, n2, n3]
  refine gp 13 (some 24) (.slice (some ⟨Bl, 0, none⟩) l.length cl) rfl rfl (hS) ?_
  simp only [Act.put, n1, n2, n3]
  refine gr (rs := [2]) (gcB 2 (some 13) rfl rfl hS (check_h h v _ (hS.hp 1 rfl) (hT.fr hS.fr H.low).1) id ?_ gn)
  intro Yt1 hqt1
  simp only [Act.put, n1, n2, n3]
  refine gr (rs := [4]) (gcB 4 (some 15) rfl rfl hqt1 (callProto_any v _) id ?_ gn)
  intro Yt2 hqt2
  simp only [Act.put, n1, n2, n3]
  refine gr (rs := [6]) (gcB 6 (some 17) rfl rfl hqt2 (short_O (some ⟨Bl, 0, none⟩) cl l _ hn) id ?_ gn)
  intro Yt3 hqt3
  simp only [Act.put, n1, n2, n3]
  refine gr (rs := [8]) (gcB 8 (some 19) rfl rfl hqt3 (wellFormed_O (some ⟨Bl, 0, none⟩) cl l _ (unhide HRO _ hqt3.fr) (hT.fr hqt3.fr H.low).1) id ?_ gn)
  intro Yt4 hqt4
  simp only [Act.put, n1, n2, n3]
  refine gr (rs := [11]) (gcB 11 (some 22) rfl rfl hqt4 (known_O h (some ⟨Bl, 0, none⟩) cl l _ (hqt4.hp 1 rfl) (hT.fr hqt4.fr H.low).1 (unhide HRO _ hqt4.fr) hn) id ?_ gn)
  intro Yt5 hqt5
  simp only [Act.put, n1, n2, n3]
  refine gr (rs := [14]) (gcB 14 (some 25) rfl rfl hqt5 (callable_O h (some ⟨Bl, 0, none⟩) cl l _ (hqt5.hp 1 rfl) (hT.fr hqt5.fr H.low).1 hl (unhide HRO _ hqt5.fr) hn hG) id ?_ gn)
  intro Yt6 hqt6
  simp only [Act.put, n1, n2, n3]
  refine gr (rs := [15]) (gbsS 15 (some 26) rfl rfl (by kernel_rfl) (ex_bsE6 rfl rfl rfl rfl rfl rfl rfl) (Nat.succ_pos _) hqt6 (fun _ hZ => Sy.left (L := [_, _]) (M := [_]) hZ) ?_ gn)
  intro Yt7 Bt7 hEt7 hqt7
  clear hEt7
  simp only [Act.put, n1, n2, n3]
  refine gr (rs := [16]) (gcW 16 (some 27) rfl rfl (Sy.left (L := [_, _]) (M := [_]) hqt7) (or_any Bt7 6 [checkE h.l.length v, protoE v, 0, wfE l, knOE h.l.length l, 0] _ (hqt7.hold 2 rfl) (by simp)) ?_ gn)
  refine gp 17 (some 10) (.int .i64 (orE [checkE h.l.length v, protoE v, 0, wfE l, knOE h.l.length l, 0])) rfl rfl (Sy.left (L := [_, _]) (M := [_]) hqt7) ?_
  simp only [Act.put, n1, n2, n3]
  refine wpAnyH_done (by kernel_rfl) ?_ _
  try simp only [Act.put, n1, n2, n3]
  have SS := hide (Sy.front (L := [boxO Ba v.cs]) (Sy.left (L := [boxO Ba v.cs, hpO h]) (M := [boxO Bt7 (ints [checkE h.l.length v, protoE v, 0, wfE l, knOE h.l.length l, 0])]) hqt7))
  by_cases hz : newE h v l = 0
  · have hz1 : orE [checkE h.l.length v, protoE v, 0, wfE l, knOE h.l.length l, 0] = 0 := hz
    go_wp2_with (first | go_skip | ((with_reducible show wpList _ _ _ _ _ _); first | (refine rd (by rfl) (ex_neE0 rfl rfl rfl hz1) ?_; simp only [Act.put, n1, n2, n3])))
    have hS4 : Sy w _ h.blocks [hpO h, boxO Ba v.cs] := (unhide SS).drew
    clear SS
    refine wp_region_held_drew (P := Tryz.prog) (S := fun _ => True) (by kernel_rfl) (trivial) (fun hS0 => ?_)
    refine gp 0 (some 32) (.pointer (some ⟨h.b, 0, none⟩)) rfl rfl (trivial) ?_
    simp only [Act.put, n1, n2, n3]
    refine gp 2 (some 34) (.bool ct) rfl rfl (trivial) ?_
    simp only [Act.put, n1, n2, n3]
    refine gp 4 (some 36) (.slice (some ⟨Bl, 0, none⟩) l.length cl) rfl rfl (trivial) ?_
    simp only [Act.put, n1, n2, n3]
    refine gp 6 (some 38) (.bool ct) rfl rfl (trivial) ?_
    simp only [Act.put, n1, n2, n3]
    refine gr (rs := [1, 3]) (gv 1 (some 33) rfl rfl (ex_loadN (vs := v.cs) 24 5 rwV szV rfl rfl (hS4.hold 1 rfl) rfl rfl) (trivial) ?_ (gc 3 (some 35) rfl rfl (methods_any ct _) ?_ gn))
    · simp only [Act.put, n1, n2, n3]
      refine gr (rs := [3]) (gc 3 (some 35) rfl rfl (methods_any ct _) ?_ gn)
      rintro e Yu2 ⟨rfl, rfl⟩
      refine ⟨_, rfl, trivial, ?_⟩
      simp only [Act.put, n1, n2, n3]
      refine gr (rs := [5]) (gc 5 (some 37) rfl rfl (cloneO Bl cl l _ ((unhide HBL).block (hS4.fr.block Bl hltB hout)) (Nat.lt_of_lt_of_le hltB hS4.fr.size) hn) ?_ gn)
      rintro e Yu3 ⟨v', rfl, hOcu3, hYcu3⟩
      obtain ⟨g, c, rfl⟩ : ∃ g c, v' = .slice (some ⟨g, 0, none⟩) l.length c := by
        obtain ⟨g, c, e1, -⟩ := own_row (f := OP.cs) (fun _ => rfl) hOcu3 rfl 0 h0l
        exact ⟨g, c, e1⟩
      have hqu3 := Sy.addRow hS4 hOcu3 hYcu3 hS4.fr.size (base := w.heap.size)
      clear hOcu3 hYcu3
      refine ⟨_, rfl, trivial, ?_⟩
      refine gq 7 (some 39) (.agg (pgC g c l.length ct).toArray) rfl rfl (fun X hX => ex_bPg g c l.length ct rfl rfl rfl) (trivial) ?_
      simp only [Act.put, n1, n2, n3]
      refine gp 8 (some 40) (.iface 81 (.agg (pgC g c l.length ct).toArray)) rfl rfl (trivial) ?_
      simp only [Act.put, n1, n2, n3]
      refine gr (rs := [9]) (gc 9 (some 41) rfl rfl (add_ok h v 2 (fm ct) (some (81, pgV g c l ct)) _ (hqu3.hp 0 rfl) (hT.fr hqu3.fr H.low) hl hz2) ?_ gn)
      rintro e Yu4 ⟨gv, q, rfl, a1, a2, a3, a4, a5, a6, a7, Tu4⟩
      have hqu4 := Sy.heap hqu3 0 rfl Tu4
      clear Tu4
      refine ⟨_, rfl, trivial, ?_⟩
      refine gp 10 (some 42) (.int .i64 ((h.l.length : Int) + 1)) rfl rfl (trivial) ?_
      simp only [Act.put, n1, n2, n3]
      refine gp 11 (some 43) (.nilIface) rfl rfl (trivial) ?_
      simp only [Act.put, n1, n2, n3]
      refine gp 12 (some 8) (.int .i64 ((h.l.length : Int) + 1)) rfl rfl (trivial) ?_
      simp only [Act.put, n1, n2, n3]
      refine gp 13 (some 9) (.nilIface) rfl rfl (trivial) ?_
      simp only [Act.put, n1, n2, n3]
      refine wpAnyH_done (by kernel_rfl) ?_ _
      try simp only [Act.put, n1, n2, n3]
      have SS := hide hqu4
      have HA := hide (And.intro a1 (And.intro a2 (And.intro a3 (And.intro a4 (And.intro a5 (And.intro a6 a7))))))
      clear a1 a2 a3 a4 a5 a6 a7
      go_wp2
      go_ret2
      exact .inr ⟨hz, gv, q, g, c, rfl, unhide HA, wb_end H (Sy.swap (L := [boxO Ba v.cs]) (unhide SS)) he rfl⟩
    · rintro e Yu5 ⟨rfl, rfl⟩
      refine ⟨_, rfl, trivial, ?_⟩
      simp only [Act.put, n1, n2, n3]
      refine gr (rs := [1, 5]) (gv 1 (some 33) rfl rfl (ex_loadN (vs := v.cs) 24 5 rwV szV rfl rfl (hS4.hold 1 rfl) rfl rfl) (trivial) ?_ (gc 5 (some 37) rfl rfl (cloneO Bl cl l _ ((unhide HBL).block (hS4.fr.block Bl hltB hout)) (Nat.lt_of_lt_of_le hltB hS4.fr.size) hn) ?_ gn))
      · simp only [Act.put, n1, n2, n3]
        refine gr (rs := [5]) (gc 5 (some 37) rfl rfl (cloneO Bl cl l _ ((unhide HBL).block (hS4.fr.block Bl hltB hout)) (Nat.lt_of_lt_of_le hltB hS4.fr.size) hn) ?_ gn)
        rintro e Yu7 ⟨v', rfl, hOcu7, hYcu7⟩
        obtain ⟨g, c, rfl⟩ : ∃ g c, v' = .slice (some ⟨g, 0, none⟩) l.length c := by
          obtain ⟨g, c, e1, -⟩ := own_row (f := OP.cs) (fun _ => rfl) hOcu7 rfl 0 h0l
          exact ⟨g, c, e1⟩
        have hqu7 := Sy.addRow hS4 hOcu7 hYcu7 hS4.fr.size (base := w.heap.size)
        clear hOcu7 hYcu7
        refine ⟨_, rfl, trivial, ?_⟩
        refine gq 7 (some 39) (.agg (pgC g c l.length ct).toArray) rfl rfl (fun X hX => ex_bPg g c l.length ct rfl rfl rfl) (trivial) ?_
        simp only [Act.put, n1, n2, n3]
        refine gp 8 (some 40) (.iface 81 (.agg (pgC g c l.length ct).toArray)) rfl rfl (trivial) ?_
        simp only [Act.put, n1, n2, n3]
        refine gr (rs := [9]) (gc 9 (some 41) rfl rfl (add_ok h v 2 (fm ct) (some (81, pgV g c l ct)) _ (hqu7.hp 0 rfl) (hT.fr hqu7.fr H.low) hl hz2) ?_ gn)
        rintro e Yu8 ⟨gv, q, rfl, a1, a2, a3, a4, a5, a6, a7, Tu8⟩
        have hqu8 := Sy.heap hqu7 0 rfl Tu8
        clear Tu8
        refine ⟨_, rfl, trivial, ?_⟩
        refine gp 10 (some 42) (.int .i64 ((h.l.length : Int) + 1)) rfl rfl (trivial) ?_
        simp only [Act.put, n1, n2, n3]
        refine gp 11 (some 43) (.nilIface) rfl rfl (trivial) ?_
        simp only [Act.put, n1, n2, n3]
        refine gp 12 (some 8) (.int .i64 ((h.l.length : Int) + 1)) rfl rfl (trivial) ?_
        simp only [Act.put, n1, n2, n3]
        refine gp 13 (some 9) (.nilIface) rfl rfl (trivial) ?_
        simp only [Act.put, n1, n2, n3]
        refine wpAnyH_done (by kernel_rfl) ?_ _
        try simp only [Act.put, n1, n2, n3]
        have SS := hide hqu8
        have HA := hide (And.intro a1 (And.intro a2 (And.intro a3 (And.intro a4 (And.intro a5 (And.intro a6 a7))))))
        clear a1 a2 a3 a4 a5 a6 a7
        go_wp2
        go_ret2
        exact .inr ⟨hz, gv, q, g, c, rfl, unhide HA, wb_end H (Sy.swap (L := [boxO Ba v.cs]) (unhide SS)) he rfl⟩
      · rintro e Yu9 ⟨v', rfl, hOcu9, hYcu9⟩
        obtain ⟨g, c, rfl⟩ : ∃ g c, v' = .slice (some ⟨g, 0, none⟩) l.length c := by
          obtain ⟨g, c, e1, -⟩ := own_row (f := OP.cs) (fun _ => rfl) hOcu9 rfl 0 h0l
          exact ⟨g, c, e1⟩
        have hqu9 := Sy.addRow hS4 hOcu9 hYcu9 hS4.fr.size (base := w.heap.size)
        clear hOcu9 hYcu9
        refine ⟨_, rfl, trivial, ?_⟩
        refine gq 7 (some 39) (.agg (pgC g c l.length ct).toArray) rfl rfl (fun X hX => ex_bPg g c l.length ct rfl rfl rfl) (trivial) ?_
        simp only [Act.put, n1, n2, n3]
        refine gp 8 (some 40) (.iface 81 (.agg (pgC g c l.length ct).toArray)) rfl rfl (trivial) ?_
        simp only [Act.put, n1, n2, n3]
        refine gr (rs := [1]) (gv 1 (some 33) rfl rfl (ex_loadN (vs := v.cs) 24 5 rwV szV rfl rfl (hqu9.hold 1 rfl) rfl rfl) (trivial) ?_ gn)
        simp only [Act.put, n1, n2, n3]
        refine gr (rs := [9]) (gc 9 (some 41) rfl rfl (add_ok h v 2 (fm ct) (some (81, pgV g c l ct)) _ (hqu9.hp 0 rfl) (hT.fr hqu9.fr H.low) hl hz2) ?_ gn)
        rintro e Yu11 ⟨gv, q, rfl, a1, a2, a3, a4, a5, a6, a7, Tu11⟩
        have hqu11 := Sy.heap hqu9 0 rfl Tu11
        clear Tu11
        refine ⟨_, rfl, trivial, ?_⟩
        refine gp 10 (some 42) (.int .i64 ((h.l.length : Int) + 1)) rfl rfl (trivial) ?_
        simp only [Act.put, n1, n2, n3]
        refine gp 11 (some 43) (.nilIface) rfl rfl (trivial) ?_
        simp only [Act.put, n1, n2, n3]
        refine gp 12 (some 8) (.int .i64 ((h.l.length : Int) + 1)) rfl rfl (trivial) ?_
        simp only [Act.put, n1, n2, n3]
        refine gp 13 (some 9) (.nilIface) rfl rfl (trivial) ?_
        simp only [Act.put, n1, n2, n3]
        refine wpAnyH_done (by kernel_rfl) ?_ _
        try simp only [Act.put, n1, n2, n3]
        have SS := hide hqu11
        have HA := hide (And.intro a1 (And.intro a2 (And.intro a3 (And.intro a4 (And.intro a5 (And.intro a6 a7))))))
        clear a1 a2 a3 a4 a5 a6 a7
        go_wp2
        go_ret2
        exact .inr ⟨hz, gv, q, g, c, rfl, unhide HA, wb_end H (Sy.swap (L := [boxO Ba v.cs]) (unhide SS)) he rfl⟩
  · have hz1 : orE [checkE h.l.length v, protoE v, 0, wfE l, knOE h.l.length l, 0] ≠ 0 := hz
    go_wp2_with (first | go_skip | ((with_reducible show wpList _ _ _ _ _ _); first | (refine rd (by rfl) (ex_neE1 rfl rfl rfl hz1) ?_; simp only [Act.put, n1, n2, n3])))
    go_ret2
    exact .inl ⟨rfl, hz, HP.To.end H (unhide SS) rfl⟩
