import Derived.Test.YthilnaeomkppaaaGreatFmtRm
set_option linter.all false
namespace Go.Proofs.YthilnaeomkppaaaGreatFmt
set_option maxHeartbeats 1000000
section
open Go Go.Proofs Go.Maps Go.RowKit FM
attribute [local go_sem] mm_DefineOwnProperty ta_caller
theorem ex_c32 {o : Oper} {a : Act} {w : World} {x : Operand} {n : Nat} (ho : o.op = .convert 3 56 x) (hx : a.eval x = .int .i64 (n : Nat)) (hn : n ≤ 4294967295) : (execOp a.eval o).run Tryz.prog w = .ok (.value (.int .u32 (n : Nat))) w := by
  have e : IntKind.u32.wrap (n : Int) = (n : Int) := by rw [IntKind.wrap_u32]; omega
  unfold execOp
  simp only [ho, hx]
  simp [go_sem, convert, e]
theorem ex_opn {o : Oper} {a : Act} {w : World} {x c1 c2 c3 : Operand} (v : VV) (ho : o.op = .build 47 #[(0, x), (3, c1), (4, c2), (5, c3)]) (hx : a.eval x = .agg v.cs.toArray) (h1 : a.eval c1 = .int .i64 2) (h2 : a.eval c2 = .int .i64 2) (h3 : a.eval c3 = .int .i64 2) : (execOp a.eval o).run Tryz.prog w = .ok (.value (.agg (opnD v).cs.toArray)) w := by
  have e : (Instr.build 47 #[(0, .agg v.cs.toArray), (3, .int .i64 2), (4, .int .i64 2), (5, .int .i64 2)]).run Tryz.prog w = .ok (.agg (opnD v).cs.toArray) w := by kernel_rfl
  unfold execOp
  simp only [ho, List.map_toArray, List.map_cons, List.map_nil, hx, h1, h2, h3]
  simp [e]
theorem kn_zero {n : Nat} {vs : List VV} (h : knE n vs = 0) {i : Nat} {v : VV} (hv : vs[i]? = some v) : v.good = true := by
  have h1 := orE_zero h (checkE n v) (List.mem_map.2 ⟨v, List.mem_of_getElem? hv, rfl⟩)
  unfold checkE at h1
  cases hg : v.good with
  | true => rfl
  | false => rw [hg] at h1; cases h1
/-- The array under way: its length, and the first elements. -/
def LayI (h : HP) (vs : List VV) (w : World) (Ba i : Nat) (wr : World) : Prop := ∃ (gv : Value) (q : OB), q.c = 3 ∧ q.x = true ∧ pr q.T = arrL vs.length (vs.take i) ∧ q.T.last ≤ 1 + i ∧ Sy w wr h.blocks [hpO (h.more gv q), boxO Ba nullV.cs]
theorem lay_step {h h1 : HP} {gv : Value} {q : OB} {vs : List VV} {i : Nat} {v : VV} {y : Bool} (hv : vs[i]? = some v) (hg : v.good = true) (hx : q.x = true) (hp : pr q.T = arrL vs.length (vs.take i)) (hP : DefP (h.more gv q) h.l.length q (idxK i) (opnD v) h1 y) : ∃ T' : TT, h1 = h.more gv { q with T := T' } ∧ pr T' = arrL vs.length (vs.take (i + 1)) ∧ T'.last ≤ q.T.last + 1 := by
  have hlt := (List.getElem?_eq_some_iff.1 hv).1
  have hlen : (vs.take i).length = i := by rw [List.length_take]; omega
  have hz : getD q.T (idxK i) = zeroD := arr_get_none hp (by omega)
  unfold DefP at hP
  rw [hz, hx, (app_opn hg).1, (app_opn hg).2] at hP
  obtain ⟨rfl, hP⟩ := hP
  rcases hP with ⟨h0, _⟩ | ⟨_, T', rfl, hla, hpr⟩
  · cases h0
  · refine ⟨T', more_tab h gv q T', ?_, hla⟩
    have hput := arr_put vs.length (vs.take i) v
    rw [hlen] at hput
    rw [hpr, hp, hput, List.take_add_one, hv]
    rfl
set_option maxHeartbeats 2000000 in
set_option maxRecDepth 100000 in
theorem of_good (h : HP) (B : Option Addr) (c : Nat) (vs : List VV) (w : World) (H : h.Is w) (hT : Tabs w) (HRV : ∀ {X : World}, Fr w X h.blocks → ReadsV X B vs) (hz2 : vs.length ≤ 2000) (hX64 : ∀ (i : Nat) (v : VV), vs[i]? = some v → v.x < 2 ^ 64) (hl : h.l.length ≤ 65535) (hroom : orE [checkE h.l.length nullV, protoE nullV, roomE h] = 0) (hc : knE h.l.length vs = 0) : Calls Tryz.prog 6 #[.pointer (some ⟨h.b, 0, none⟩), nullV.agg, .slice B vs.length c] w fun e w' => ∃ (gv : Value) (q : OB), e = .returned (.tuple #[.int .i64 ((h.l.length : Int) + 1), .nilIface]) ∧ q.c = 3 ∧ q.x = true ∧ pr q.T = arrL vs.length vs ∧ q.T.last ≤ 1 + vs.length ∧ h.To (h.more gv q) w w' := by
  have hz : vs.length ≤ 1000000 := by omega
  have SS := hide H.start
  have hR := HRV (Fr.refl w h.blocks)
  rw [show nullV.agg = .agg nullV.cs.toArray from rfl]
  go_enter Tryz.func6, Tryz.ntmps6
  go_wp2_with (first | go_skip | ((with_reducible show wpList _ _ _ _ _ _); first | (refine zB 34 (nullV.cs) (by rfl) rfl rfl rfl SS ?_; clear SS; intro Xa Ba SS; simp only [Act.put, n1, n2, n3])))
  have hS1 : Sy w _ h.blocks [hpO h, boxO Ba nullV.cs] := (unhide SS).drew
  clear SS
  refine wp_region_held_drew (P := Tryz.prog) (S := fun X => Sy w X h.blocks _) (by kernel_rfl) (hS1) (fun hS0 => ?_)
  refine gp 0 (some 13) (.pointer (some ⟨h.b, 0, none⟩)) rfl rfl (hS1) ?_
  simp only [Act.put, n1, n2, n3]
  refine gq 1 (some 14) (.agg (nullV.cs).toArray) rfl rfl (fun X hX => ex_loadN (vs := nullV.cs) 34 5 rwV szV rfl rfl (hX.hold 1 rfl) rfl rfl) (hS1) ?_
  simp only [Act.put, n1, n2, n3]
  refine gq 3 (some 16) (.agg (nullV.cs).toArray) rfl rfl (fun X hX => ex_loadN (vs := nullV.cs) 34 5 rwV szV rfl rfl (hX.hold 1 rfl) rfl rfl) (hS1) ?_
  simp only [Act.put, n1, n2, n3]
  refine gp 5 (some 18) (.pointer (some ⟨h.b, 0, none⟩)) rfl rfl (hS1) ?_
  simp only [Act.put, n1, n2, n3]
  refine gp 6 (some 19) (.slice B vs.length c) rfl rfl (hS1) ?_
  simp only [Act.put, n1, n2, n3]
  refine gr (rs := [2]) (gcB 2 (some 15) rfl rfl hS1 (check_h h nullV _ (hS1.hp 0 rfl) (hT.fr hS1.fr H.low).1) id ?_ gn)
  intro Yt1 hqt1
  simp only [Act.put, n1, n2, n3]
  refine gr (rs := [4]) (gcB 4 (some 17) rfl rfl hqt1 (aproto_null _) id ?_ gn)
  intro Yt2 hqt2
  simp only [Act.put, n1, n2, n3]
  refine gr (rs := [7]) (gcB 7 (some 20) rfl rfl hqt2 (aknown_h h B c vs _ (hqt2.hp 0 rfl) (hT.fr hqt2.fr H.low).1 (HRV hqt2.fr) hz) id ?_ gn)
  intro Yt3 hqt3
  simp only [Act.put, n1, n2, n3]
  refine gr (rs := [8]) (gbsS 8 (some 21) rfl rfl (by kernel_rfl) (ex_bsE3 rfl rfl rfl rfl) (Nat.succ_pos _) hqt3 (fun _ hZ => Sy.left (L := [_, _]) (M := [_]) hZ) ?_ gn)
  intro Yt4 Bt4 hEt4 hqt4
  clear hEt4
  simp only [Act.put, n1, n2, n3]
  refine gr (rs := [9]) (gcW 9 (some 22) rfl rfl (Sy.left (L := [_, _]) (M := [_]) hqt4) (or_any Bt4 3 [checkE h.l.length nullV, 0, knE h.l.length vs] _ (hqt4.hold 2 rfl) (by simp)) ?_ gn)
  refine gp 10 (some 8) (.int .i64 (orE [checkE h.l.length nullV, 0, knE h.l.length vs])) rfl rfl (Sy.left (L := [_, _]) (M := [_]) hqt4) ?_
  simp only [Act.put, n1, n2, n3]
  refine wpAnyH_done (by kernel_rfl) ?_ _
  try simp only [Act.put, n1, n2, n3]
  have SS := hide (Sy.left (L := [hpO h, boxO Ba nullV.cs]) (M := [boxO Bt4 (ints [checkE h.l.length nullV, 0, knE h.l.length vs])]) hqt4)
  rw [or_kn]
  have hN : vs.length ≤ 4294967295 := by omega
  go_wp2_with (first | go_skip | ((with_reducible show wpList _ _ _ _ _ _); first | (refine rd (by rfl) (ex_neE0 rfl rfl rfl hc) ?_; simp only [Act.put, n1, n2, n3]) | (refine zL (nullV.cs) 34 5 1 rwV szV (by rfl) rfl rfl SS rfl rfl rfl ?_; simp only [Act.put, n1, n2, n3]) | (refine rd (by rfl) (ex_lenG 22 34 Tryz.underlying22 rfl rfl) ?_; simp only [Act.put, n1, n2, n3]) | (refine rd (by rfl) (ex_c32 rfl rfl hN) ?_; simp only [Act.put, n1, n2, n3])))
  have HC := aadd_h h nullV vs.length _ ((unhide SS).hp 0 rfl) (hT.fr (unhide SS).fr H.low) hl hroom (.inl hz2)
  rw [show nullV.agg = .agg nullV.cs.toArray from rfl] at HC
  refine HC.mono ?_
  clear HC
  rintro _ Y ⟨gv, q, rfl, a1, a2, a3, a4, a5, T1⟩
  have HI0 : Hid (LayI h vs w Ba 0 Y) := hide ⟨gv, q, a1, a3, a4, a5, (unhide SS).heap 0 rfl T1⟩
  clear SS a1 a2 a3 a4 a5 T1
  go_wp2_with (first | go_skip | ((with_reducible show wpList _ _ _ _ _ _); first | (refine rd (by rfl) (ex_lenG 22 34 Tryz.underlying22 rfl rfl) ?_; simp only [Act.put, n1, n2, n3])))
  go_loopg [41] vs.length (fun gm s41 wr => ∃ i : Nat, s41 = .int .i64 (i : Nat) ∧ i ≤ vs.length ∧ vs.length - i ≤ gm ∧ Hid (LayI h vs w Ba i wr))
  case atStart => exact ⟨0, rfl, by omega, by omega, HI0⟩
  case round =>
    clear HI0
    obtain ⟨i, rfl, hil, hgm, HI⟩ := hrel
    by_cases hlt : i < vs.length
    · have dlt : decide ((i : Int) < (vs.length : Int)) = true := decide_eq_true (by omega)
      have hw1 : IntKind.i64.wrap ((i : Int) + 1) = (i : Int) + 1 := by rw [IntKind.wrap_i64]; omega
      have hi32 : i ≤ 4294967295 := by omega
      obtain ⟨v, hv⟩ : ∃ v, vs[i]? = some v := ⟨_, List.getElem?_eq_getElem hlt⟩
      have HG := hide (kn_zero hc hv)
      obtain ⟨b, off, hA, hb, hrg⟩ := hR i v hv
      have HA2 : Hid (∀ X : World, Fr w X h.blocks → X.rangeAt b (off + i * 5) v.cs) := hide (fun X k => by
        obtain ⟨b2, off2, hA2, _, hr2⟩ := (HRV k) i v hv
        rw [hA] at hA2
        obtain ⟨rfl, rfl⟩ : b = b2 ∧ off = off2 := by simpa using hA2
        exact hr2)
      subst hA
      obtain ⟨gv, q, hq3, hqx, hqp0, hqla, hS⟩ := unhide HI
      have SS := hide hS
      clear hS HI
      have HLA := hide hqla
      have hla0 : q.T.last < 4000000 := by omega
      have HLT := hide hlt
      clear hb hrg hlt hil
      go_wp2_with (first | go_skip | ((with_reducible show wpList _ _ _ _ _ _); first | (refine rd (by rfl) (ex_indexG 22 5 i unVs idVs rfl rfl rfl (unhide HLT)) ?_; simp only [Act.put, n1, n2, n3]) | (refine rd (by rfl) (ex_loadR (vs := v.cs) 34 5 rwV szV rfl rfl (unhide HA2 _ (unhide SS).fr) rfl) ?_; simp only [Act.put, n1, n2, n3]) | (refine zA 34 (zeroV.cs) (by rfl) rfl SS ?_; clear SS; intro Xv Bv SS; simp only [Act.put, n1, n2, n3]) | (refine zS (v.cs) 2 34 (by rfl) rfl rfl rfl rfl (oneV v) szV SS rfl ?_; clear SS; intro X4 SS; simp only [Act.put, n1, n2, n3])))
      have hS9 : Sy w _ h.blocks [hpO (h.more gv q), boxO Ba nullV.cs, boxO Bv v.cs] := (unhide SS).drew
      clear SS
      have hl2 : (h.more gv q).l.length ≤ 65536 := by show (h.l ++ [q]).length ≤ 65536; simp; omega
      have hok := idx_ok (u := i) (by have := unhide HLT; omega)
      have hgd := idx_good (u := i) (by have := unhide HLT; omega)
      have hFn : FD (getD q.T (idxK i)) := by rw [arr_get_none hqp0 (by rw [List.length_take]; omega)]; exact zero_FD
      have hFd : FD (opnD v) := ⟨hX64 i v hv, show 0 < 2 ^ 64 by decide, show 0 < 2 ^ 64 by decide⟩
      refine wp_region_held_drew (P := Tryz.prog) (S := fun X => Holds X Bv v.cs) (by kernel_rfl) (hS9.hold 2 rfl) (fun hS0 => ?_)
      refine gq 0 (some 46) (.agg #[]) rfl rfl (fun X hX => ex_bM rfl) (hS9.hold 2 rfl) ?_
      simp only [Act.put, n1, n2, n3]
      refine gp 1 (some 47) (.pointer (some ⟨h.b, 0, none⟩)) rfl rfl (hS9.hold 2 rfl) ?_
      simp only [Act.put, n1, n2, n3]
      refine gp 2 (some 48) (.int .i64 ((h.l.length : Int) + 1)) rfl rfl (hS9.hold 2 rfl) ?_
      simp only [Act.put, n1, n2, n3]
      refine gp 3 (some 49) (.int .i64 (i : Nat)) rfl rfl (hS9.hold 2 rfl) ?_
      simp only [Act.put, n1, n2, n3]
      refine gq 4 (some 50) (.int .u32 (i : Nat)) rfl rfl (fun X hX => ex_c32 rfl rfl hi32) (hS9.hold 2 rfl) ?_
      simp only [Act.put, n1, n2, n3]
      refine gq 6 (some 52) (.agg v.cs.toArray) rfl rfl (fun X hX => ex_loadN (vs := v.cs) 34 5 rwV szV rfl rfl hX rfl rfl) (hS9.hold 2 rfl) ?_
      simp only [Act.put, n1, n2, n3]
      refine gq 7 (some 53) (.agg (opnD v).cs.toArray) rfl rfl (fun X hX => ex_opn v rfl rfl rfl rfl rfl) (hS9.hold 2 rfl) ?_
      simp only [Act.put, n1, n2, n3]
      refine gr (rs := [5]) (gc 5 (some 51) rfl rfl (fromIndex32 i hi32 _ (hT.fr hS9.fr H.low).2) ?_ gn)
      rintro e Yt1 ⟨rfl, hYt1⟩
      have hqt1 := Sy.on hS9 hYt1
      refine ⟨_, rfl, hqt1.hold 2 rfl, ?_⟩
      simp only [Act.put, n1, n2, n3]
      refine gr (rs := [8]) (gc 8 (some 54) rfl rfl (lay_h (h.more gv q) h.l.length q (idxK i) (opnD v) _ (hqt1.hp 0 rfl) hl2 (more_last h gv q) (hT.fr hqt1.fr H.low) hok hgd hFn hFd hla0) ?_ gn)
      rintro e Yt2 ⟨h1, y, rfl, hP, T3⟩
      have hqp := Sy.heap hqt1 0 rfl T3
      refine ⟨_, rfl, hqp.hold 2 rfl, ?_⟩
      refine wpAnyH_done (by kernel_rfl) ?_ _
      try simp only [Act.put, n1, n2, n3]
      obtain ⟨T', rfl, hpr, hla⟩ := lay_step hv (unhide HG) hqx hqp0 hP
      have HI2 : Hid (LayI h vs w Ba (i + 1) _) := hide ⟨gv, { q with T := T' }, hq3, hqx, hpr, (by have := hla; have := unhide HLA; show T'.last ≤ _; omega), Sy.left (L := [_, _]) (M := [_]) hqp⟩
      clear hqp hP T3 hpr hla
      go_wp2
      go_roundg (vs.length - (i + 1))
      case measure => have := unhide HLT; omega
      case rel => exact ⟨i + 1, by go_num, by have := unhide HLT; omega, by omega, HI2⟩
    · obtain rfl : i = vs.length := by omega
      clear hlt hil
      go_wp2
      go_ret2
      obtain ⟨gv, q, hq3, hqx, hqp0, hqla, hS⟩ := unhide HI
      exact ⟨gv, q, rfl, hq3, hqx, (by rw [hqp0, List.take_length]), hqla, HP.To.end H hS rfl⟩
end
section
open Go Go.Proofs Go.Maps Go.RowKit FM
theorem find_idx {vs : List VV} {k i : Nat} {v : VV} (hv : vs[i]? = some v) : (vs.mapIdx (fun j x => (idxK (j + k), opnD x))).find? (fun e => decide (e.1 = idxK (i + k))) = some (idxK (i + k), opnD v) := by
  induction vs generalizing i k with
  | nil => cases hv
  | cons x t ih =>
    rw [List.mapIdx_cons]
    cases i with
    | zero =>
      obtain rfl : x = v := by simpa using hv
      simp
    | succ m =>
      have hne : ¬ idxK (0 + k) = idxK (m + 1 + k) := fun h => by have := idx_inj h; omega
      rw [List.find?_cons_of_neg (by simpa using hne)]
      have h2 := ih (k := k + 1) (i := m) (by simpa using hv)
      have e1 : (fun (j : Nat) (x : VV) => (idxK (j + 1 + k), opnD x)) = (fun j x => (idxK (j + (k + 1)), opnD x)) := by
        funext j x
        rw [show j + 1 + k = j + (k + 1) by omega]
      rw [e1, show m + 1 + k = m + (k + 1) by omega]
      exact h2
theorem arr_get {T : TT} {n : Nat} {vs : List VV} {i : Nat} {v : VV} (hT : pr T = arrL n vs) (hv : vs[i]? = some v) : getD T (idxK i) = opnD v := by
  rw [pr_get, hT]
  unfold arrL lkP
  have hne : ¬ lenK = idxK i := fun h => idx_len i h.symm
  rw [List.find?_cons_of_neg (by simpa using hne)]
  have := find_idx (k := 0) hv
  simp only [Nat.add_zero] at this
  rw [this]
  rfl
theorem arr_turn (n m : Nat) (vs : List VV) : putP (arrL n vs) lenK (lenD m) = arrL m vs := by
  have hh : hasP (arrL n vs) lenK = true := by unfold hasP arrL; simp
  unfold putP
  rw [hh]
  unfold arrL
  simp only [List.map_cons, if_true]
  congr 1
  refine (List.map_congr_left (fun e he => ?_)).trans (List.map_id _)
  obtain ⟨i, hi, he2⟩ := List.mem_mapIdx.1 he
  have : ¬ e.1 = lenK := by rw [← he2]; exact idx_len i
  rw [if_neg this]
  rfl
end
section
open Go Go.Proofs Go.Maps Go.RowKit FM
attribute [local go_sem] mm_DefineOwnProperty ta_caller
theorem flat_put {α : Type} (f : α → List Value) (k : Nat) (hk : ∀ a, (f a).length = k) {l : List α} {j : Nat} {x x' : α} {p : Nat} {vs : List Value} (hx : l[j]? = some x) (hp : p + vs.length ≤ k) (he : cput (f x) p vs = f x') : cput (l.flatMap f) (0 + j * k + p) vs = (l.set j x').flatMap f := by
  obtain ⟨hj, rfl⟩ := List.getElem?_eq_some_iff.1 hx
  have e1 : l = l.take j ++ l[j] :: l.drop (j + 1) := by
    conv => lhs; rw [← List.take_append_drop j l, List.drop_eq_getElem_cons hj]
  have e2 : l.set j x' = l.take j ++ x' :: l.drop (j + 1) := by rw [List.set_eq_take_append_cons_drop, if_pos hj]
  rw [e2]
  conv => lhs; rw [e1]
  rw [List.flatMap_append, List.flatMap_cons, List.flatMap_append, List.flatMap_cons]
  have e3 : ((l.take j).flatMap f).length = j * k := by rw [flat_len f k hk, List.length_take, Nat.min_eq_left (by omega)]
  rw [Nat.zero_add, ← e3, cput_app, cput_left _ _ _ _ (by rw [hk]; exact hp), he]
theorem own_there {W : World} {base e s n g c p m : Nat} {xs : List Value} (h : W.ownsRow base e s (.slice (some ⟨g, 0, none⟩) n c) n xs) (hp : p + m ≤ xs.length) : W.there g p m := by
  rcases h.2 with ⟨e1, -⟩ | ⟨g', cap, cur, e1, -, h6, h7, h8, h9, h10⟩
  · cases e1
  · cases e1
    intro t ht
    refine ⟨?_, by simp [World.frozen?, h6]⟩
    have hl : xs.length ≤ cur.size := by rw [← h10, List.length_take, Array.length_toList]; exact Nat.min_le_right _ _
    have : (⟨g, p, none⟩ : Addr).block = g := rfl
    simp only [World.cell?, h6]
    simp
    omega
theorem made_flat (n : Nat) : (madeCells zeroV.agg.cells (n * 5)).toList = (List.replicate n zeroV).flatMap VV.cs := by
  apply List.ext_getElem?
  intro i
  by_cases hi : i < n * 5
  · have hq : i / 5 < n := by omega
    have e : i = i / 5 * 5 + i % 5 := by omega
    have h2 := flat_get VV.cs 5 (fun _ => rfl) (List.replicate n zeroV) (i / 5) (i % 5) (by simpa using hq) (by omega)
    rw [← e] at h2
    rw [h2]
    simp only [List.getElem_replicate]
    have h3 : (madeCells zeroV.agg.cells (n * 5)).toList[i]? = some (zeroV.agg.cells[i % zeroV.agg.cells.size]!) := by
      unfold madeCells
      simp [hi]
    rw [h3]
    have hs : zeroV.agg.cells.size = 5 := by kernel_rfl
    rw [hs]
    have h5 : i % 5 < 5 := by omega
    generalize i % 5 = r at h5
    match r, h5 with
    | 0, _ => rfl
    | 1, _ => rfl
    | 2, _ => rfl
    | 3, _ => rfl
    | 4, _ => rfl
  · rw [List.getElem?_eq_none (by rw [Array.length_toList, size_madeCells]; omega), List.getElem?_eq_none (by rw [flat_len VV.cs 5 (fun _ => rfl)]; simp; omega)]
theorem infV : (Tryz.prog.info? 34).map (fun i => (i.zero, i.size, i.bytes)) = some (some zeroV.agg, 5, 48) := by kernel_rfl
section
variable {ops : Array Oper} {rest : List Oper} {Q : Exit → Act → World → Prop} {w w0 : World} {a : Act} {o : Oper} {E : List Nat} {L : List Ob}
/-- A store into an element of a row. -/
theorem stE {α : Type} (f : α → List Value) (k : Nat) (hk : ∀ a, (f a).length = k) {base ety g c n j p q : Nat} {l : List α} {x' x0 : α} {vs : List Value} {v : Value} {x y : Operand} (i : Nat) (ty : TypeId) (hw : Region.wanted o (yielded ops a.tmps) = true) (ho : o.op = .store ty x y) (hx : a.eval x = .pointer (some ⟨g, q, none⟩)) (hy : a.eval y = v)
    (hv : v.cells.toList = vs) (h1 : ∀ u ∈ vs, u.oneCell' = true) (hi : (Tryz.prog.info? ty).map (·.size) = some vs.length) (hL : Sy w0 w E L) (hg : L[i]? = some (rowO base ety k (.slice (some ⟨g, 0, none⟩) n c) n (l.flatMap f))) (hn : l.length = n) (hr : l[j]? = some x0) (hp : p + vs.length ≤ k) (he : cput (f x0) p vs = f x') (hq : q = 0 + j * k + p)
    (h : ∀ X, Sy w0 X E (L.set i (rowO base ety k (.slice (some ⟨g, 0, none⟩) n c) n ((l.set j x').flatMap f))) → wpList Tryz.prog ops Q rest (a.put o.dst undef) X) : wpList Tryz.prog ops Q (o :: rest) a w := by
  subst hq
  refine BigFrame.wpList_want hw fun K hK => ?_
  have hj := (List.getElem?_eq_some_iff.1 hr).1
  have hlen : 0 + j * k + p + vs.length ≤ (l.flatMap f).length := by
    rw [flat_len f k hk]
    have h2 : (j + 1) * k ≤ l.length * k := Nat.mul_le_mul_right k hj
    rw [Nat.add_mul] at h2
    omega
  have hC := hL.cell i hg (p := 0 + j * k + p) (vs := vs) hlen
  rw [flat_put f k hk hr hp he] at hC
  have hP := hK _ _ (h _ hC)
  unfold Oper.wp execOp
  simp only [ho, hx, hy, Instr.storeAt, Instr.sureAddr, Sem.run_bind, Sem.run_pure, Result.andThen_ok, run_storeVar_any w g (0 + j * k + p) ty v vs hv (own_there (hL.get i hg) hlen) hi h1]
  exact hP
/-- make of a row of so many values. -/
theorem mkV {c x : Operand} (n : Nat) (hw : Region.wanted o (yielded ops a.tmps) = true) (ho : o.op = .makeSlice 22 c x) (hc : a.eval c = .int .i64 (n : Nat)) (hx : a.eval x = .int .i64 (n : Nat)) (hn : n ≤ 65536) (hL : Sy w0 w E L)
    (h : ∀ X B, w0.heap.size ≤ B → Sy w0 X E (L ++ [rowO w0.heap.size 34 5 (.slice (some ⟨B, 0, none⟩) n n) n ((List.replicate n zeroV).flatMap VV.cs)]) → wpList Tryz.prog ops Q rest (a.put o.dst (.slice (some ⟨B, 0, none⟩) n n)) X) : wpList Tryz.prog ops Q (o :: rest) a w := by
  obtain ⟨i0, hi, hz0, hz1, hz2⟩ := info_parts infV
  have hr := run_make (P := Tryz.prog) w 22 34 i0 _ Tryz.underlying22 hi hz0 .i64 .i64 (n : Nat) (n : Nat) (by omega) (Int.le_refl _) (by rw [hz2]; omega) (by omega)
  simp only [Int.toNat_natCast, hz1] at hr
  refine BigFrame.wpList_want hw fun K hK => ?_
  have hO : (w.alloc (.cells (madeCells zeroV.agg.cells (n * 5)) 34)).ownsRow w0.heap.size 34 5 (.slice (some ⟨w.heap.size, 0, none⟩) n n) n ((List.replicate n zeroV).flatMap VV.cs) :=
    ⟨by rw [flat_len VV.cs 5 (fun _ => rfl)]; simp, .inr ⟨w.heap.size, n, _, rfl, hL.fr.size, (MapKept.heap_alloc w _).1, Nat.le_refl _, by unfold maxLen; omega, size_madeCells _ _, by rw [← made_flat]; exact List.take_of_length_le (by rw [Array.length_toList, size_madeCells]; omega)⟩⟩
  have hP := hK _ _ (h _ _ hL.fr.size (hL.add (rowO_ok _ _ _ _ _ _) hO ((Below.refl _ _).alloc (Nat.le_refl _) _) (fun b hb => by
    have : b = w.heap.size := by simpa [rowO, Value.ownBlock, eq_comm] using hb
    omega)))
  unfold Oper.wp execOp
  simp only [ho, hc, hx]
  simp [hr]
  exact hP
theorem bsE2 {x y : Operand} {e0 e1 : Int} (hw : Region.wanted o (yielded ops a.tmps) = true) (ho : o.op = .buildSlice 73 2 #[(0, x), (1, y)]) (hx : a.eval x = .int .i64 e0) (hy : a.eval y = .int .i64 e1) (hL : Sy w0 w E L)
    (h : ∀ X B, Sy w0 X E (L ++ [boxO B (ints [e0, e1])]) → wpList Tryz.prog ops Q rest (a.put o.dst (.slice (some ⟨B, 0, none⟩) 2 2)) X) : wpList Tryz.prog ops Q (o :: rest) a w := by
  refine BigFrame.wpList_want hw fun K hK => ?_
  have hP := hK _ _ (h _ _ (hL.box (ints [e0, e1]) 24 (Nat.succ_pos _)))
  unfold Oper.wp
  rw [ex_bsE2 ho hx hy]
  exact hP
end
theorem ex_min {o : Oper} {a : Act} {w : World} {x y : Operand} {p q m : Int} {t t' : TypeId} (ho : o.op = .call { callee := .builtin .min, args := #[x, y], argTypes := #[t, t'] }) (hx : a.eval x = .int .i64 p) (hy : a.eval y = .int .i64 q) (hm : (if q < p then q else p) = m) : (execOp a.eval o).run Tryz.prog w = .ok (.value (.int .i64 m)) w := by
  subst hm
  simp [execOp, ho, resolve, invoke, builtin, hx, hy, Result.andThen, run_min_int2]
theorem ex_c64 {o : Oper} {a : Act} {w : World} {x : Operand} {n : Nat} (ho : o.op = .convert 56 2 x) (hx : a.eval x = .int .u32 (n : Nat)) (hn : n ≤ 4294967295) : (execOp a.eval o).run Tryz.prog w = .ok (.value (.int .i64 (n : Nat))) w := by
  have e : IntKind.i64.wrap (n : Int) = (n : Int) := by rw [IntKind.wrap_i64]; omega
  unfold execOp
  simp only [ho, hx]
  simp [go_sem, convert, e]
theorem ex_gt64 {o : Oper} {a : Act} {w : World} {x y : Operand} {n m : Int} {r : Bool} (ho : o.op = .binOp .gtr 2 x y 2) (hx : a.eval x = .int .i64 n) (hc : a.eval y = .int .i64 m) (h : decide (m < n) = r) : (execOp a.eval o).run Tryz.prog w = .ok (.value (.bool r)) w := by
  unfold execOp
  simp only [ho, hx, hc]
  simp [go_sem, eqGuard, h]
theorem sliceVH (A : Option Addr) (n cap p : Nat) (hp : p ≤ cap) (w : World) : (Instr.sliceAt 22 (.slice A n cap) none (some (.int .i64 (p : Nat))) none).run Tryz.prog w = .ok (.slice A p cap) w := by
  rw [run_sliceAt_slice (h := by kernel_rfl), run_slice_h (ht := by kernel_rfl) (h0 := by omega) (h2 := by omega)]
  have e : (sizeOf (Tryz.prog.elem 22)).run Tryz.prog w = .ok 5 w := by kernel_rfl
  rw [e]
  cases A <;> simp [sliced, Addr.add, Result.andThen]
theorem ex_sliceV {o : Oper} {a : Act} {w : World} {x ix : Operand} {A : Option Addr} {n cap p : Nat} (ho : o.op = .slice 22 x none (some ix) none) (hx : a.eval x = .slice A n cap) (hix : a.eval ix = .int .i64 (p : Nat)) (hp : p ≤ cap) : (execOp a.eval o).run Tryz.prog w = .ok (.value (.slice A p cap)) w := by
  have h := sliceVH A n cap p hp w
  unfold execOp
  simp only [ho, hx, hix, Option.map_some, Option.map_none]
  simp [h]
theorem ReadsV.take {X : World} {A : Option Addr} {l : List VV} (h : ReadsV X A l) (n : Nat) : ReadsV X A (l.take n) := fun j p hp => by
  rw [List.getElem?_take] at hp
  split at hp
  · exact h j p hp
  · cases hp
/-- What Values tells of so many. -/
def outV (vs : List VV) (m : Nat) : List VV := (List.range m).map (fun i => (vs[i]?).getD zeroV)
/-- The row under way. -/
def rowI (vs : List VV) (n i : Nat) : List VV := (List.range n).map (fun t => if t < i then (vs[t]?).getD zeroV else zeroV)
theorem rowI_len (vs : List VV) (n i : Nat) : (rowI vs n i).length = n := by simp [rowI]
theorem outV_len (vs : List VV) (n : Nat) : (outV vs n).length = n := by simp [outV]
theorem rowI_zero (vs : List VV) (n : Nat) : rowI vs n 0 = List.replicate n zeroV := by
  apply List.ext_getElem?
  intro t
  by_cases h : t < n
  · simp [rowI, h]
  · simp [rowI, h]
theorem rowI_end (vs : List VV) (n : Nat) : rowI vs n n = outV vs n := by
  apply List.ext_getElem?
  intro t
  by_cases h : t < n
  · simp [rowI, outV, h]
  · simp [rowI, outV, h]
theorem rowI_at (vs : List VV) {n i : Nat} (h : i < n) : (rowI vs n i)[i]? = some zeroV := by simp [rowI, h]
theorem rowI_at1 (vs : List VV) {n i : Nat} (h : i < n) : (rowI vs n (i + 1))[i]? = some ((vs[i]?).getD zeroV) := by simp [rowI, h]
theorem rowI_step (vs : List VV) {n i : Nat} (h : i < n) : (rowI vs n i).set i ((vs[i]?).getD zeroV) = rowI vs n (i + 1) := by
  apply List.ext_getElem?
  intro t
  by_cases ht : t = i
  · subst ht
    rw [List.getElem?_set_self (by rw [rowI_len]; exact h), rowI_at1 vs h]
  · rw [List.getElem?_set_ne (fun e => ht e.symm)]
    by_cases h2 : t < n
    · simp only [rowI, List.getElem?_map, List.getElem?_range h2, Option.map_some]
      by_cases h3 : t < i
      · rw [if_pos h3, if_pos (by omega)]
      · rw [if_neg h3, if_neg (by omega)]
    · simp [rowI, h2]
theorem rowI_keep (vs : List VV) {n i : Nat} (h : i < n) : (rowI vs n (i + 1)).set i ((vs[i]?).getD zeroV) = rowI vs n (i + 1) := by
  apply List.ext_getElem?
  intro t
  by_cases ht : i = t
  · subst ht
    rw [List.getElem?_set_self (by rw [rowI_len]; exact h), rowI_at1 vs h]
  · rw [List.getElem?_set_ne ht]
theorem arr_val {T : TT} {n : Nat} {vs : List VV} (hT : pr T = arrL n vs) (i : Nat) : (getD T (idxK i)).v = (vs[i]?).getD zeroV := by
  rcases Nat.lt_or_ge i vs.length with h | h
  · rw [arr_get hT (List.getElem?_eq_getElem h), List.getElem?_eq_getElem h]
    rfl
  · rw [arr_get_none hT h, List.getElem?_eq_none h]
    rfl
theorem outV_take (vs : List VV) (m : Nat) : (outV vs m).take (min m vs.length) = vs.take (min m vs.length) := by
  apply List.ext_getElem?
  intro t
  by_cases h : t < min m vs.length
  · rw [List.getElem?_take, if_pos h, List.getElem?_take, if_pos h]
    have h1 : t < m := by omega
    have h2 : t < vs.length := by omega
    simp [outV, h1, h2]
  · rw [List.getElem?_take, if_neg h, List.getElem?_take, if_neg h]
theorem own_reads {w X : World} {B n : Nat} {l : List VV} (h : X.ownsRow w.heap.size 34 5 (.slice (some ⟨B, 0, none⟩) n n) n (l.flatMap VV.cs)) (hn : l.length = n) : ReadsV X (some ⟨B, 0, none⟩) l := fun j v hv => by
  obtain ⟨hj, rfl⟩ := List.getElem?_eq_some_iff.1 hv
  obtain ⟨g, c, e, _, h2, h3⟩ := own_row (f := VV.cs) (fun _ => rfl) h hn j hj
  cases e
  exact ⟨B, 0, rfl, h2, h3⟩
