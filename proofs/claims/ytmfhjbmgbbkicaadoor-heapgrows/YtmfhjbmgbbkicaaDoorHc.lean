import Derived.Test.YtmfhjbmgbbkicaaDoorHb
namespace Go.Proofs.YtmfhjbmgbbkicaaDoor
open Go Go.Proofs Go.Maps Go.RowKit FM
set_option linter.unusedSimpArgs false
set_option linter.unusedVariables false
set_option maxHeartbeats 1000000
def orE : List Int → Int
  | [] => 0
  | e :: l => if e = 0 then orE l else e
theorem orE_get : ∀ (l : List Int) (i : Nat) (e : Int), (∀ j u, j < i → l[j]? = some u → u = 0) → l[i]? = some e → e ≠ 0 → orE l = e
  | [], i, e, _, h, _ => by simp at h
  | x :: l, 0, e, _, h, h0 => by
    obtain rfl : x = e := by simpa using h
    simp [orE, h0]
  | x :: l, i + 1, e, ha, h, h0 => by
    have hx : x = 0 := ha 0 x (by omega) rfl
    simp only [orE, hx, if_true]
    exact orE_get l i e (fun j u hj hu => ha (j + 1) u (by omega) (by simpa using hu)) (by simpa using h) h0
theorem orE_none : ∀ (l : List Int), (∀ j u, j < l.length → l[j]? = some u → u = 0) → orE l = 0
  | [], _ => rfl
  | x :: l, ha => by
    have hx : x = 0 := ha 0 x (by simp) rfl
    simp only [orE, hx, if_true]
    exact orE_none l (fun j u hj hu => ha (j + 1) u (by simpa using hj) (by simpa using hu))
def ints (l : List Int) : List Value := l.map (fun e => .int .i64 e)
set_option maxRecDepth 100000 in
theorem or20 (B c : Nat) (es : List Int) (w : World) (hR : Holds w B (ints es)) (hz : es.length ≤ 100) : Calls Tryd.prog 20 #[.slice (some ⟨B, 0, none⟩) es.length c] w fun e w' => e = .returned (.int .i64 (orE es)) ∧ w' = w := by
  have HR := hide hR
  have HZ := hide hz
  clear hR hz
  go_enter Tryd.func20, Tryd.ntmps20
  go_wp2_with (first | go_skip | ((with_reducible show wpList _ _ _ _ _ _); first | ((refine rd (by rfl) (ex_lenG 84 25 Tryd.underlying84 rfl rfl) ?_); simp only [Act.put, List.setIfInBounds_toArray, List.set_cons_succ, List.set_cons_zero])))
  go_loopg [8] es.length (fun gm s8 wr => ∃ i : Nat, s8 = .int .i64 (i : Nat) ∧ i ≤ es.length ∧ es.length - i ≤ gm ∧ Hid (∀ j u, j < i → es[j]? = some u → u = 0) ∧ wr = w)
  case atStart => exact ⟨0, rfl, by omega, by omega, hide (fun j v hj => by omega), rfl⟩
  case round =>
    obtain ⟨i, rfl, hil, hgm, HD, rfl⟩ := hrel
    by_cases hlt : i < es.length
    · have dlt : decide ((i : Int) < (es.length : Int)) = true := decide_eq_true (by omega)
      have hw1 : IntKind.i64.wrap ((i : Int) + 1) = (i : Int) + 1 := by have := unhide HZ; rw [IntKind.wrap_i64]; omega
      obtain ⟨e, he⟩ : ∃ e, es[i]? = some e := ⟨_, List.getElem?_eq_getElem hlt⟩
      have HC : Hid (wr.cell? ⟨B, 0 + i * 1, none⟩ = some (.int .i64 e)) := hide (by
        have := (unhide HR).cell i (v := .int .i64 e) (by unfold ints; rw [List.getElem?_map, he]; rfl)
        rw [Nat.zero_add, Nat.mul_one]
        exact this)
      have HLT := hide hlt
      clear hlt hil
      by_cases h0 : e = 0
      · have hb : (e != 0) = false := by simp [h0]
        have HD2 : Hid (∀ j u, j < i + 1 → es[j]? = some u → u = 0) := hide (fun j u hj hu => by
          rcases Nat.lt_or_ge j i with h | h
          · exact unhide HD j u h hu
          · obtain rfl : j = i := by omega
            exact (Option.some.inj (he.symm.trans hu)) ▸ h0)
        clear h0 he HD
        go_wp2_with (first | go_skip | ((with_reducible show wpList _ _ _ _ _ _); first | ((refine rd (by rfl) (ex_lenG 84 25 Tryd.underlying84 rfl rfl) ?_); simp only [Act.put, List.setIfInBounds_toArray, List.set_cons_succ, List.set_cons_zero]) | ((refine rd (by rfl) (ex_indexG 84 1 i und84 idx84 rfl rfl rfl (unhide HLT)) ?_); simp only [Act.put, List.setIfInBounds_toArray, List.set_cons_succ, List.set_cons_zero]) | ((refine rd (by rfl) (ex_loadC 25 Tryd.isAgg25 rfl rfl (unhide HC)) ?_); simp only [Act.put, List.setIfInBounds_toArray, List.set_cons_succ, List.set_cons_zero])))
        go_roundg (es.length - (i + 1))
        case measure => have := unhide HLT; omega
        case rel => exact ⟨i + 1, by go_num, by have := unhide HLT; omega, by omega, HD2, rfl⟩
      · have hb : (e != 0) = true := by simp [h0]
        have HE : Hid (orE es = e) := hide (orE_get es i e (unhide HD) he h0)
        clear h0 he HD
        go_wp2_with (first | go_skip | ((with_reducible show wpList _ _ _ _ _ _); first | ((refine rd (by rfl) (ex_lenG 84 25 Tryd.underlying84 rfl rfl) ?_); simp only [Act.put, List.setIfInBounds_toArray, List.set_cons_succ, List.set_cons_zero]) | ((refine rd (by rfl) (ex_indexG 84 1 i und84 idx84 rfl rfl rfl (unhide HLT)) ?_); simp only [Act.put, List.setIfInBounds_toArray, List.set_cons_succ, List.set_cons_zero]) | ((refine rd (by rfl) (ex_loadC 25 Tryd.isAgg25 rfl rfl (unhide HC)) ?_); simp only [Act.put, List.setIfInBounds_toArray, List.set_cons_succ, List.set_cons_zero])))
        go_ret
        exact ⟨by rw [unhide HE]; rfl, rfl⟩
    · obtain rfl : i = es.length := by omega
      have HE : Hid (orE es = 0) := hide (orE_none es (unhide HD))
      clear hlt hil HD
      go_wp2
      go_ret
      exact ⟨by rw [unhide HE]; rfl, rfl⟩
def checkE (n : Nat) (v : VV) : Int := if v.good then knownE n [v] else 5
theorem info35w : (Tryd.prog.info? 35).map (fun i => (i.zero, i.size, i.bytes)) = some (some zeroV.agg, 5, 48) := by kernel_rfl
theorem reads_one {w : World} {B : Nat} {v : VV} (h : Holds w B v.cs) : ReadsV w (some ⟨B, 0, none⟩) [v] := fun j u hu => by
  have hj := (List.getElem?_eq_some_iff.1 hu).1
  obtain rfl : j = 0 := by simpa using hj
  obtain rfl : v = u := by simpa using hu
  exact ⟨B, 0, rfl, h.lt (by simp [VV.cs]), h.2⟩
set_option maxRecDepth 100000 in
theorem check21 (h : HP) (n : Nat) (v : VV) (w : World) (H : h.Is w n) (hT : Lib.Utf8Tabs 1 2 w) : Calls Tryd.prog 21 #[.pointer (some ⟨h.b, 0, none⟩), v.agg] w fun e w' => e = .returned (.int .i64 (checkE h.l.length v)) ∧ Below w.heap.size w w' := by
  have LL := hide (Hq.nil w [])
  have HH := hide H
  have HT := hide hT
  have HC := hide (fun w hT => check_any v w hT)
  rw [vagg] at HC
  rw [vagg]
  unfold checkE
  clear H hT
  obtain ⟨g, hg⟩ : ∃ g, v.good = g := ⟨_, rfl⟩
  rw [hg] at HC ⊢
  clear hg
  cases g
  · go_enter Tryd.func21, Tryd.ntmps21
    go_wp2_with (first | go_skip | ((with_reducible show wpList _ _ _ _ _ _); first | ((refine bx 35 (v.cs) (by rfl) rfl rfl rfl (Nat.succ_pos _) (unhide LL) ?_); intro X1 B1 hE1 L1 hb1; have hB1 := hide (Nat.le_trans (unhide LL).fr.size (Nat.le_of_eq hE1.symm)); replace LL := hide L1; clear L1 hb1 hE1; simp only [Act.put, List.setIfInBounds_toArray, List.set_cons_succ, List.set_cons_zero]) | ((refine rd (by rfl) (ex_loadN (vs := v.cs) 35 5 row35 siz35 rfl rfl ((unhide LL).get 0 rfl) rfl rfl) ?_); simp only [Act.put, List.setIfInBounds_toArray, List.set_cons_succ, List.set_cons_zero]) | ((refine build_any (z := zeroV.agg) (size := 5) (bytes := 48) (cs := v.cs) (by rfl) rfl rfl Tryd.underlying22 info35w (by omega) rfl rfl (by omega) (unhide LL) ?_); intro X6 B6 hE6 L6 hb6; replace LL := hide L6; clear L6 hb6 hE6; simp only [Act.put, List.setIfInBounds_toArray, List.set_cons_succ, List.set_cons_zero])))
    refine (unhide HC _ (tabs_below (unhide HT) (unhide LL).fr.below)).mono ?_
    rintro e X2 ⟨rfl, hb⟩
    replace LL := hide ((unhide LL).on hb)
    clear hb
    go_wp2
    go_ret
    exact ⟨rfl, (unhide LL).fr.below⟩
  · go_enter Tryd.func21, Tryd.ntmps21
    go_wp2_with (first | go_skip | ((with_reducible show wpList _ _ _ _ _ _); first | ((refine bx 35 (v.cs) (by rfl) rfl rfl rfl (Nat.succ_pos _) (unhide LL) ?_); intro X1 B1 hE1 L1 hb1; have hB1 := hide (Nat.le_trans (unhide LL).fr.size (Nat.le_of_eq hE1.symm)); replace LL := hide L1; clear L1 hb1 hE1; simp only [Act.put, List.setIfInBounds_toArray, List.set_cons_succ, List.set_cons_zero]) | ((refine rd (by rfl) (ex_loadN (vs := v.cs) 35 5 row35 siz35 rfl rfl ((unhide LL).get 0 rfl) rfl rfl) ?_); simp only [Act.put, List.setIfInBounds_toArray, List.set_cons_succ, List.set_cons_zero]) | ((refine build_any (z := zeroV.agg) (size := 5) (bytes := 48) (cs := v.cs) (by rfl) rfl rfl Tryd.underlying22 info35w (by omega) rfl rfl (by omega) (unhide LL) ?_); intro X6 B6 hE6 L6 hb6; replace LL := hide L6; clear L6 hb6 hE6; simp only [Act.put, List.setIfInBounds_toArray, List.set_cons_succ, List.set_cons_zero])))
    refine (unhide HC _ (tabs_below (unhide HT) (unhide LL).fr.below)).mono ?_
    rintro e X2 ⟨rfl, hb⟩
    replace LL := hide ((unhide LL).on hb)
    clear hb
    go_wp2_with (first | go_skip | ((with_reducible show wpList _ _ _ _ _ _); first | ((refine bx 35 (v.cs) (by rfl) rfl rfl rfl (Nat.succ_pos _) (unhide LL) ?_); intro X1 B1 hE1 L1 hb1; have hB1 := hide (Nat.le_trans (unhide LL).fr.size (Nat.le_of_eq hE1.symm)); replace LL := hide L1; clear L1 hb1 hE1; simp only [Act.put, List.setIfInBounds_toArray, List.set_cons_succ, List.set_cons_zero]) | ((refine rd (by rfl) (ex_loadN (vs := v.cs) 35 5 row35 siz35 rfl rfl ((unhide LL).get 0 rfl) rfl rfl) ?_); simp only [Act.put, List.setIfInBounds_toArray, List.set_cons_succ, List.set_cons_zero]) | ((refine build_any (z := zeroV.agg) (size := 5) (bytes := 48) (cs := v.cs) (by rfl) rfl rfl Tryd.underlying22 info35w (by omega) rfl rfl (by omega) (unhide LL) ?_); intro X6 B6 hE6 L6 hb6; replace LL := hide L6; clear L6 hb6 hE6; simp only [Act.put, List.setIfInBounds_toArray, List.set_cons_succ, List.set_cons_zero])))
    refine (known29 h n _ 1 [v] _ ((unhide HH).fr (unhide LL).fr) (reads_one ((unhide LL).get 1 rfl)) (by simp)).mono ?_
    rintro e X7 ⟨rfl, hb⟩
    replace LL := hide ((unhide LL).on hb)
    clear hb
    go_wp2
    go_ret
    exact ⟨rfl, (unhide LL).fr.below⟩
theorem new24 (w : World) : Calls Tryd.prog 24 #[] w fun e w' => ∃ t m, e = .returned (.pointer (some ⟨t, 0, none⟩)) ∧ TB w' t m ∧ w.heap.size ≤ t ∧ w.heap.size ≤ m ∧ Below w.heap.size w w' := by
  have hmm := @run_makeMap Tryd.prog
  go_enter Tryd.func24, Tryd.ntmps24
  go_wp2
  go_ret
  have hN := Holds.new (w.alloc (Obj.map #[] 0)) [.map (some w.heap.size), .slice none 0 0, .int .u64 0] 89
  have hz : (w.alloc (Obj.map #[] 0)).heap.size = w.heap.size + 1 := by simp
  rw [hz] at hN
  have hb : Below w.heap.size w ((w.alloc (Obj.map #[] 0)).alloc (Obj.cells #[Value.map (some w.heap.size), Value.slice none 0 0, Value.int IntKind.u64 0] 89)) := ((Below.refl _ _).alloc (Nat.le_refl _) _).alloc (by simp) _
  refine ⟨w.heap.size + 1, w.heap.size, rfl, ⟨hN, ?_⟩, by omega, Nat.le_refl _, hb⟩
  exact (Below.heap_alloc _ _ _ (by simp)).trans (MapKept.heap_alloc w _).1
theorem new5_good (cap fuel depth : Int) (w : World) (h1 : 0 ≤ cap) (h2 : cap ≤ 65536) (h3 : 0 ≤ fuel) (h4 : 1 ≤ depth) (h5 : depth ≤ 256) : Calls Tryd.prog 5 #[.int .i64 cap, .int .i64 fuel, .int .i64 depth] w fun e w' => ∃ b, e = .returned (.tuple #[.pointer (some ⟨b, 0, none⟩), .int .i64 0]) ∧ HP.Is w' w.heap.size ⟨b, .slice none 0 0, [], cap, fuel, depth⟩ ∧ Below w.heap.size w w' := by
  have g1 : ¬ cap < 0 := by omega
  have g2 : ¬ (65536 : Int) < cap := by omega
  have g3 : ¬ fuel < 0 := by omega
  have g4 : ¬ depth < 1 := by omega
  have g5 : ¬ (256 : Int) < depth := by omega
  have HLM := hide (And.intro h1 h2)
  clear h1 h2 h3 h4 h5
  go_enter Tryd.func5, Tryd.ntmps5
  go_wp2
  go_ret2
  refine ⟨w.heap.size, rfl, ⟨Holds.new w [.slice none 0 0, .int .i64 cap, .int .i64 fuel, .int .i64 depth, .int .i64 0] 51, ⟨rfl, .inl ⟨rfl, rfl⟩⟩, (fun o ho => by cases ho), Nat.le_refl _, ⟨by simp [HP.obs], by simp [Value.ownBlock], by simp [HP.obs]⟩, ⟨by simpa using (unhide HLM).1, (unhide HLM).2⟩⟩, (Below.refl _ _).alloc (Nat.le_refl _) _⟩
theorem new5_bad (cap fuel depth : Int) (w : World) (h1 : cap < 0 ∨ 65536 < cap) : Calls Tryd.prog 5 #[.int .i64 cap, .int .i64 fuel, .int .i64 depth] w fun e w' => e = .returned (.tuple #[.pointer none, .int .i64 7]) ∧ w' = w := by
  by_cases g1 : cap < 0
  · clear h1
    go_enter Tryd.func5, Tryd.ntmps5
    go_wp2
    go_ret2
    exact ⟨rfl, rfl⟩
  · have g2 : (65536 : Int) < cap := by omega
    clear h1
    go_enter Tryd.func5, Tryd.ntmps5
    go_wp2
    go_ret2
    exact ⟨rfl, rfl⟩
end Go.Proofs.YtmfhjbmgbbkicaaDoor
