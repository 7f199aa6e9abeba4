import Derived.Test.YtmgflhhealdfoaaGreatDoorQj
set_option linter.all false
namespace Go.Proofs.YtmgflhhealdfoaaGreatDoor
section
open Go Go.Proofs Go.RowKit FM
theorem vv10 {w X : World} {k : Int} {b1 : Bool} {x : Nat} {s : ByteArray} {i : Int} {k2 : Int} {b2 : Bool} {x2 : Nat} {s2 : ByteArray} {i2 : Int} (h : Lie w X [.V ⟨k, b1, x, s, i⟩, .V ⟨k2, b2, x2, s2, i2⟩]) :
    X.cell? ⟨w.heap.size, 0, none⟩ = some (.int .i64 k) ∧ X.cell? ⟨w.heap.size, 1, none⟩ = some (.bool b1) ∧ X.cell? ⟨w.heap.size, 2, none⟩ = some (.float .f64 x) ∧ X.cell? ⟨w.heap.size, 3, none⟩ = some (.string s) ∧ X.cell? ⟨w.heap.size, 4, none⟩ = some (.int .i64 i) ∧ X.cell? ⟨w.heap.size + 1, 0, none⟩ = some (.int .i64 k2) ∧ X.cell? ⟨w.heap.size + 1, 1, none⟩ = some (.bool b2) ∧ X.cell? ⟨w.heap.size + 1, 2, none⟩ = some (.float .f64 x2) ∧ X.cell? ⟨w.heap.size + 1, 3, none⟩ = some (.string s2) ∧ X.cell? ⟨w.heap.size + 1, 4, none⟩ = some (.int .i64 i2) := by
  obtain ⟨-, a0, a1, a2, a3, a4⟩ := h.one
  obtain ⟨-, b0, b1, b2, b3, b4⟩ := h.two
  exact ⟨a0, a1, a2, a3, a4, b0, b1, b2, b3, b4⟩
set_option maxHeartbeats 2000000 in
set_option maxRecDepth 100000 in
theorem same51 (a b : VV) (ha : a.x < 2 ^ 64) (hb : b.x < 2 ^ 64) (w : World) (hT : Lib.Utf8Tabs 1 2 w) : Calls Tryz.prog 148 #[a.agg, b.agg] w fun e w' => e = .returned (.bool (samV a b)) ∧ Below w.heap.size w w' := by
  have HA := hide (there_any a ha)
  have HB := hide (there_any b hb)
  have HS := hide (fun w hT => valueSame_any a b w hT)
  have HT := hide hT
  clear hT
  unfold samV
  have L0 := Lie.new2 w (.V a) (.V b)
  obtain ⟨k, b1, x, s, i⟩ := a
  obtain ⟨k2, b2, x2, s2, i2⟩ := b
  unfold PB.obj VV.obj at L0
  unfold VV.agg okE at *
  dsimp only at *
  have LL := hide L0
  clear L0 ha hb
  generalize thV ⟨k, b1, x, s, i⟩ = ta at *
  generalize thV ⟨k2, b2, x2, s2, i2⟩ = tb at *
  generalize (VV.good ⟨k, b1, x, s, i⟩ && VV.good ⟨k2, b2, x2, s2, i2⟩) = g at *
  generalize alikeV sameV ⟨k, b1, x, s, i⟩ ⟨k2, b2, x2, s2, i2⟩ = al at *
  cases ta
  · go_enter Tryz.func148, Tryz.ntmps148
    go_wp2_with (fail)
    refine (unhide HA _).mono ?_
    rintro _ w1 ⟨rfl, hb⟩
    replace LL := hide ((unhide LL).on hb)
    clear hb
    obtain ⟨f0, c0_0, c0_1, c0_2, c0_3, c0_4⟩ := (unhide LL).one
    obtain ⟨f1, c1_0, c1_1, c1_2, c1_3, c1_4⟩ := (unhide LL).two
    dsimp only at f0 c0_0 c0_1 c0_2 c0_3 c0_4 f1 c1_0 c1_1 c1_2 c1_3 c1_4
    go_wp2_with (fail)
    go_region_held3 (fun X => X.cell? ⟨w.heap.size, 0, none⟩ = some (.int .i64 k) ∧ X.cell? ⟨w.heap.size, 1, none⟩ = some (.bool b1) ∧ X.cell? ⟨w.heap.size, 2, none⟩ = some (.float .f64 x) ∧ X.cell? ⟨w.heap.size, 3, none⟩ = some (.string s) ∧ X.cell? ⟨w.heap.size, 4, none⟩ = some (.int .i64 i) ∧ X.cell? ⟨w.heap.size + 1, 0, none⟩ = some (.int .i64 k2) ∧ X.cell? ⟨w.heap.size + 1, 1, none⟩ = some (.bool b2) ∧ X.cell? ⟨w.heap.size + 1, 2, none⟩ = some (.float .f64 x2) ∧ X.cell? ⟨w.heap.size + 1, 3, none⟩ = some (.string s2) ∧ X.cell? ⟨w.heap.size + 1, 4, none⟩ = some (.int .i64 i2)) (first | exact vv10 k2 | exact vv10 k1 | exact vv10 (unhide LL).drew) ((first | (go_at_call_of 90 (Value.string s); refine (unhide HA _).mono ?_; rintro _ w8 ⟨rfl, hb1⟩; have k1 := ((unhide LL).drew).on hb1) | (go_at_call_of 90 (Value.string s2); refine (unhide HB _).mono ?_; rintro _ w9 ⟨rfl, hb2⟩; have k2 := k1.on hb2)))
    replace LL := hide k2
    clear k1 k2 hb1 hb2
    go_wp2_with (fail)
    go_ret
    exact ⟨rfl, (unhide LL).below⟩
  · cases tb
    · go_enter Tryz.func148, Tryz.ntmps148
      go_wp2_with (fail)
      refine (unhide HA _).mono ?_
      rintro _ w2 ⟨rfl, hb⟩
      replace LL := hide ((unhide LL).on hb)
      clear hb
      obtain ⟨f0, c0_0, c0_1, c0_2, c0_3, c0_4⟩ := (unhide LL).one
      obtain ⟨f1, c1_0, c1_1, c1_2, c1_3, c1_4⟩ := (unhide LL).two
      dsimp only at f0 c0_0 c0_1 c0_2 c0_3 c0_4 f1 c1_0 c1_1 c1_2 c1_3 c1_4
      go_wp2_with (fail)
      refine (unhide HB _).mono ?_
      rintro _ w3 ⟨rfl, hb⟩
      clear f0 c0_0 c0_1 c0_2 c0_3 c0_4 f1 c1_0 c1_1 c1_2 c1_3 c1_4
      replace LL := hide ((unhide LL).on hb)
      clear hb
      obtain ⟨f0, c0_0, c0_1, c0_2, c0_3, c0_4⟩ := (unhide LL).one
      obtain ⟨f1, c1_0, c1_1, c1_2, c1_3, c1_4⟩ := (unhide LL).two
      dsimp only at f0 c0_0 c0_1 c0_2 c0_3 c0_4 f1 c1_0 c1_1 c1_2 c1_3 c1_4
      go_wp2_with (fail)
      go_region_held3 (fun X => X.cell? ⟨w.heap.size, 0, none⟩ = some (.int .i64 k) ∧ X.cell? ⟨w.heap.size, 1, none⟩ = some (.bool b1) ∧ X.cell? ⟨w.heap.size, 2, none⟩ = some (.float .f64 x) ∧ X.cell? ⟨w.heap.size, 3, none⟩ = some (.string s) ∧ X.cell? ⟨w.heap.size, 4, none⟩ = some (.int .i64 i) ∧ X.cell? ⟨w.heap.size + 1, 0, none⟩ = some (.int .i64 k2) ∧ X.cell? ⟨w.heap.size + 1, 1, none⟩ = some (.bool b2) ∧ X.cell? ⟨w.heap.size + 1, 2, none⟩ = some (.float .f64 x2) ∧ X.cell? ⟨w.heap.size + 1, 3, none⟩ = some (.string s2) ∧ X.cell? ⟨w.heap.size + 1, 4, none⟩ = some (.int .i64 i2)) (first | exact vv10 k2 | exact vv10 k1 | exact vv10 (unhide LL).drew) ((first | (go_at_call_of 90 (Value.string s); refine (unhide HA _).mono ?_; rintro _ w8 ⟨rfl, hb1⟩; have k1 := ((unhide LL).drew).on hb1) | (go_at_call_of 90 (Value.string s2); refine (unhide HB _).mono ?_; rintro _ w9 ⟨rfl, hb2⟩; have k2 := k1.on hb2)))
      replace LL := hide k2
      clear k1 k2 hb1 hb2
      go_wp2_with (fail)
      go_ret
      exact ⟨rfl, (unhide LL).below⟩
    · go_enter Tryz.func148, Tryz.ntmps148
      go_wp2_with (fail)
      refine (unhide HA _).mono ?_
      rintro _ w2 ⟨rfl, hb⟩
      replace LL := hide ((unhide LL).on hb)
      clear hb
      obtain ⟨f0, c0_0, c0_1, c0_2, c0_3, c0_4⟩ := (unhide LL).one
      obtain ⟨f1, c1_0, c1_1, c1_2, c1_3, c1_4⟩ := (unhide LL).two
      dsimp only at f0 c0_0 c0_1 c0_2 c0_3 c0_4 f1 c1_0 c1_1 c1_2 c1_3 c1_4
      go_wp2_with (fail)
      refine (unhide HB _).mono ?_
      rintro _ w3 ⟨rfl, hb⟩
      clear f0 c0_0 c0_1 c0_2 c0_3 c0_4 f1 c1_0 c1_1 c1_2 c1_3 c1_4
      replace LL := hide ((unhide LL).on hb)
      clear hb
      obtain ⟨f0, c0_0, c0_1, c0_2, c0_3, c0_4⟩ := (unhide LL).one
      obtain ⟨f1, c1_0, c1_1, c1_2, c1_3, c1_4⟩ := (unhide LL).two
      dsimp only at f0 c0_0 c0_1 c0_2 c0_3 c0_4 f1 c1_0 c1_1 c1_2 c1_3 c1_4
      go_wp2_with (fail)
      refine (unhide HS _ (tabs_below (unhide HT) (unhide LL).below)).mono ?_
      rintro _ w4 ⟨rfl, hb⟩
      clear f0 c0_0 c0_1 c0_2 c0_3 c0_4 f1 c1_0 c1_1 c1_2 c1_3 c1_4
      replace LL := hide ((unhide LL).on hb)
      clear hb
      obtain ⟨f0, c0_0, c0_1, c0_2, c0_3, c0_4⟩ := (unhide LL).one
      obtain ⟨f1, c1_0, c1_1, c1_2, c1_3, c1_4⟩ := (unhide LL).two
      dsimp only at f0 c0_0 c0_1 c0_2 c0_3 c0_4 f1 c1_0 c1_1 c1_2 c1_3 c1_4
      go_wp2_with (fail)
      go_ret
      exact ⟨rfl, (unhide LL).below⟩
set_option maxHeartbeats 2000000 in
set_option maxRecDepth 100000 in
theorem differs_any (a b : VV) (ha : a.x < 2 ^ 64) (hb : b.x < 2 ^ 64) (w : World) (hT : Lib.Utf8Tabs 1 2 w) : Calls Tryz.prog 146 #[a.agg, b.agg] w fun e w' => e = .returned (.bool (difV a b)) ∧ Below w.heap.size w w' := by
  have HB := hide (there_any b hb)
  have HS := hide (fun w hT => same51 a b ha hb w hT)
  have HT := hide hT
  clear hT
  unfold difV
  have L0 := Lie.new2 w (.V a) (.V b)
  obtain ⟨k, b1, x, s, i⟩ := a
  obtain ⟨k2, b2, x2, s2, i2⟩ := b
  unfold PB.obj VV.obj at L0
  unfold VV.agg at *
  dsimp only at *
  have LL := hide L0
  clear L0 ha hb
  generalize thV ⟨k2, b2, x2, s2, i2⟩ = tb at *
  generalize samV ⟨k, b1, x, s, i⟩ ⟨k2, b2, x2, s2, i2⟩ = sm at *
  cases tb
  · go_enter Tryz.func146, Tryz.ntmps146
    go_wp2_with (fail)
    refine (unhide HB _).mono ?_
    rintro _ w1 ⟨rfl, hb⟩
    replace LL := hide ((unhide LL).on hb)
    clear hb
    obtain ⟨f0, c0_0, c0_1, c0_2, c0_3, c0_4⟩ := (unhide LL).one
    obtain ⟨f1, c1_0, c1_1, c1_2, c1_3, c1_4⟩ := (unhide LL).two
    dsimp only at f0 c0_0 c0_1 c0_2 c0_3 c0_4 f1 c1_0 c1_1 c1_2 c1_3 c1_4
    go_wp2_with (fail)
    go_ret
    exact ⟨rfl, (unhide LL).below⟩
  · go_enter Tryz.func146, Tryz.ntmps146
    go_wp2_with (fail)
    refine (unhide HB _).mono ?_
    rintro _ w1 ⟨rfl, hb⟩
    replace LL := hide ((unhide LL).on hb)
    clear hb
    obtain ⟨f0, c0_0, c0_1, c0_2, c0_3, c0_4⟩ := (unhide LL).one
    obtain ⟨f1, c1_0, c1_1, c1_2, c1_3, c1_4⟩ := (unhide LL).two
    dsimp only at f0 c0_0 c0_1 c0_2 c0_3 c0_4 f1 c1_0 c1_1 c1_2 c1_3 c1_4
    go_wp2_with (fail)
    refine (unhide HS _ (tabs_below (unhide HT) (unhide LL).below)).mono ?_
    rintro _ w2 ⟨rfl, hb⟩
    clear f0 c0_0 c0_1 c0_2 c0_3 c0_4 f1 c1_0 c1_1 c1_2 c1_3 c1_4
    replace LL := hide ((unhide LL).on hb)
    clear hb
    obtain ⟨f0, c0_0, c0_1, c0_2, c0_3, c0_4⟩ := (unhide LL).one
    obtain ⟨f1, c1_0, c1_1, c1_2, c1_3, c1_4⟩ := (unhide LL).two
    dsimp only at f0 c0_0 c0_1 c0_2 c0_3 c0_4 f1 c1_0 c1_1 c1_2 c1_3 c1_4
    go_wp2_with (fail)
    go_ret
    exact ⟨rfl, (unhide LL).below⟩
