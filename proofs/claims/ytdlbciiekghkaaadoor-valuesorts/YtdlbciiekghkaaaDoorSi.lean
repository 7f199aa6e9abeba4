import Derived.Test.YtdlbciiekghkaaaDoorSh
import Derived.Test.YtdlbciiekghkaaaDoorWf
import Derived.Deep.AppendLies
import Derived.Deep.DrawnRows
import Derived.Deep.LoopGhost
namespace Go.Proofs.YtdlbciiekghkaaaDoor
open Go Go.Proofs Go.Shelf Go.RowKit Go.Lib Go.Sort FM
instance : Inhabited VV := ⟨⟨1, false, 0, ByteArray.empty, 0⟩⟩
attribute [local go_sem] bits_run run_store_float
/-- A row of values, five cells each, from place off of block b on. -/
def Rows5 (w : World) (b off : Nat) (l : List VV) : Prop :=
  ∀ j, j < l.length → w.cell? ⟨b, off + j * 5, none⟩ = some (.int .i64 l[j]!.k) ∧ w.cell? ⟨b, off + j * 5 + 1, none⟩ = some (.bool l[j]!.b) ∧ w.cell? ⟨b, off + j * 5 + 2, none⟩ = some (.float .f64 l[j]!.x) ∧ w.cell? ⟨b, off + j * 5 + 3, none⟩ = some (.string l[j]!.s) ∧ w.cell? ⟨b, off + j * 5 + 4, none⟩ = some (.int .i64 l[j]!.i)
/-- The first j values of a row lie in block B, five cells each. -/
def Out (w : World) (B : Nat) (ks : List GV) (j : Nat) : Prop :=
  ∃ c : Array Value, w.heap[B]? = some (.cells c 24 (0, 0)) ∧ c.size = ks.length * 5 ∧ ∀ i, i < j → c[i * 5]? = some (.int .i64 ks[i]!.1.k) ∧ c[i * 5 + 1]? = some (.bool ks[i]!.1.b) ∧ c[i * 5 + 2]? = some (.float .f64 ks[i]!.1.x) ∧ c[i * 5 + 3]? = some (.string ks[i]!.1.s) ∧ c[i * 5 + 4]? = some (.int .i64 ks[i]!.1.i)
/-- What Sort answers: the error where one is not well formed; else a row of its own that is alike, place by place, to the insertion one by one. -/
def SortP (w : World) (l : List VV) (e : Ending) (w' : World) : Prop :=
  Below w.heap.size w w' ∧ (((∃ v ∈ l, v.good = false) ∧ e = .returned (.tuple #[.slice none 0 0, .int .i64 5])) ∨
    ∃ (d ks : List GV) (B : Nat), d.map (·.1) = l ∧ All2 (fun a b : GV => alikeV sameV a.1 b.1 = true) ks (sortC cmpG d) ∧ e = .returned (.tuple #[.slice (some ⟨B, 0, none⟩) ks.length ks.length, .int .i64 0]) ∧ Out w' B ks ks.length ∧ w.heap.size ≤ B)
theorem info24 : (Tryd.prog.info? 24).map (fun i => (i.zero, i.size, i.bytes)) = some (some (.agg #[.int .i64 0, .bool false, .float .f64 0, .string ByteArray.empty, .int .i64 0]), 5, 48) := by kernel_rfl
theorem info63 : (Tryd.prog.info? 63).map (fun i => (i.zero, i.size, i.bytes)) = some (some .nilIface, 1, 16) := by kernel_rfl
theorem row_of : ∀ (l : List VV), (∀ v ∈ l, v.good = true ∧ v.x < 2 ^ 64) → ∃ d : List GV, d.map (·.1) = l
  | [], _ => ⟨[], rfl⟩
  | v :: l, h => by
    obtain ⟨d, hd⟩ := row_of l (fun u hu => h u (by simp [hu]))
    exact ⟨⟨v, h v (by simp)⟩ :: d, by simp [hd]⟩
theorem lies_owns {w : World} {base g cap : Nat} {d : List GV} (h : w.ownsRow base 63 1 (.slice (some ⟨g, 0, none⟩) d.length cap) d.length ((d.map (·.1)).map VV.ifc)) : Lies w g d.toArray ∧ base ≤ g ∧ d.length ≤ cap := by
  rcases h.2 with ⟨h, _⟩ | ⟨g', c, cur, e, h1, h2, h3, _, h5, h6⟩
  · cases h
  · cases e
    refine ⟨⟨(cur.toList.drop d.length).toArray, ?_⟩, h1, h3⟩
    rw [h2]
    congr 2
    apply Array.toList_inj.1
    rw [Nat.mul_one] at h6
    have : (d.toArray.map encG).toList = cur.toList.take d.length := by
      rw [h6]
      simp [encG]
    simp only [Array.toList_append, this]
    exact (List.take_append_drop _ _).symm
theorem out_cell {w : World} {B : Nat} {ks : List GV} {j : Nat} (h : Out w B ks j) (o : Nat) (ho : o < ks.length * 5) : (∃ v, w.cell? ⟨B, o, none⟩ = some v) ∧ w.frozen? ⟨B, o, none⟩ = false := by
  obtain ⟨c, h1, h2, _⟩ := h
  have : o < c.size := by omega
  refine ⟨⟨c[o], ?_⟩, ?_⟩
  · simp [go_sem, World.cell?, h1, this]
  · simp [go_sem, World.frozen?, h1]
theorem out_step {w : World} {B : Nat} {ks : List GV} {j : Nat} (h : Out w B ks j) (hj : j < ks.length) (v : VV) (hv : ks[j]!.1 = v) :
    Out (((((w.setCell ⟨B, j * 5, none⟩ (.int .i64 v.k)).setCell ⟨B, j * 5 + 1, none⟩ (.bool v.b)).setCell ⟨B, j * 5 + 2, none⟩ (.float .f64 v.x)).setCell ⟨B, j * 5 + 3, none⟩ (.string v.s)).setCell ⟨B, j * 5 + 4, none⟩ (.int .i64 v.i)) B ks (j + 1) := by
  obtain ⟨c, h1, h2, h3⟩ := h
  refine ⟨((((c.setIfInBounds (j * 5) (.int .i64 v.k)).setIfInBounds (j * 5 + 1) (.bool v.b)).setIfInBounds (j * 5 + 2) (.float .f64 v.x)).setIfInBounds (j * 5 + 3) (.string v.s)).setIfInBounds (j * 5 + 4) (.int .i64 v.i), ?_, by simpa using h2, ?_⟩
  · simp [World.setCell, Array.getElem?_modify, h1]
  · intro i hi
    by_cases e : i = j
    · subst e
      rw [hv]
      have q0 : i * 5 < c.size := by omega
      have q1 : i * 5 + 1 < c.size := by omega
      have q2 : i * 5 + 2 < c.size := by omega
      have q3 : i * 5 + 3 < c.size := by omega
      have q4 : i * 5 + 4 < c.size := by omega
      simp [q0, q1, q2, q3, q4]
    · have h4 := h3 i (by omega)
      have key : ∀ t, t < 5 → (((((c.setIfInBounds (j * 5) (.int .i64 v.k)).setIfInBounds (j * 5 + 1) (.bool v.b)).setIfInBounds (j * 5 + 2) (.float .f64 v.x)).setIfInBounds (j * 5 + 3) (.string v.s)).setIfInBounds (j * 5 + 4) (.int .i64 v.i))[i * 5 + t]? = c[i * 5 + t]? := by
        intro t ht
        rw [Array.getElem?_setIfInBounds_ne (by omega), Array.getElem?_setIfInBounds_ne (by omega), Array.getElem?_setIfInBounds_ne (by omega), Array.getElem?_setIfInBounds_ne (by omega), Array.getElem?_setIfInBounds_ne (by omega)]
      exact ⟨(key 0 (by omega)).trans h4.1, (key 1 (by omega)).trans h4.2.1, (key 2 (by omega)).trans h4.2.2.1, (key 3 (by omega)).trans h4.2.2.2.1, (key 4 (by omega)).trans h4.2.2.2.2⟩
theorem one_cells {f : Value} (h : f.oneCell' = true) : f.cells = #[f] := by
  cases f <;> simp_all [Value.oneCell', Value.cells]
theorem ifc_one (v : VV) : v.ifc.oneCell' = true := by
  unfold VV.ifc
  repeat' split
  all_goals rfl
set_option maxHeartbeats 4000000 in
set_option maxRecDepth 1000000 in
theorem sort28 (b cap : Nat) (l : List VV) (w : World) (hT : Lib.Utf8Tabs 1 2 w) (hR : Rows5 w b 0 l) (hb : b < w.heap.size) (hn : l.length ≤ 2932031007402) (hx : ∀ v ∈ l, v.x < 2 ^ 64) :
    Calls Tryd.prog 28 #[.slice (some ⟨b, 0, none⟩) l.length cap] w fun e w' => SortP w l e w' := by
  have HT := hide hT
  have HR := hide hR
  have HX := hide hx
  obtain ⟨i0, hi, hz0, hz1, hz2⟩ := info_parts info63
  obtain ⟨wm, hmake, hrow0, hgrow0⟩ := run_make_own (P := Tryd.prog) w w.heap.size 73 63 i0 _ 1 Tryd.underlying73 hi hz0 hz1 .i64 .i64 l.length (by rw [hz2]; omega) (by unfold maxLen; omega) (Nat.le_refl _)
  have HG := hide hgrow0
  have HO := hide hrow0
  clear hT hR hx hgrow0 hrow0
  go_enter Tryd.func28, Tryd.ntmps28
  go_wp2_with fail
  have hbe : Below w.heap.size w wm := ⟨(unhide HG).os, (unhide HG).tape, (unhide HG).output, (unhide HG).size, fun k hk => (unhide HG).block k hk (by simp)⟩
  have HB := hide hbe
  clear hbe
  go_loopg [4, 17] l.length (fun g s4 s17 wr => ∃ (j g' cap' : Nat), s17 = .int .i64 j ∧ j ≤ l.length ∧ l.length - j ≤ g ∧ s4 = .slice (some ⟨g', 0, none⟩) j cap' ∧ Hid (wr.ownsRow w.heap.size 63 1 (.slice (some ⟨g', 0, none⟩) j cap') j ((l.take j).map VV.ifc)) ∧ Hid (Below w.heap.size w wr) ∧ Hid (∀ i, i < j → l[i]!.good = true))
  case atStart => exact ⟨0, _, _, rfl, by omega, by omega, rfl, HO, HB, hide (fun i hi => by omega)⟩
  case round =>
    obtain ⟨j, g', cap', rfl, hj, hg, rfl, hO, hB, hG⟩ := hrel
    by_cases hlt : j < l.length
    · obtain ⟨c0, c1, c2, c3, c4⟩ := unhide HR j hlt
      have hbb : ∀ o, wr.cell? ⟨b, o, none⟩ = w.cell? ⟨b, o, none⟩ := fun o => (unhide hB).cell (p := ⟨b, o, none⟩) hb
      rw [← hbb] at c0 c1 c2 c3 c4
      clear hbb
      simp only [Nat.zero_add] at c0 c1 c2 c3 c4
      have hjz : (j : Int) < l.length := by omega
      cases hgd : l[j]!.good
      · have HI := hide (inside_bad l[j]! hgd)
        have HBad : Hid (∃ v ∈ l, v.good = false) := hide ⟨l[j]!, by rw [getElem!_pos l j hlt]; exact List.getElem_mem hlt, hgd⟩
        unfold VV.agg at HI
        clear hgd
        generalize l[j]! = v at *
        go_wp2_with fail
        refine (unhide HI _ (tabs_below (unhide HT) ((unhide hB).alloc (unhide hB).size _))).mono ?_
        rintro e w1 ⟨rfl, hb1⟩
        have hB0 := (unhide hB).alloc (unhide hB).size (Obj.cells #[.int .i64 v.k, .bool v.b, .float .f64 v.x, .string v.s, .int .i64 v.i] 24)
        have HB1 := hide (hB0.trans (hb1.mono hB0.size))
        clear hb1 hB0
        go_wp2
        go_ret2
        exact ⟨unhide HB1, .inl ⟨unhide HBad, rfl⟩⟩
      · have HI := hide (inside_good l[j]! hgd)
        have HQ := hide (show (l.take (j + 1)).map VV.ifc = (l.take j).map VV.ifc ++ [l[j]!.ifc] by rw [List.take_succ_eq_append_getElem hlt, List.map_append, getElem!_pos l j hlt]; rfl)
        have HGd : Hid (∀ i, i < j + 1 → l[i]!.good = true) := hide (fun i hi => by
          by_cases e : i = j
          · rw [e]; exact hgd
          · exact unhide hG i (by omega))
        unfold VV.agg at HI
        generalize l[j]! = v at *
        have HV := hide (ifc_one v)
        generalize v.ifc = f at *
        clear hgd
        go_wp2_with fail
        refine (unhide HI _ (tabs_below (unhide HT) ((unhide hB).alloc (unhide hB).size _))).mono ?_
        rintro e w1 ⟨rfl, hb1⟩
        have hO1 := ((unhide hO).alloc (Obj.cells #[.int .i64 v.k, .bool v.b, .float .f64 v.x, .string v.s, .int .i64 v.i] 24)).kept (grown_of_below hb1) (Or.inr (by simp [Value.ownBlock]))
        have hB0 := (unhide hB).alloc (unhide hB).size (Obj.cells #[.int .i64 v.k, .bool v.b, .float .f64 v.x, .string v.s, .int .i64 v.i] 24)
        have hB1 := hB0.trans (hb1.mono hB0.size)
        have hs1 := hB1.size
        have hfc := one_cells (unhide HV)
        simp only [Value.cells] at hfc
        go_wp2_with (at_builtin; refine wpList_append_own _ rfl _ _ 73 rfl w.heap.size 63 i0 .nilIface 1 16 Tryd.underlying73 hi hz0 hz1 hz2 rfl (by decide) _ _ _ rfl (hO1.alloc _) ⟨w1.heap.size, 0, none⟩ 1 1 [f] rfl rfl (cell_one_new _ _ _) (fun u hu => by simp at hu; subst hu; exact unhide HV) (by unfold maxLen; omega) (by omega) (by simp; omega) ?_; intro v' w2 hown' hgrow _)
        obtain ⟨g2, cap2, rfl⟩ := ownsRow_succ hown'
        have hbase : w.heap.size ≤ g' := by
          rcases (unhide hO).2 with ⟨h, _⟩ | ⟨g, c, cur, e, h, _⟩
          · cases h
          · cases e
            exact h
        have hB2 : Below w.heap.size w w2 := by
          have h3 := hB1.alloc hs1 (Obj.cells #[f] 63)
          refine ⟨hgrow.os.trans h3.os, hgrow.tape.trans h3.tape, hgrow.output.trans h3.output, Nat.le_trans h3.size hgrow.size, fun k hk => ?_⟩
          rw [hgrow.block k (Nat.lt_of_lt_of_le hk h3.size) (by simp [go_sem, Value.ownBlock]; omega)]
          exact h3.block k hk
        go_roundg (l.length - (j + 1))
        case measure => omega
        case rel => exact ⟨j + 1, g2, cap2, by go_num, by omega, Nat.le_refl _, rfl, hide (by rw [unhide HQ]; exact hown'), hide hB2, HGd⟩
    · have hend : j = l.length := by omega
      subst hend
      have hjz : ¬ (l.length : Int) < l.length := by omega
      obtain ⟨d, hd⟩ := row_of l (fun v hv => by
        obtain ⟨i, hi, rfl⟩ := List.mem_iff_getElem.1 hv
        have := unhide hG i hi
        rw [getElem!_pos l i hi] at this
        exact ⟨this, unhide HX _ hv⟩)
      have hlen : l.length = d.length := by rw [← hd]; simp
      have hO' := unhide hO
      rw [List.take_length, ← hd] at hO'
      simp only [List.length_map] at hO'
      obtain ⟨hL, hbase, hcap⟩ := lies_owns hO'
      have h3 := tabs_size (unhide HT)
      have HS := hide (sort44 g' cap' d.toArray wr (tabs_below (unhide HT) (unhide hB)) (by omega) hL (by simp; omega))
      have HL := hide hL
      clear hL hO' hO
      have hdn : d.length ≤ 2932031007402 := by omega
      rw [hlen] at *
      go_wp2_with fail
      refine (unhide HS).mono ?_
      rintro e w1 ⟨rfl, d', hp, hs, hL1, hb1⟩
      have hz : d'.size = d.length := by rw [← Array.length_toList, hp.length_eq]
      have HC := hide (compact46 g' cap' d' w1 hL1 (by omega) (by omega))
      rw [hz] at HC
      have HA := hide (rows_alike d d' hp (by rw [hz]; simpa using hs))
      have hB1 := (unhide hB).trans (hb1.mono hbase)
      clear hL1 hb1 hs HS HL hp
      go_wp2_with fail
      refine (unhide HC).mono ?_
      rintro e w2 ⟨rfl, hb2, rest, hrow⟩
      rw [hz] at HA
      have hB2 := hB1.trans (hb2.mono hbase)
      clear hb2 HC hB1
      have hkl : (keptUpTo (kpG d') d' d.length).length ≤ d.length := by
        unfold keptUpTo
        rw [List.length_map]
        exact Nat.le_trans (List.length_filter_le _ _) (by simp)
      generalize keptUpTo (kpG d') d' d.length = ks at *
      obtain ⟨i1, ki, kz0, kz1, kz2⟩ := info_parts info24
      have hmk := run_make (P := Tryd.prog) w2 47 24 i1 _ Tryd.underlying47 ki kz0 .i64 .i64 ks.length ks.length (by omega) (Int.le_refl _) (by rw [kz2]; omega) (by omega)
      simp only [Int.toNat_natCast, kz1] at hmk
      go_wp2_with fail
      have hO0 : Out (w2.alloc (Obj.cells (madeCells #[Value.int IntKind.i64 0, Value.bool false, Value.float FloatKind.f64 0, Value.string ByteArray.empty, Value.int IntKind.i64 0] (ks.length * 5)) 24)) w2.heap.size ks 0 := by
        refine ⟨_, (show (w2.heap.push _)[w2.heap.size]? = _ from Array.getElem?_push_size), size_madeCells _ _, fun i hi => by omega⟩
      have HO0 := hide hO0
      have HROW := hide hrow
      have hgl : g' < w2.heap.size := (Array.getElem?_eq_some_iff.1 hrow).1
      clear hO0 hrow
      go_loopg [42] ks.length (fun g s42 wr => ∃ j : Nat, s42 = .int .i64 j ∧ j ≤ ks.length ∧ ks.length - j ≤ g ∧ Hid (Below w2.heap.size w2 wr) ∧ Hid (Out wr w2.heap.size ks j))
      case atStart => exact ⟨0, rfl, by omega, by omega, hide ((Below.refl _ _).alloc (Nat.le_refl _) _), HO0⟩
      case round =>
        obtain ⟨j, rfl, hj, hg2, hBr, hOr⟩ := hrel
        by_cases hlt2 : j < ks.length
        · have cx : wr.cell? ⟨g', j, none⟩ = some (encG ks[j]!) := by
            rw [(unhide hBr).cell (p := ⟨g', j, none⟩) hgl]
            simp [go_sem, World.cell?, unhide HROW, hlt2, List.getElem?_append_left]
          have HX2 := hide (fun w => outside_any ks[j]!.1 ks[j]!.2.1 w)
          unfold encG at cx
          generalize hv : ks[j]!.1 = v at *
          have HV2 := hide hv
          clear hv
          generalize v.ifc = f at *
          unfold VV.agg at HX2
          have hjz2 : (j : Int) < ks.length := by omega
          go_wp2_with fail
          refine (unhide HX2 _).mono ?_
          rintro e w3 ⟨rfl, hb3⟩
          have hO3 : Out w3 w2.heap.size ks j := by
            obtain ⟨c, h1, h2, h3⟩ := unhide hOr
            exact ⟨c, (hb3.block _ (Array.getElem?_eq_some_iff.1 h1).1).trans h1, h2, h3⟩
          have hB3 := (unhide hBr).trans (hb3.mono (unhide hBr).size)
          obtain ⟨⟨o0, c0⟩, f0⟩ := out_cell hO3 (j * 5) (by omega)
          obtain ⟨⟨o1, c1⟩, f1⟩ := out_cell hO3 (j * 5 + 1) (by omega)
          obtain ⟨⟨o2, c2⟩, f2⟩ := out_cell hO3 (j * 5 + 2) (by omega)
          obtain ⟨⟨o3, c3⟩, f3⟩ := out_cell hO3 (j * 5 + 3) (by omega)
          obtain ⟨⟨o4, c4⟩, f4⟩ := out_cell hO3 (j * 5 + 4) (by omega)
          have HO3 := hide hO3
          have HB3 := hide hB3
          clear hO3 hB3 hb3 cx HX2
          go_wp2
          go_roundg (ks.length - (j + 1))
          case measure => omega
          case rel => exact ⟨j + 1, by go_num, by omega, Nat.le_refl _, hide (((((unhide HB3).setCell (p := ⟨w2.heap.size, j * 5, none⟩) (Nat.le_refl _) _).setCell (p := ⟨w2.heap.size, j * 5 + 1, none⟩) (Nat.le_refl _) _).setCell (p := ⟨w2.heap.size, j * 5 + 2, none⟩) (Nat.le_refl _) _).setCell (p := ⟨w2.heap.size, j * 5 + 3, none⟩) (Nat.le_refl _) _ |>.setCell (p := ⟨w2.heap.size, j * 5 + 4, none⟩) (Nat.le_refl _) _), hide (out_step (unhide HO3) hlt2 v (unhide HV2))⟩
        · have hjz2 : ¬ (j : Int) < ks.length := by omega
          have hend2 : j = ks.length := by omega
          subst hend2
          go_wp2
          go_ret2
          exact ⟨hB2.trans ((unhide hBr).mono hB2.size), .inr ⟨d, ks, w2.heap.size, hd, unhide HA, rfl, unhide hOr, hB2.size⟩⟩
end Go.Proofs.YtdlbciiekghkaaaDoor
