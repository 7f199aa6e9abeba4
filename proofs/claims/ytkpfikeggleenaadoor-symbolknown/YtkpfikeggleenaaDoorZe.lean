import Derived.Test.YtkpfikeggleenaaDoorZc
import Derived.Test.YtkpfikeggleenaaDoorZd
import Derived.Test.YtkpfikeggleenaaDoorYl
namespace Go.Proofs.YtkpfikeggleenaaDoor
open Go Go.Proofs Go.Maps Go.RowKit
set_option linter.unusedSimpArgs false
set_option linter.unusedVariables false
set_option maxHeartbeats 1000000
/-- A slice whose elements are these texts. -/
def ReadsT (w : World) (A : Option Addr) (l : List ByteArray) : Prop := ∀ j s, l[j]? = some s → OkS s ∧ ∃ b off, A = some ⟨b, off, none⟩ ∧ b < w.heap.size ∧ w.cell? ⟨b, off + j * 1, none⟩ = some (.string s)
theorem idx33 (w : World) : (sizeOf (Tryd.prog.elem 33)).run Tryd.prog w = .ok 1 w := by kernel_rfl
theorem und33 : Tryd.prog.underlying 33 = some (.slice (Tryd.prog.elem 33)) := by kernel_rfl
theorem ex_lookS1 {o : Oper} {a : Act} {w : World} {m x : Operand} {b n sz k : Nat} {F : ByteArray → Option Nat} {s : ByteArray} (ho : o.op = .lookup 37 m x true) (hm : a.eval m = .map (some b)) (hx : a.eval x = .string s) (h : MapS w b n sz F) (hk : OkS s) (hr : F s = some k) : (execOp a.eval o).run Tryd.prog w = .ok (.value (.tuple #[.int .i64 (k : Nat), .bool true])) w := ex_lookS ho hm hx h hk hr
theorem ex_lookS0 {o : Oper} {a : Act} {w : World} {m x : Operand} {b n sz : Nat} {F : ByteArray → Option Nat} {s : ByteArray} (ho : o.op = .lookup 37 m x true) (hm : a.eval m = .map (some b)) (hx : a.eval x = .string s) (h : MapS w b n sz F) (hk : OkS s) (hr : F s = none) : (execOp a.eval o).run Tryd.prog w = .ok (.value (.tuple #[.int .i64 0, .bool false])) w := ex_lookS ho hm hx h hk hr
def KI (w wr : World) (r m M1 M2 c : Nat) : Prop := ∃ sv ll F sz G n n1 n2, KS w wr r m M1 M2 sv ll F sz G n n1 n2 ∧ ll.length ≤ 13 + 2 * c ∧ sz ≤ c ∧ n ≤ c ∧ n1 ≤ c ∧ n2 ≤ c
theorem KS.fresh2 {w wr X1 X2 X3 : World} {r m M1 M2 NV : Nat} {sv sv' : Value} {ll : List SY} {F : ByteArray → Option Nat} {sz : Nat} {G : Nat → Int} {n n1 n2 : Nat} {s : ByteArray} (hN : NV = ll.length + 1) (h : KS w wr r m M1 M2 sv ll F sz G n n1 n2) (hg : (sV s).good = true) (hk : OkS s) (hI : (RG.mk r m sv' (ll ++ [SY.mk (sV s) true])).Is X1 (n + 1) (sz + 1) (putS F s NV)) (hF : Fr wr X1 (RG.mk r m sv ll).blocks) (hS : ∀ g, sv'.ownBlock = some g → sv.ownBlock = some g ∨ wr.heap.size ≤ g)
    (hM : MapS X2 M1 (n1 + 1) (sz + 1) (putS F s NV)) (h2 : Fr X1 X2 [M1]) (hN2 : MapI X3 M2 (n2 + 1) (putI G NV 1)) (h3 : Fr X2 X3 [M2]) : KS w X3 r m M1 M2 sv' (ll ++ [SY.mk (sV s) true]) (putS F s NV) (sz + 1) (putI G NV 1) (n + 1) (n1 + 1) (n2 + 1) := by
  subst hN
  exact h.fresh hg hk hI hF hS hM h2 hN2 h3
theorem ki_start {w X3 X4 : World} {r m M1 M2 : Nat} {sv : Value} {c : Nat} (hI : (RG.mk r m sv wkY).Is X3 0 0 (fun _ => none)) (hlt : ∀ b ∈ (RG.mk r m sv wkY).blocks, b < M1) (hge : ∀ b ∈ (RG.mk r m sv wkY).blocks, w.heap.size ≤ b) (hM : MapS X3 M1 0 0 (fun _ => none)) (g1 : w.heap.size ≤ M1) (hN : MapI X4 M2 0 (fun _ => 0)) (h12 : M1 < M2) (g2 : w.heap.size ≤ M2) (hb : Below X3.heap.size X3 X4) (hf : Fr w X4 []) : KI w X4 r m M1 M2 (0 * c) :=
  ⟨sv, wkY, _, 0, _, 0, 0, 0, ⟨hI.on hb, hM.block (hb.block _ hM.lt), hN, hf, hge, g1, g2, fun h => absurd (hlt _ h) (by omega), fun h => absurd (hlt _ h) (by omega), by omega, (fun s hs k hk => by cases hk), fun _ _ _ => rfl⟩, by rw [wkY_length]; omega, Nat.zero_le _, Nat.zero_le _, Nat.zero_le _, Nat.zero_le _⟩
set_option maxHeartbeats 8000000 in
set_option maxRecDepth 100000 in
theorem law_known (A1 A2 : Option Addr) (cap1 cap2 : Nat) (l1 : List ByteArray) (l2 : List VV) (w : World) (hT : Tabs w) (hr1 : ReadsT w A1 l1) (hr2 : ReadsV w A2 l2) : Calls Tryd.prog 4 #[.slice A1 l1.length cap1, .slice A2 l2.length cap2] w fun e w' => e = .returned (.bool true) ∧ Below w.heap.size w w' := by
  have HW := hide (works11 w hT)
  have HT := hide hT
  have HR1 := hide hr1
  have HR2 := hide hr2
  clear hT hr1 hr2
  by_cases hbig : 300 < l1.length
  · have hz : decide ((300 : Int) < (l1.length : Int)) = true := decide_eq_true (by omega)
    clear hbig
    go_enter Tryd.func4, Tryd.ntmps4
    go_wp2_with fail
    refine (unhide HW).mono ?_
    rintro e X1 ⟨rfl, hb⟩
    have HB := hide hb
    clear hb
    go_wp2_with (first | go_skip | ((with_reducible show wpList _ _ _ _ _ _); first | ((refine rd (by rfl) (ex_lenG 33 9 Tryd.underlying33 rfl rfl) ?_); simp only [Act.put, List.setIfInBounds_toArray, List.set_cons_succ, List.set_cons_zero]) | ((refine rd (by rfl) (ex_lenG 34 44 Tryd.underlying34 rfl rfl) ?_); simp only [Act.put, List.setIfInBounds_toArray, List.set_cons_succ, List.set_cons_zero])))
    go_ret
    exact ⟨rfl, unhide HB⟩
  by_cases hbig2 : 300 < l2.length
  · have hz : decide ((300 : Int) < (l1.length : Int)) = false := decide_eq_false (by omega)
    have hz2 : decide ((300 : Int) < (l2.length : Int)) = true := decide_eq_true (by omega)
    clear hbig hbig2
    go_enter Tryd.func4, Tryd.ntmps4
    go_wp2_with fail
    refine (unhide HW).mono ?_
    rintro e X1 ⟨rfl, hb⟩
    have HB := hide hb
    clear hb
    go_wp2_with (first | go_skip | ((with_reducible show wpList _ _ _ _ _ _); first | ((refine rd (by rfl) (ex_lenG 33 9 Tryd.underlying33 rfl rfl) ?_); simp only [Act.put, List.setIfInBounds_toArray, List.set_cons_succ, List.set_cons_zero]) | ((refine rd (by rfl) (ex_lenG 34 44 Tryd.underlying34 rfl rfl) ?_); simp only [Act.put, List.setIfInBounds_toArray, List.set_cons_succ, List.set_cons_zero])))
    go_ret
    exact ⟨rfl, unhide HB⟩
  have hz : decide ((300 : Int) < (l1.length : Int)) = false := decide_eq_false (by omega)
  have hz2 : decide ((300 : Int) < (l2.length : Int)) = false := decide_eq_false (by omega)
  have HL : Hid (l1.length ≤ 300) := hide (by omega)
  clear hbig hbig2
  go_enter Tryd.func4, Tryd.ntmps4
  go_wp2_with fail
  refine (unhide HW).mono ?_
  rintro e X1 ⟨rfl, hb⟩
  have LL := hide ((Hq.nil w []).on hb)
  have HN := hide (new12 X1 ((unhide HT).on hb))
  clear hb HW
  go_wp2_with (first | go_skip | ((with_reducible show wpList _ _ _ _ _ _); first | ((refine rd (by rfl) (ex_lenG 33 9 Tryd.underlying33 rfl rfl) ?_); simp only [Act.put, List.setIfInBounds_toArray, List.set_cons_succ, List.set_cons_zero]) | ((refine rd (by rfl) (ex_lenG 34 44 Tryd.underlying34 rfl rfl) ?_); simp only [Act.put, List.setIfInBounds_toArray, List.set_cons_succ, List.set_cons_zero])))
  refine (unhide HN).mono ?_
  rintro e X2 ⟨⟨r, m, sv, l2a⟩, rfl, hI, hl, hge, hb⟩
  dsimp only at *
  subst hl
  have HI := hide (And.intro hI (fun b hb2 => Nat.le_trans (unhide LL).fr.size (hge b hb2)))
  replace LL := hide ((unhide LL).on hb)
  clear hI hge hb HN
  go_wp2_with (first | go_skip | ((with_reducible show wpList _ _ _ _ _ _); first | ((refine mmS (by rfl) rfl (unhide LL) ?_); intro X3 M1 hE1 L1 hM1 hlt1 hb1; have HM1 := hide (And.intro hM1 (And.intro hE1 (And.intro hlt1 (Nat.le_trans (unhide LL).fr.size (Nat.le_of_eq hE1.symm))))); replace HI := hide (And.intro ((unhide HI).1.on hb1) (And.intro (fun b hb2 => Nat.lt_of_lt_of_le ((unhide HI).1.lt b hb2) (Nat.le_of_eq hE1.symm)) (unhide HI).2)); replace LL := hide L1; clear L1 hM1 hlt1 hb1 hE1; simp only [Act.put, List.setIfInBounds_toArray, List.set_cons_succ, List.set_cons_zero]) | ((refine mmI (by rfl) rfl (unhide LL) ?_); intro X4 M2 hE2 L2 hM2 hlt2 hb2; have HM2 := hide (And.intro hM2 (And.intro (Nat.lt_of_lt_of_le (unhide HM1).2.2.1 (Nat.le_of_eq hE2.symm)) (Nat.le_trans (unhide LL).fr.size (Nat.le_of_eq hE2.symm)))); have HK : Hid (KI w X4 r m M1 M2 (0 * l1.length)) := hide (ki_start (unhide HI).1 (unhide HI).2.1 (unhide HI).2.2 (unhide HM1).1 (unhide HM1).2.2.2 hM2 (unhide HM2).2.1 (unhide HM2).2.2 hb2 L2.fr); clear L2 hM2 hlt2 hb2 hE2; simp only [Act.put, List.setIfInBounds_toArray, List.set_cons_succ, List.set_cons_zero])))
  clear HI HM1 HM2 LL
  go_loopg [8] 2 (fun gm s8 wr => ∃ t : Nat, s8 = .int .i64 t ∧ t ≤ 2 ∧ 2 - t ≤ gm ∧ Hid (KI w wr r m M1 M2 (t * l1.length)))
  case atStart => exact ⟨0, rfl, by omega, by omega, HK⟩
  case round =>
    clear HK
    obtain ⟨t, rfl, ht, hgm, HK⟩ := hrel
    by_cases htl : t < 2
    · have htz : decide ((t : Int) < 2) = true := decide_eq_true (by omega)
      have htw : IntKind.i64.wrap ((t : Int) + 1) = (t : Int) + 1 := by rw [IntKind.wrap_i64]; omega
      have HTL := hide htl
      clear htl
      go_wp2_with fail
      go_loopg [9] l1.length (fun gm s9 wr => ∃ i : Nat, s9 = .int .i64 i ∧ i ≤ l1.length ∧ l1.length - i ≤ gm ∧ Hid (KI w wr r m M1 M2 (t * l1.length + i)))
      case atStart => exact ⟨0, rfl, by omega, by omega, HK⟩
      case round =>
        clear HK
        obtain ⟨i, rfl, hi, hgm2, HK⟩ := hrel
        by_cases hlt : i < l1.length
        · have hlz : decide ((i : Int) < (l1.length : Int)) = true := decide_eq_true (by omega)
          have hw1 : IntKind.i64.wrap ((i : Int) + 1) = (i : Int) + 1 := by have := unhide HL; rw [IntKind.wrap_i64]; omega
          obtain ⟨C, hC⟩ : ∃ C, C = t * l1.length + i := ⟨_, rfl⟩
          rw [← hC] at HK
          have HCC := hide hC
          have hCb : C < 700 := by have h1 := unhide HL; have h2 := unhide HTL; have h3 : t * l1.length ≤ 1 * l1.length := Nat.mul_le_mul_right _ (by omega); omega
          obtain ⟨sv, ll, F, sz, G, n, n1, n2, hS, h1, h2, h3, h4, h5⟩ := unhide HK
          have HS := hide hS
          have hBD : Hid (ll.length ≤ 13 + 2 * C ∧ sz ≤ C ∧ n ≤ C ∧ n1 ≤ C ∧ n2 ≤ C ∧ C < 700) := hide ⟨h1, h2, h3, h4, h5, hCb⟩
          obtain ⟨s, hs⟩ : ∃ s, l1[i]? = some s := ⟨_, List.getElem?_eq_getElem hlt⟩
          obtain ⟨hok, b1, off1, hA1, hb1, hc1⟩ := unhide HR1 i s hs
          subst hA1
          have HOK := hide hok
          have HTX : Hid (∀ X, Fr w X [] → X.cell? ⟨b1, off1 + i * 1, none⟩ = some (.string s)) := hide (fun X hX => (World.cell?_of_block (hX.block b1 hb1 (by simp))).trans hc1)
          have HLT := hide hlt
          clear hS h1 h2 h3 h4 h5 hCb hC hs hok hb1 hc1 hlt HK
          by_cases hi2 : i < l2.length
          · have hi2z : decide ((i : Int) < (l2.length : Int)) = true := decide_eq_true (by omega)
            obtain ⟨u, hu⟩ : ∃ u, l2[i]? = some u := ⟨_, List.getElem?_eq_getElem hi2⟩
            obtain ⟨b2, off2, hA2, hb2, hc2⟩ := unhide HR2 i u hu
            subst hA2
            have HVX : Hid (∀ X, Fr w X [] → X.rangeAt b2 (off2 + i * 5) u.cs) := hide (fun X hX j v hv => (World.cell?_of_block (hX.block b2 hb2 (by simp))).trans (hc2 j v hv))
            have HLT2 := hide hi2
            have HFR := hide (unhide HS).fr
            have hTW := (unhide HT).fr (unhide HS).fr (by simp)
            clear hu hb2 hc2 hi2
            cases hd : desV u
            · have HM := hide (make_no ⟨r, m, sv, ll⟩ u wr (unhide HS).reg hTW hd)
              rw [vagg] at HM
              clear hd hTW
              go_wp2_with (first | go_skip | ((with_reducible show wpList _ _ _ _ _ _); first | ((refine rd (by rfl) (ex_lenG 33 9 Tryd.underlying33 rfl rfl) ?_); simp only [Act.put, List.setIfInBounds_toArray, List.set_cons_succ, List.set_cons_zero]) | ((refine rd (by rfl) (ex_lenG 34 44 Tryd.underlying34 rfl rfl) ?_); simp only [Act.put, List.setIfInBounds_toArray, List.set_cons_succ, List.set_cons_zero]) | ((refine rd (by rfl) (ex_indexG 34 5 i und34 idx34 rfl rfl rfl (unhide HLT2)) ?_); simp only [Act.put, List.setIfInBounds_toArray, List.set_cons_succ, List.set_cons_zero]) | ((refine rd (by rfl) (ex_loadR 44 5 row44 siz44 rfl rfl (unhide HVX _ (unhide HFR)) rfl) ?_); simp only [Act.put, List.setIfInBounds_toArray, List.set_cons_succ, List.set_cons_zero])))
              refine (unhide HM).mono ?_
              rintro e X3 ⟨rfl, hb⟩
              replace HS := hide ((unhide HS).on hb)
              have HBD := hBD
              clear hb HM HFR hBD
              go_wp2_with fail
              have HFR := hide (unhide HS).fr
              have HNC := hide (count14 ⟨r, m, sv, ll⟩ X3 (unhide HS).reg)
              dsimp only at HNC
              have hTX := (unhide HT).fr (unhide HS).fr (by simp)
              cases hgs : (sV s).good
              · have HC := hide (for_no ⟨r, m, sv, ll⟩ s X3 (unhide HS).reg hTX hgs)
                clear hgs hTX
                go_wp2_with fail
                refine (unhide HNC).mono ?_
                rintro e X9 ⟨rfl, h9⟩
                rw [h9]
                clear h9 X9
                go_wp2_with (first | go_skip | ((with_reducible show wpList _ _ _ _ _ _); first | ((refine rd (by rfl) (ex_indexG 33 1 i und33 idx33 rfl rfl rfl (unhide HLT)) ?_); simp only [Act.put, List.setIfInBounds_toArray, List.set_cons_succ, List.set_cons_zero]) | ((refine rd (by rfl) (ex_loadC 9 Tryd.isAgg9 rfl rfl (unhide HTX _ (unhide HFR))) ?_); simp only [Act.put, List.setIfInBounds_toArray, List.set_cons_succ, List.set_cons_zero])))
                refine (unhide HC).mono ?_
                rintro e X2 ⟨rfl, hb⟩
                have HS2 := hide ((unhide HS).on hb)
                clear hb HC HNC
                go_wp2_with fail
                refine (num16 5 ⟨by omega, by omega⟩ _).mono ?_
                rintro e X9 ⟨rfl, h9⟩
                rw [h9]
                clear h9 X9
                go_wp2_with fail
                refine (num16 5 ⟨by omega, by omega⟩ _).mono ?_
                rintro e X9 ⟨rfl, h9⟩
                rw [h9]
                clear h9 X9
                have HNC := hide (count14 ⟨r, m, sv, ll⟩ X2 (unhide HS2).reg)
                dsimp only at HNC
                go_wp2_with fail
                refine (unhide HNC).mono ?_
                rintro e X9 ⟨rfl, h9⟩
                rw [h9]
                clear h9 X9
                go_wp2
                go_roundg (l1.length - (i + 1))
                case measure => have := unhide HLT; omega
                case rel => exact ⟨i + 1, by go_num, by have := unhide HLT; omega, by omega, hide (by have e := unhide HCC; rw [show t * l1.length + (i + 1) = C + 1 by omega]; exact ⟨_, _, _, _, _, _, _, _, unhide HS2, by have := unhide HBD; omega, by have := unhide HBD; omega, by have := unhide HBD; omega, by have := unhide HBD; omega, by have := unhide HBD; omega⟩)⟩
              · cases hF : F s with
                | none =>
                  obtain ⟨NV, hNV⟩ : ∃ NV : Nat, NV = ll.length + 1 := ⟨_, rfl⟩
                  have hk6 : Hid (NV < 1000000) := hide (by have := unhide HBD; omega)
                  have hll : Hid (ll.length < 1000000) := hide (by have := unhide HBD; omega)
                  have HC0 := for_new ⟨r, m, sv, ll⟩ s X3 (unhide HS).reg hTX hgs hF (by have := unhide HBD; dsimp only; omega) (by have := unhide HBD; omega)
                  dsimp only at HC0
                  rw [← hNV] at HC0
                  have HC := hide HC0
                  have HF := hide hF
                  have HG := hide hgs
                  have HNV := hide hNV
                  have HTK : Hid (G NV = 0) := hide ((unhide HS).tk NV (by omega) (unhide hk6))
                  clear hgs hTX hF hNV HC0
                  go_wp2_with fail
                  refine (unhide HNC).mono ?_
                  rintro e X9 ⟨rfl, h9⟩
                  rw [h9]
                  clear h9 X9
                  go_wp2_with (first | go_skip | ((with_reducible show wpList _ _ _ _ _ _); first | ((refine rd (by rfl) (ex_indexG 33 1 i und33 idx33 rfl rfl rfl (unhide HLT)) ?_); simp only [Act.put, List.setIfInBounds_toArray, List.set_cons_succ, List.set_cons_zero]) | ((refine rd (by rfl) (ex_loadC 9 Tryd.isAgg9 rfl rfl (unhide HTX _ (unhide HFR))) ?_); simp only [Act.put, List.setIfInBounds_toArray, List.set_cons_succ, List.set_cons_zero])))
                  refine (unhide HC).mono ?_
                  rintro e X2 ⟨rfl, sv2, hI2, hF2, hS2⟩
                  have HI2 := hide (And.intro hI2 (And.intro hF2 hS2))
                  replace HFR := hide ((unhide HFR).trans hF2 (fun b hb => .inr ((unhide HS).ge b hb)))
                  clear hI2 hF2 hS2 HC HNC
                  go_wp2_with fail
                  refine (num16 0 ⟨by omega, by omega⟩ _).mono ?_
                  rintro e X9 ⟨rfl, h9⟩
                  rw [h9]
                  clear h9 X9
                  have HM2 := hide ((unhide HS).fst.block ((unhide HI2).2.1.block _ (unhide HS).fst.lt (unhide HS).a1))
                  have HN2 := hide ((unhide HS).tak.block ((unhide HI2).2.1.block _ (unhide HS).tak.lt (unhide HS).a2))
                  have HNC : Hid (Calls Tryd.prog 14 #[.pointer (some ⟨r, 0, none⟩)] X2 fun e w' => e = .returned (.int .i64 (NV : Nat)) ∧ w' = X2) := hide (by have h := count14 ⟨r, m, sv2, (ll ++ [SY.mk (sV s) true])⟩ X2 (unhide HI2).1; rw [List.length_append] at h; rw [unhide HNV]; exact h)
                  go_wp2_with (first | go_skip | ((with_reducible show wpList _ _ _ _ _ _); first | ((refine rd (by rfl) (ex_indexG 33 1 i und33 idx33 rfl rfl rfl (unhide HLT)) ?_); simp only [Act.put, List.setIfInBounds_toArray, List.set_cons_succ, List.set_cons_zero]) | ((refine rd (by rfl) (ex_loadC 9 Tryd.isAgg9 rfl rfl (unhide HTX _ (unhide HFR))) ?_); simp only [Act.put, List.setIfInBounds_toArray, List.set_cons_succ, List.set_cons_zero]) | ((refine rd (by rfl) (ex_lookS0 rfl rfl rfl (unhide HM2) (unhide HOK) (unhide HF)) ?_); simp only [Act.put, List.setIfInBounds_toArray, List.set_cons_succ, List.set_cons_zero]) | ((refine rd (by rfl) (ex_lookI (k := NV) (c := 0) rfl rfl rfl (unhide HN2) (unhide hk6) (unhide HTK)) ?_); simp only [Act.put, List.setIfInBounds_toArray, List.set_cons_succ, List.set_cons_zero]) | ((refine rd (by rfl) ((ex_add1 (n := ll.length) rfl rfl rfl (unhide hll)).trans (by rw [← unhide HNV])) ?_); simp only [Act.put, List.setIfInBounds_toArray, List.set_cons_succ, List.set_cons_zero])))
                  refine (unhide HNC).mono ?_
                  rintro e X9 ⟨rfl, h9⟩
                  rw [h9]
                  clear h9 X9
                  go_wp2_with (first | go_skip | ((with_reducible show wpList _ _ _ _ _ _); first | ((refine rd (by rfl) (ex_indexG 33 1 i und33 idx33 rfl rfl rfl (unhide HLT)) ?_); simp only [Act.put, List.setIfInBounds_toArray, List.set_cons_succ, List.set_cons_zero]) | ((refine rd (by rfl) (ex_loadC 9 Tryd.isAgg9 rfl rfl (unhide HTX _ (unhide HFR))) ?_); simp only [Act.put, List.setIfInBounds_toArray, List.set_cons_succ, List.set_cons_zero]) | ((refine updS (b := M1) (r := NV) (s := s) (by rfl) rfl rfl rfl rfl (unhide HM2) (unhide HOK) (by have := unhide HBD; unfold maxLen; omega) ?_); intro X3 hM3 hf3; rw [unhide HF] at hM3; have HM3 := hide (And.intro hM3 hf3); replace HFR := hide ((unhide HFR).trans hf3 (fun b hb => .inr (by obtain rfl : b = M1 := (by simpa using hb); exact (unhide HS).g1))); clear hM3 hf3; simp only [Act.put, List.setIfInBounds_toArray, List.set_cons_succ, List.set_cons_zero]) | ((refine updI (b := M2) (k := NV) (c := 1) (by rfl) rfl rfl rfl rfl ((unhide HN2).block ((unhide HM3).2.block _ (unhide HN2).lt (by simpa using fun e => (unhide HS).a12 e.symm))) (unhide hk6) (by have := unhide HBD; unfold maxLen; omega) ?_); intro X4 hN4 hf4; have HS4 := hide (KS.fresh2 (unhide HNV) (unhide HS) (unhide HG) (unhide HOK) (unhide HI2).1 (unhide HI2).2.1 (unhide HI2).2.2 (unhide HM3).1 (unhide HM3).2 hN4 hf4); replace HFR := hide (unhide HS4).fr; clear hN4 hf4; simp only [Act.put, List.setIfInBounds_toArray, List.set_cons_succ, List.set_cons_zero])))
                  have C17 : Hid (∀ X, Below X4.heap.size X4 X → Calls Tryd.prog 17 #[.pointer (some ⟨r, 0, none⟩), .int .i64 (NV : Nat)] X fun e w' => e = .returned (.tuple #[.string s, .bool true, .int .i64 0]) ∧ Below X.heap.size X w') := hide (fun X hX => by rw [unhide HNV]; exact keyFor_in ⟨r, m, sv2, (ll ++ [SY.mk (sV s) true])⟩ ll.length (SY.mk (sV s) true) X ((unhide HS4).reg.on hX) (by simp) (by have := unhide HBD; simp; omega))
                  have C18 : Hid (∀ X, Below X4.heap.size X4 X → Calls Tryd.prog 18 #[.pointer (some ⟨r, 0, none⟩), .int .i64 (NV : Nat)] X fun e w' => e = .returned (.tuple #[.agg (sV s).cs.toArray, .int .i64 0]) ∧ Below X.heap.size X w') := hide (fun X hX => by rw [unhide HNV]; exact desc_in ⟨r, m, sv2, (ll ++ [SY.mk (sV s) true])⟩ ll.length (SY.mk (sV s) true) X ((unhide HS4).reg.on hX) (by simp) (by have := unhide HBD; simp; omega))
                  refine (unhide C17 _ (Below.refl _ _)).mono ?_
                  rintro e X5 ⟨rfl, hb5⟩
                  replace HFR := hide ((unhide HFR).on hb5)
                  have HB5 := hide hb5
                  clear hb5
                  go_wp2_with fail
                  refine (unhide C18 _ (unhide HB5)).mono ?_
                  rintro e X6 ⟨rfl, hb6⟩
                  replace HFR := hide ((unhide HFR).on hb6)
                  have HB6 := hide ((unhide HB5).trans (hb6.mono (unhide HB5).size))
                  have LL := hide (Hq.nil X6 [])
                  clear hb6 HB5
                  go_wp2_with (first | go_skip | ((with_reducible show wpList _ _ _ _ _ _); first | ((refine alG 44 (zeroV.cs) (by rfl) rfl (fun w => by kernel_rfl) (Nat.succ_pos _) (unhide LL) ?_); intro X7 B7 hE7 L7 hb7; have hB7 := hide (Nat.le_trans (unhide LL).fr.size (Nat.le_of_eq hE7.symm)); replace LL := hide L7; clear L7 hb7 hE7; simp only [Act.put, List.setIfInBounds_toArray, List.set_cons_succ, List.set_cons_zero]) | ((refine st (vs := (sV s).cs) 0 44 (by rfl) rfl rfl rfl rfl (vcs_one _) (siz44) (unhide LL) rfl (by simp [cput, ycs_length, vcs_length, SY.cs, VV.cs]) (Or.inr (unhide hB7)) ?_); intro X8 L8 hf8 hs8; replace LL := hide L8; clear L8 hf8 hs8; simp only [Act.put, List.setIfInBounds_toArray, List.set_cons_succ, List.set_cons_zero]) | ((refine rd (by rfl) (ex_indexG 33 1 i und33 idx33 rfl rfl rfl (unhide HLT)) ?_); simp only [Act.put, List.setIfInBounds_toArray, List.set_cons_succ, List.set_cons_zero]) | ((refine rd (by rfl) (ex_loadC 9 Tryd.isAgg9 rfl rfl (unhide HTX _ ((unhide HFR).trans (unhide LL).fr (by simp)))) ?_); simp only [Act.put, List.setIfInBounds_toArray, List.set_cons_succ, List.set_cons_zero])))
                  refine (num16 0 ⟨by omega, by omega⟩ _).mono ?_
                  rintro e X9 ⟨rfl, h9⟩
                  rw [h9]
                  clear h9 X9
                  go_wp2_with fail
                  refine (num16 0 ⟨by omega, by omega⟩ _).mono ?_
                  rintro e X9 ⟨rfl, h9⟩
                  rw [h9]
                  clear h9 X9
                  go_wp2_with (first | go_skip | ((with_reducible show wpList _ _ _ _ _ _); first | ((refine rd (by rfl) (ex_loadN (vs := (sV s).cs) 44 5 row44 siz44 rfl rfl ((unhide LL).get 0 rfl) rfl rfl) ?_); simp only [Act.put, List.setIfInBounds_toArray, List.set_cons_succ, List.set_cons_zero]) | ((refine rd (by rfl) (ex_build44s (s := s) rfl rfl rfl) ?_); simp only [Act.put, List.setIfInBounds_toArray, List.set_cons_succ, List.set_cons_zero])))
                  refine (eq_any (sV s) (sV s) _).mono ?_
                  rintro e X10 ⟨rfl, hb⟩
                  rw [eqB_self]
                  replace LL := hide ((unhide LL).on hb)
                  clear hb
                  go_wp2
                  have HS5 := hide (((unhide HS4).on (unhide HB6)).on (unhide LL).fr.below)
                  go_roundg (l1.length - (i + 1))
                  case measure => have := unhide HLT; omega
                  case rel => exact ⟨i + 1, by go_num, by have := unhide HLT; omega, by omega, hide (by have e := unhide HCC; rw [show t * l1.length + (i + 1) = C + 1 by omega]; exact ⟨_, _, _, _, _, _, _, _, unhide HS5, by have := unhide HBD; simp; omega, by have := unhide HBD; omega, by have := unhide HBD; omega, by have := unhide HBD; omega, by have := unhide HBD; omega⟩)⟩
                | some k =>
                  obtain ⟨-, j, hkj, hj⟩ := (unhide HS).kn s (unhide HOK) k hF
                  have hjl := (List.getElem?_eq_some_iff.1 hj).1
                  have hk6 : Hid (k < 1000000) := hide (by have := unhide HBD; omega)
                  have HC := hide (for_old ⟨r, m, sv, ll⟩ s X3 (unhide HS).reg hTX hgs k hF)
                  have HF := hide hF
                  have HKJ := hide (And.intro hkj hj)
                  clear hgs hTX hF hkj hj hjl
                  go_wp2_with fail
                  refine (unhide HNC).mono ?_
                  rintro e X9 ⟨rfl, h9⟩
                  rw [h9]
                  clear h9 X9
                  go_wp2_with (first | go_skip | ((with_reducible show wpList _ _ _ _ _ _); first | ((refine rd (by rfl) (ex_indexG 33 1 i und33 idx33 rfl rfl rfl (unhide HLT)) ?_); simp only [Act.put, List.setIfInBounds_toArray, List.set_cons_succ, List.set_cons_zero]) | ((refine rd (by rfl) (ex_loadC 9 Tryd.isAgg9 rfl rfl (unhide HTX _ (unhide HFR))) ?_); simp only [Act.put, List.setIfInBounds_toArray, List.set_cons_succ, List.set_cons_zero])))
                  refine (unhide HC).mono ?_
                  rintro e X2 ⟨rfl, hb⟩
                  have HS2 := hide ((unhide HS).on hb)
                  have HB2 := hide hb
                  replace HFR := hide ((unhide HFR).on hb)
                  clear hb HC HNC
                  go_wp2_with fail
                  refine (num16 0 ⟨by omega, by omega⟩ _).mono ?_
                  rintro e X9 ⟨rfl, h9⟩
                  rw [h9]
                  clear h9 X9
                  have HNC := hide (count14 ⟨r, m, sv, ll⟩ X2 (unhide HS2).reg)
                  dsimp only at HNC
                  go_wp2_with (first | go_skip | ((with_reducible show wpList _ _ _ _ _ _); first | ((refine rd (by rfl) (ex_indexG 33 1 i und33 idx33 rfl rfl rfl (unhide HLT)) ?_); simp only [Act.put, List.setIfInBounds_toArray, List.set_cons_succ, List.set_cons_zero]) | ((refine rd (by rfl) (ex_loadC 9 Tryd.isAgg9 rfl rfl (unhide HTX _ (unhide HFR))) ?_); simp only [Act.put, List.setIfInBounds_toArray, List.set_cons_succ, List.set_cons_zero]) | ((refine rd (by rfl) (ex_lookS1 (k := k) rfl rfl rfl (unhide HS2).fst (unhide HOK) (unhide HF)) ?_); simp only [Act.put, List.setIfInBounds_toArray, List.set_cons_succ, List.set_cons_zero])))
                  refine (unhide HNC).mono ?_
                  rintro e X9 ⟨rfl, h9⟩
                  rw [h9]
                  clear h9 X9
                  go_wp2_with (first | go_skip | ((with_reducible show wpList _ _ _ _ _ _); first | ((refine rd (by rfl) (ex_indexG 33 1 i und33 idx33 rfl rfl rfl (unhide HLT)) ?_); simp only [Act.put, List.setIfInBounds_toArray, List.set_cons_succ, List.set_cons_zero]) | ((refine rd (by rfl) (ex_loadC 9 Tryd.isAgg9 rfl rfl (unhide HTX _ (unhide HFR))) ?_); simp only [Act.put, List.setIfInBounds_toArray, List.set_cons_succ, List.set_cons_zero]) | ((refine updS (b := M1) (r := k) (s := s) (by rfl) rfl rfl rfl rfl (unhide HS2).fst (unhide HOK) (by have := unhide HBD; unfold maxLen; omega) ?_); intro X3 hM3 hf3; rw [unhide HF] at hM3; have HM3 := hide (And.intro hM3 hf3); replace HFR := hide ((unhide HFR).trans hf3 (fun b hb => .inr (by obtain rfl : b = M1 := (by simpa using hb); exact (unhide HS).g1))); clear hM3 hf3; simp only [Act.put, List.setIfInBounds_toArray, List.set_cons_succ, List.set_cons_zero]) | ((refine updI (b := M2) (k := k) (c := 1) (by rfl) rfl rfl rfl rfl ((unhide HS2).tak.block ((unhide HM3).2.block _ (unhide HS2).tak.lt (by simpa using fun e => (unhide HS).a12 e.symm))) (unhide hk6) (by have := unhide HBD; unfold maxLen; omega) ?_); intro X4 hN4 hf4; have HS4 := hide (KS.again (unhide HS) (unhide HOK) (unhide HF) (unhide HB2) (unhide HM3).1 (unhide HM3).2 hN4 hf4); replace HFR := hide (unhide HS4).fr; clear hN4 hf4; simp only [Act.put, List.setIfInBounds_toArray, List.set_cons_succ, List.set_cons_zero])))
                  have C17 : Hid (∀ X, Below X4.heap.size X4 X → Calls Tryd.prog 17 #[.pointer (some ⟨r, 0, none⟩), .int .i64 (k : Nat)] X fun e w' => e = .returned (.tuple #[.string s, .bool true, .int .i64 0]) ∧ Below X.heap.size X w') := hide (fun X hX => by rw [(unhide HKJ).1]; exact keyFor_in ⟨r, m, sv, ll⟩ j (SY.mk (sV s) true) X ((unhide HS4).reg.on hX) (unhide HKJ).2 (by have := unhide HBD; dsimp only; omega))
                  have C18 : Hid (∀ X, Below X4.heap.size X4 X → Calls Tryd.prog 18 #[.pointer (some ⟨r, 0, none⟩), .int .i64 (k : Nat)] X fun e w' => e = .returned (.tuple #[.agg (sV s).cs.toArray, .int .i64 0]) ∧ Below X.heap.size X w') := hide (fun X hX => by rw [(unhide HKJ).1]; exact desc_in ⟨r, m, sv, ll⟩ j (SY.mk (sV s) true) X ((unhide HS4).reg.on hX) (unhide HKJ).2 (by have := unhide HBD; dsimp only; omega))
                  refine (unhide C17 _ (Below.refl _ _)).mono ?_
                  rintro e X5 ⟨rfl, hb5⟩
                  replace HFR := hide ((unhide HFR).on hb5)
                  have HB5 := hide hb5
                  clear hb5
                  go_wp2_with fail
                  refine (unhide C18 _ (unhide HB5)).mono ?_
                  rintro e X6 ⟨rfl, hb6⟩
                  replace HFR := hide ((unhide HFR).on hb6)
                  have HB6 := hide ((unhide HB5).trans (hb6.mono (unhide HB5).size))
                  have LL := hide (Hq.nil X6 [])
                  clear hb6 HB5
                  go_wp2_with (first | go_skip | ((with_reducible show wpList _ _ _ _ _ _); first | ((refine alG 44 (zeroV.cs) (by rfl) rfl (fun w => by kernel_rfl) (Nat.succ_pos _) (unhide LL) ?_); intro X7 B7 hE7 L7 hb7; have hB7 := hide (Nat.le_trans (unhide LL).fr.size (Nat.le_of_eq hE7.symm)); replace LL := hide L7; clear L7 hb7 hE7; simp only [Act.put, List.setIfInBounds_toArray, List.set_cons_succ, List.set_cons_zero]) | ((refine st (vs := (sV s).cs) 0 44 (by rfl) rfl rfl rfl rfl (vcs_one _) (siz44) (unhide LL) rfl (by simp [cput, ycs_length, vcs_length, SY.cs, VV.cs]) (Or.inr (unhide hB7)) ?_); intro X8 L8 hf8 hs8; replace LL := hide L8; clear L8 hf8 hs8; simp only [Act.put, List.setIfInBounds_toArray, List.set_cons_succ, List.set_cons_zero]) | ((refine rd (by rfl) (ex_indexG 33 1 i und33 idx33 rfl rfl rfl (unhide HLT)) ?_); simp only [Act.put, List.setIfInBounds_toArray, List.set_cons_succ, List.set_cons_zero]) | ((refine rd (by rfl) (ex_loadC 9 Tryd.isAgg9 rfl rfl (unhide HTX _ ((unhide HFR).trans (unhide LL).fr (by simp)))) ?_); simp only [Act.put, List.setIfInBounds_toArray, List.set_cons_succ, List.set_cons_zero])))
                  refine (num16 0 ⟨by omega, by omega⟩ _).mono ?_
                  rintro e X9 ⟨rfl, h9⟩
                  rw [h9]
                  clear h9 X9
                  go_wp2_with fail
                  refine (num16 0 ⟨by omega, by omega⟩ _).mono ?_
                  rintro e X9 ⟨rfl, h9⟩
                  rw [h9]
                  clear h9 X9
                  go_wp2_with (first | go_skip | ((with_reducible show wpList _ _ _ _ _ _); first | ((refine rd (by rfl) (ex_loadN (vs := (sV s).cs) 44 5 row44 siz44 rfl rfl ((unhide LL).get 0 rfl) rfl rfl) ?_); simp only [Act.put, List.setIfInBounds_toArray, List.set_cons_succ, List.set_cons_zero]) | ((refine rd (by rfl) (ex_build44s (s := s) rfl rfl rfl) ?_); simp only [Act.put, List.setIfInBounds_toArray, List.set_cons_succ, List.set_cons_zero])))
                  refine (eq_any (sV s) (sV s) _).mono ?_
                  rintro e X10 ⟨rfl, hb⟩
                  rw [eqB_self]
                  replace LL := hide ((unhide LL).on hb)
                  clear hb
                  go_wp2
                  have HS5 := hide (((unhide HS4).on (unhide HB6)).on (unhide LL).fr.below)
                  go_roundg (l1.length - (i + 1))
                  case measure => have := unhide HLT; omega
                  case rel => exact ⟨i + 1, by go_num, by have := unhide HLT; omega, by omega, hide (by have e := unhide HCC; rw [show t * l1.length + (i + 1) = C + 1 by omega]; exact ⟨_, _, _, _, _, _, _, _, unhide HS5, by have := unhide HBD; omega, by have := unhide HBD; omega, by have := unhide HBD; omega, by have := unhide HBD; omega, by have := unhide HBD; omega⟩)⟩
            · have HM := hide (make_ok ⟨r, m, sv, ll⟩ u wr (unhide HS).reg hTW hd (by have := unhide hBD; dsimp only; omega))
              rw [vagg] at HM
              clear hd hTW
              go_wp2_with (first | go_skip | ((with_reducible show wpList _ _ _ _ _ _); first | ((refine rd (by rfl) (ex_lenG 33 9 Tryd.underlying33 rfl rfl) ?_); simp only [Act.put, List.setIfInBounds_toArray, List.set_cons_succ, List.set_cons_zero]) | ((refine rd (by rfl) (ex_lenG 34 44 Tryd.underlying34 rfl rfl) ?_); simp only [Act.put, List.setIfInBounds_toArray, List.set_cons_succ, List.set_cons_zero]) | ((refine rd (by rfl) (ex_indexG 34 5 i und34 idx34 rfl rfl rfl (unhide HLT2)) ?_); simp only [Act.put, List.setIfInBounds_toArray, List.set_cons_succ, List.set_cons_zero]) | ((refine rd (by rfl) (ex_loadR 44 5 row44 siz44 rfl rfl (unhide HVX _ (unhide HFR)) rfl) ?_); simp only [Act.put, List.setIfInBounds_toArray, List.set_cons_succ, List.set_cons_zero])))
              refine (unhide HM).mono ?_
              rintro e X3 ⟨rfl, sv3, hI3, hF3, hS3⟩
              dsimp only at hI3 hF3 hS3 ⊢
              replace HS := hide ((unhide HS).made hI3 hF3 hS3)
              have HBD : Hid ((ll ++ [SY.mk u false]).length ≤ 14 + 2 * C ∧ sz ≤ C ∧ n ≤ C ∧ n1 ≤ C ∧ n2 ≤ C ∧ C < 700) := hide (by have := unhide hBD; rw [List.length_append]; simp; omega)
              clear hI3 hF3 hS3 HM HFR hBD
              generalize ll ++ [SY.mk u false] = ll at *
              generalize sv3 = sv at *
              go_wp2_with fail
              have HFR := hide (unhide HS).fr
              have HNC := hide (count14 ⟨r, m, sv, ll⟩ X3 (unhide HS).reg)
              dsimp only at HNC
              have hTX := (unhide HT).fr (unhide HS).fr (by simp)
              cases hgs : (sV s).good
              · have HC := hide (for_no ⟨r, m, sv, ll⟩ s X3 (unhide HS).reg hTX hgs)
                clear hgs hTX
                go_wp2_with fail
                refine (unhide HNC).mono ?_
                rintro e X9 ⟨rfl, h9⟩
                rw [h9]
                clear h9 X9
                go_wp2_with (first | go_skip | ((with_reducible show wpList _ _ _ _ _ _); first | ((refine rd (by rfl) (ex_indexG 33 1 i und33 idx33 rfl rfl rfl (unhide HLT)) ?_); simp only [Act.put, List.setIfInBounds_toArray, List.set_cons_succ, List.set_cons_zero]) | ((refine rd (by rfl) (ex_loadC 9 Tryd.isAgg9 rfl rfl (unhide HTX _ (unhide HFR))) ?_); simp only [Act.put, List.setIfInBounds_toArray, List.set_cons_succ, List.set_cons_zero])))
                refine (unhide HC).mono ?_
                rintro e X2 ⟨rfl, hb⟩
                have HS2 := hide ((unhide HS).on hb)
                clear hb HC HNC
                go_wp2_with fail
                refine (num16 5 ⟨by omega, by omega⟩ _).mono ?_
                rintro e X9 ⟨rfl, h9⟩
                rw [h9]
                clear h9 X9
                go_wp2_with fail
                refine (num16 5 ⟨by omega, by omega⟩ _).mono ?_
                rintro e X9 ⟨rfl, h9⟩
                rw [h9]
                clear h9 X9
                have HNC := hide (count14 ⟨r, m, sv, ll⟩ X2 (unhide HS2).reg)
                dsimp only at HNC
                go_wp2_with fail
                refine (unhide HNC).mono ?_
                rintro e X9 ⟨rfl, h9⟩
                rw [h9]
                clear h9 X9
                go_wp2
                go_roundg (l1.length - (i + 1))
                case measure => have := unhide HLT; omega
                case rel => exact ⟨i + 1, by go_num, by have := unhide HLT; omega, by omega, hide (by have e := unhide HCC; rw [show t * l1.length + (i + 1) = C + 1 by omega]; exact ⟨_, _, _, _, _, _, _, _, unhide HS2, by have := unhide HBD; omega, by have := unhide HBD; omega, by have := unhide HBD; omega, by have := unhide HBD; omega, by have := unhide HBD; omega⟩)⟩
              · cases hF : F s with
                | none =>
                  obtain ⟨NV, hNV⟩ : ∃ NV : Nat, NV = ll.length + 1 := ⟨_, rfl⟩
                  have hk6 : Hid (NV < 1000000) := hide (by have := unhide HBD; omega)
                  have hll : Hid (ll.length < 1000000) := hide (by have := unhide HBD; omega)
                  have HC0 := for_new ⟨r, m, sv, ll⟩ s X3 (unhide HS).reg hTX hgs hF (by have := unhide HBD; dsimp only; omega) (by have := unhide HBD; omega)
                  dsimp only at HC0
                  rw [← hNV] at HC0
                  have HC := hide HC0
                  have HF := hide hF
                  have HG := hide hgs
                  have HNV := hide hNV
                  have HTK : Hid (G NV = 0) := hide ((unhide HS).tk NV (by omega) (unhide hk6))
                  clear hgs hTX hF hNV HC0
                  go_wp2_with fail
                  refine (unhide HNC).mono ?_
                  rintro e X9 ⟨rfl, h9⟩
                  rw [h9]
                  clear h9 X9
                  go_wp2_with (first | go_skip | ((with_reducible show wpList _ _ _ _ _ _); first | ((refine rd (by rfl) (ex_indexG 33 1 i und33 idx33 rfl rfl rfl (unhide HLT)) ?_); simp only [Act.put, List.setIfInBounds_toArray, List.set_cons_succ, List.set_cons_zero]) | ((refine rd (by rfl) (ex_loadC 9 Tryd.isAgg9 rfl rfl (unhide HTX _ (unhide HFR))) ?_); simp only [Act.put, List.setIfInBounds_toArray, List.set_cons_succ, List.set_cons_zero])))
                  refine (unhide HC).mono ?_
                  rintro e X2 ⟨rfl, sv2, hI2, hF2, hS2⟩
                  have HI2 := hide (And.intro hI2 (And.intro hF2 hS2))
                  replace HFR := hide ((unhide HFR).trans hF2 (fun b hb => .inr ((unhide HS).ge b hb)))
                  clear hI2 hF2 hS2 HC HNC
                  go_wp2_with fail
                  refine (num16 0 ⟨by omega, by omega⟩ _).mono ?_
                  rintro e X9 ⟨rfl, h9⟩
                  rw [h9]
                  clear h9 X9
                  have HM2 := hide ((unhide HS).fst.block ((unhide HI2).2.1.block _ (unhide HS).fst.lt (unhide HS).a1))
                  have HN2 := hide ((unhide HS).tak.block ((unhide HI2).2.1.block _ (unhide HS).tak.lt (unhide HS).a2))
                  have HNC : Hid (Calls Tryd.prog 14 #[.pointer (some ⟨r, 0, none⟩)] X2 fun e w' => e = .returned (.int .i64 (NV : Nat)) ∧ w' = X2) := hide (by have h := count14 ⟨r, m, sv2, (ll ++ [SY.mk (sV s) true])⟩ X2 (unhide HI2).1; rw [List.length_append] at h; rw [unhide HNV]; exact h)
                  go_wp2_with (first | go_skip | ((with_reducible show wpList _ _ _ _ _ _); first | ((refine rd (by rfl) (ex_indexG 33 1 i und33 idx33 rfl rfl rfl (unhide HLT)) ?_); simp only [Act.put, List.setIfInBounds_toArray, List.set_cons_succ, List.set_cons_zero]) | ((refine rd (by rfl) (ex_loadC 9 Tryd.isAgg9 rfl rfl (unhide HTX _ (unhide HFR))) ?_); simp only [Act.put, List.setIfInBounds_toArray, List.set_cons_succ, List.set_cons_zero]) | ((refine rd (by rfl) (ex_lookS0 rfl rfl rfl (unhide HM2) (unhide HOK) (unhide HF)) ?_); simp only [Act.put, List.setIfInBounds_toArray, List.set_cons_succ, List.set_cons_zero]) | ((refine rd (by rfl) (ex_lookI (k := NV) (c := 0) rfl rfl rfl (unhide HN2) (unhide hk6) (unhide HTK)) ?_); simp only [Act.put, List.setIfInBounds_toArray, List.set_cons_succ, List.set_cons_zero]) | ((refine rd (by rfl) ((ex_add1 (n := ll.length) rfl rfl rfl (unhide hll)).trans (by rw [← unhide HNV])) ?_); simp only [Act.put, List.setIfInBounds_toArray, List.set_cons_succ, List.set_cons_zero])))
                  refine (unhide HNC).mono ?_
                  rintro e X9 ⟨rfl, h9⟩
                  rw [h9]
                  clear h9 X9
                  go_wp2_with (first | go_skip | ((with_reducible show wpList _ _ _ _ _ _); first | ((refine rd (by rfl) (ex_indexG 33 1 i und33 idx33 rfl rfl rfl (unhide HLT)) ?_); simp only [Act.put, List.setIfInBounds_toArray, List.set_cons_succ, List.set_cons_zero]) | ((refine rd (by rfl) (ex_loadC 9 Tryd.isAgg9 rfl rfl (unhide HTX _ (unhide HFR))) ?_); simp only [Act.put, List.setIfInBounds_toArray, List.set_cons_succ, List.set_cons_zero]) | ((refine updS (b := M1) (r := NV) (s := s) (by rfl) rfl rfl rfl rfl (unhide HM2) (unhide HOK) (by have := unhide HBD; unfold maxLen; omega) ?_); intro X3 hM3 hf3; rw [unhide HF] at hM3; have HM3 := hide (And.intro hM3 hf3); replace HFR := hide ((unhide HFR).trans hf3 (fun b hb => .inr (by obtain rfl : b = M1 := (by simpa using hb); exact (unhide HS).g1))); clear hM3 hf3; simp only [Act.put, List.setIfInBounds_toArray, List.set_cons_succ, List.set_cons_zero]) | ((refine updI (b := M2) (k := NV) (c := 1) (by rfl) rfl rfl rfl rfl ((unhide HN2).block ((unhide HM3).2.block _ (unhide HN2).lt (by simpa using fun e => (unhide HS).a12 e.symm))) (unhide hk6) (by have := unhide HBD; unfold maxLen; omega) ?_); intro X4 hN4 hf4; have HS4 := hide (KS.fresh2 (unhide HNV) (unhide HS) (unhide HG) (unhide HOK) (unhide HI2).1 (unhide HI2).2.1 (unhide HI2).2.2 (unhide HM3).1 (unhide HM3).2 hN4 hf4); replace HFR := hide (unhide HS4).fr; clear hN4 hf4; simp only [Act.put, List.setIfInBounds_toArray, List.set_cons_succ, List.set_cons_zero])))
                  have C17 : Hid (∀ X, Below X4.heap.size X4 X → Calls Tryd.prog 17 #[.pointer (some ⟨r, 0, none⟩), .int .i64 (NV : Nat)] X fun e w' => e = .returned (.tuple #[.string s, .bool true, .int .i64 0]) ∧ Below X.heap.size X w') := hide (fun X hX => by rw [unhide HNV]; exact keyFor_in ⟨r, m, sv2, (ll ++ [SY.mk (sV s) true])⟩ ll.length (SY.mk (sV s) true) X ((unhide HS4).reg.on hX) (by simp) (by have := unhide HBD; simp; omega))
                  have C18 : Hid (∀ X, Below X4.heap.size X4 X → Calls Tryd.prog 18 #[.pointer (some ⟨r, 0, none⟩), .int .i64 (NV : Nat)] X fun e w' => e = .returned (.tuple #[.agg (sV s).cs.toArray, .int .i64 0]) ∧ Below X.heap.size X w') := hide (fun X hX => by rw [unhide HNV]; exact desc_in ⟨r, m, sv2, (ll ++ [SY.mk (sV s) true])⟩ ll.length (SY.mk (sV s) true) X ((unhide HS4).reg.on hX) (by simp) (by have := unhide HBD; simp; omega))
                  refine (unhide C17 _ (Below.refl _ _)).mono ?_
                  rintro e X5 ⟨rfl, hb5⟩
                  replace HFR := hide ((unhide HFR).on hb5)
                  have HB5 := hide hb5
                  clear hb5
                  go_wp2_with fail
                  refine (unhide C18 _ (unhide HB5)).mono ?_
                  rintro e X6 ⟨rfl, hb6⟩
                  replace HFR := hide ((unhide HFR).on hb6)
                  have HB6 := hide ((unhide HB5).trans (hb6.mono (unhide HB5).size))
                  have LL := hide (Hq.nil X6 [])
                  clear hb6 HB5
                  go_wp2_with (first | go_skip | ((with_reducible show wpList _ _ _ _ _ _); first | ((refine alG 44 (zeroV.cs) (by rfl) rfl (fun w => by kernel_rfl) (Nat.succ_pos _) (unhide LL) ?_); intro X7 B7 hE7 L7 hb7; have hB7 := hide (Nat.le_trans (unhide LL).fr.size (Nat.le_of_eq hE7.symm)); replace LL := hide L7; clear L7 hb7 hE7; simp only [Act.put, List.setIfInBounds_toArray, List.set_cons_succ, List.set_cons_zero]) | ((refine st (vs := (sV s).cs) 0 44 (by rfl) rfl rfl rfl rfl (vcs_one _) (siz44) (unhide LL) rfl (by simp [cput, ycs_length, vcs_length, SY.cs, VV.cs]) (Or.inr (unhide hB7)) ?_); intro X8 L8 hf8 hs8; replace LL := hide L8; clear L8 hf8 hs8; simp only [Act.put, List.setIfInBounds_toArray, List.set_cons_succ, List.set_cons_zero]) | ((refine rd (by rfl) (ex_indexG 33 1 i und33 idx33 rfl rfl rfl (unhide HLT)) ?_); simp only [Act.put, List.setIfInBounds_toArray, List.set_cons_succ, List.set_cons_zero]) | ((refine rd (by rfl) (ex_loadC 9 Tryd.isAgg9 rfl rfl (unhide HTX _ ((unhide HFR).trans (unhide LL).fr (by simp)))) ?_); simp only [Act.put, List.setIfInBounds_toArray, List.set_cons_succ, List.set_cons_zero])))
                  refine (num16 0 ⟨by omega, by omega⟩ _).mono ?_
                  rintro e X9 ⟨rfl, h9⟩
                  rw [h9]
                  clear h9 X9
                  go_wp2_with fail
                  refine (num16 0 ⟨by omega, by omega⟩ _).mono ?_
                  rintro e X9 ⟨rfl, h9⟩
                  rw [h9]
                  clear h9 X9
                  go_wp2_with (first | go_skip | ((with_reducible show wpList _ _ _ _ _ _); first | ((refine rd (by rfl) (ex_loadN (vs := (sV s).cs) 44 5 row44 siz44 rfl rfl ((unhide LL).get 0 rfl) rfl rfl) ?_); simp only [Act.put, List.setIfInBounds_toArray, List.set_cons_succ, List.set_cons_zero]) | ((refine rd (by rfl) (ex_build44s (s := s) rfl rfl rfl) ?_); simp only [Act.put, List.setIfInBounds_toArray, List.set_cons_succ, List.set_cons_zero])))
                  refine (eq_any (sV s) (sV s) _).mono ?_
                  rintro e X10 ⟨rfl, hb⟩
                  rw [eqB_self]
                  replace LL := hide ((unhide LL).on hb)
                  clear hb
                  go_wp2
                  have HS5 := hide (((unhide HS4).on (unhide HB6)).on (unhide LL).fr.below)
                  go_roundg (l1.length - (i + 1))
                  case measure => have := unhide HLT; omega
                  case rel => exact ⟨i + 1, by go_num, by have := unhide HLT; omega, by omega, hide (by have e := unhide HCC; rw [show t * l1.length + (i + 1) = C + 1 by omega]; exact ⟨_, _, _, _, _, _, _, _, unhide HS5, by have := unhide HBD; simp; omega, by have := unhide HBD; omega, by have := unhide HBD; omega, by have := unhide HBD; omega, by have := unhide HBD; omega⟩)⟩
                | some k =>
                  obtain ⟨-, j, hkj, hj⟩ := (unhide HS).kn s (unhide HOK) k hF
                  have hjl := (List.getElem?_eq_some_iff.1 hj).1
                  have hk6 : Hid (k < 1000000) := hide (by have := unhide HBD; omega)
                  have HC := hide (for_old ⟨r, m, sv, ll⟩ s X3 (unhide HS).reg hTX hgs k hF)
                  have HF := hide hF
                  have HKJ := hide (And.intro hkj hj)
                  clear hgs hTX hF hkj hj hjl
                  go_wp2_with fail
                  refine (unhide HNC).mono ?_
                  rintro e X9 ⟨rfl, h9⟩
                  rw [h9]
                  clear h9 X9
                  go_wp2_with (first | go_skip | ((with_reducible show wpList _ _ _ _ _ _); first | ((refine rd (by rfl) (ex_indexG 33 1 i und33 idx33 rfl rfl rfl (unhide HLT)) ?_); simp only [Act.put, List.setIfInBounds_toArray, List.set_cons_succ, List.set_cons_zero]) | ((refine rd (by rfl) (ex_loadC 9 Tryd.isAgg9 rfl rfl (unhide HTX _ (unhide HFR))) ?_); simp only [Act.put, List.setIfInBounds_toArray, List.set_cons_succ, List.set_cons_zero])))
                  refine (unhide HC).mono ?_
                  rintro e X2 ⟨rfl, hb⟩
                  have HS2 := hide ((unhide HS).on hb)
                  have HB2 := hide hb
                  replace HFR := hide ((unhide HFR).on hb)
                  clear hb HC HNC
                  go_wp2_with fail
                  refine (num16 0 ⟨by omega, by omega⟩ _).mono ?_
                  rintro e X9 ⟨rfl, h9⟩
                  rw [h9]
                  clear h9 X9
                  have HNC := hide (count14 ⟨r, m, sv, ll⟩ X2 (unhide HS2).reg)
                  dsimp only at HNC
                  go_wp2_with (first | go_skip | ((with_reducible show wpList _ _ _ _ _ _); first | ((refine rd (by rfl) (ex_indexG 33 1 i und33 idx33 rfl rfl rfl (unhide HLT)) ?_); simp only [Act.put, List.setIfInBounds_toArray, List.set_cons_succ, List.set_cons_zero]) | ((refine rd (by rfl) (ex_loadC 9 Tryd.isAgg9 rfl rfl (unhide HTX _ (unhide HFR))) ?_); simp only [Act.put, List.setIfInBounds_toArray, List.set_cons_succ, List.set_cons_zero]) | ((refine rd (by rfl) (ex_lookS1 (k := k) rfl rfl rfl (unhide HS2).fst (unhide HOK) (unhide HF)) ?_); simp only [Act.put, List.setIfInBounds_toArray, List.set_cons_succ, List.set_cons_zero])))
                  refine (unhide HNC).mono ?_
                  rintro e X9 ⟨rfl, h9⟩
                  rw [h9]
                  clear h9 X9
                  go_wp2_with (first | go_skip | ((with_reducible show wpList _ _ _ _ _ _); first | ((refine rd (by rfl) (ex_indexG 33 1 i und33 idx33 rfl rfl rfl (unhide HLT)) ?_); simp only [Act.put, List.setIfInBounds_toArray, List.set_cons_succ, List.set_cons_zero]) | ((refine rd (by rfl) (ex_loadC 9 Tryd.isAgg9 rfl rfl (unhide HTX _ (unhide HFR))) ?_); simp only [Act.put, List.setIfInBounds_toArray, List.set_cons_succ, List.set_cons_zero]) | ((refine updS (b := M1) (r := k) (s := s) (by rfl) rfl rfl rfl rfl (unhide HS2).fst (unhide HOK) (by have := unhide HBD; unfold maxLen; omega) ?_); intro X3 hM3 hf3; rw [unhide HF] at hM3; have HM3 := hide (And.intro hM3 hf3); replace HFR := hide ((unhide HFR).trans hf3 (fun b hb => .inr (by obtain rfl : b = M1 := (by simpa using hb); exact (unhide HS).g1))); clear hM3 hf3; simp only [Act.put, List.setIfInBounds_toArray, List.set_cons_succ, List.set_cons_zero]) | ((refine updI (b := M2) (k := k) (c := 1) (by rfl) rfl rfl rfl rfl ((unhide HS2).tak.block ((unhide HM3).2.block _ (unhide HS2).tak.lt (by simpa using fun e => (unhide HS).a12 e.symm))) (unhide hk6) (by have := unhide HBD; unfold maxLen; omega) ?_); intro X4 hN4 hf4; have HS4 := hide (KS.again (unhide HS) (unhide HOK) (unhide HF) (unhide HB2) (unhide HM3).1 (unhide HM3).2 hN4 hf4); replace HFR := hide (unhide HS4).fr; clear hN4 hf4; simp only [Act.put, List.setIfInBounds_toArray, List.set_cons_succ, List.set_cons_zero])))
                  have C17 : Hid (∀ X, Below X4.heap.size X4 X → Calls Tryd.prog 17 #[.pointer (some ⟨r, 0, none⟩), .int .i64 (k : Nat)] X fun e w' => e = .returned (.tuple #[.string s, .bool true, .int .i64 0]) ∧ Below X.heap.size X w') := hide (fun X hX => by rw [(unhide HKJ).1]; exact keyFor_in ⟨r, m, sv, ll⟩ j (SY.mk (sV s) true) X ((unhide HS4).reg.on hX) (unhide HKJ).2 (by have := unhide HBD; dsimp only; omega))
                  have C18 : Hid (∀ X, Below X4.heap.size X4 X → Calls Tryd.prog 18 #[.pointer (some ⟨r, 0, none⟩), .int .i64 (k : Nat)] X fun e w' => e = .returned (.tuple #[.agg (sV s).cs.toArray, .int .i64 0]) ∧ Below X.heap.size X w') := hide (fun X hX => by rw [(unhide HKJ).1]; exact desc_in ⟨r, m, sv, ll⟩ j (SY.mk (sV s) true) X ((unhide HS4).reg.on hX) (unhide HKJ).2 (by have := unhide HBD; dsimp only; omega))
                  refine (unhide C17 _ (Below.refl _ _)).mono ?_
                  rintro e X5 ⟨rfl, hb5⟩
                  replace HFR := hide ((unhide HFR).on hb5)
                  have HB5 := hide hb5
                  clear hb5
                  go_wp2_with fail
                  refine (unhide C18 _ (unhide HB5)).mono ?_
                  rintro e X6 ⟨rfl, hb6⟩
                  replace HFR := hide ((unhide HFR).on hb6)
                  have HB6 := hide ((unhide HB5).trans (hb6.mono (unhide HB5).size))
                  have LL := hide (Hq.nil X6 [])
                  clear hb6 HB5
                  go_wp2_with (first | go_skip | ((with_reducible show wpList _ _ _ _ _ _); first | ((refine alG 44 (zeroV.cs) (by rfl) rfl (fun w => by kernel_rfl) (Nat.succ_pos _) (unhide LL) ?_); intro X7 B7 hE7 L7 hb7; have hB7 := hide (Nat.le_trans (unhide LL).fr.size (Nat.le_of_eq hE7.symm)); replace LL := hide L7; clear L7 hb7 hE7; simp only [Act.put, List.setIfInBounds_toArray, List.set_cons_succ, List.set_cons_zero]) | ((refine st (vs := (sV s).cs) 0 44 (by rfl) rfl rfl rfl rfl (vcs_one _) (siz44) (unhide LL) rfl (by simp [cput, ycs_length, vcs_length, SY.cs, VV.cs]) (Or.inr (unhide hB7)) ?_); intro X8 L8 hf8 hs8; replace LL := hide L8; clear L8 hf8 hs8; simp only [Act.put, List.setIfInBounds_toArray, List.set_cons_succ, List.set_cons_zero]) | ((refine rd (by rfl) (ex_indexG 33 1 i und33 idx33 rfl rfl rfl (unhide HLT)) ?_); simp only [Act.put, List.setIfInBounds_toArray, List.set_cons_succ, List.set_cons_zero]) | ((refine rd (by rfl) (ex_loadC 9 Tryd.isAgg9 rfl rfl (unhide HTX _ ((unhide HFR).trans (unhide LL).fr (by simp)))) ?_); simp only [Act.put, List.setIfInBounds_toArray, List.set_cons_succ, List.set_cons_zero])))
                  refine (num16 0 ⟨by omega, by omega⟩ _).mono ?_
                  rintro e X9 ⟨rfl, h9⟩
                  rw [h9]
                  clear h9 X9
                  go_wp2_with fail
                  refine (num16 0 ⟨by omega, by omega⟩ _).mono ?_
                  rintro e X9 ⟨rfl, h9⟩
                  rw [h9]
                  clear h9 X9
                  go_wp2_with (first | go_skip | ((with_reducible show wpList _ _ _ _ _ _); first | ((refine rd (by rfl) (ex_loadN (vs := (sV s).cs) 44 5 row44 siz44 rfl rfl ((unhide LL).get 0 rfl) rfl rfl) ?_); simp only [Act.put, List.setIfInBounds_toArray, List.set_cons_succ, List.set_cons_zero]) | ((refine rd (by rfl) (ex_build44s (s := s) rfl rfl rfl) ?_); simp only [Act.put, List.setIfInBounds_toArray, List.set_cons_succ, List.set_cons_zero])))
                  refine (eq_any (sV s) (sV s) _).mono ?_
                  rintro e X10 ⟨rfl, hb⟩
                  rw [eqB_self]
                  replace LL := hide ((unhide LL).on hb)
                  clear hb
                  go_wp2
                  have HS5 := hide (((unhide HS4).on (unhide HB6)).on (unhide LL).fr.below)
                  go_roundg (l1.length - (i + 1))
                  case measure => have := unhide HLT; omega
                  case rel => exact ⟨i + 1, by go_num, by have := unhide HLT; omega, by omega, hide (by have e := unhide HCC; rw [show t * l1.length + (i + 1) = C + 1 by omega]; exact ⟨_, _, _, _, _, _, _, _, unhide HS5, by have := unhide HBD; omega, by have := unhide HBD; omega, by have := unhide HBD; omega, by have := unhide HBD; omega, by have := unhide HBD; omega⟩)⟩
          · have hi2z : decide ((i : Int) < (l2.length : Int)) = false := decide_eq_false (by omega)
            have hi2y : ¬ (i : Int) < (l2.length : Int) := by omega
            have HBD := hBD
            clear hBD hi2
            go_wp2_with (first | go_skip | ((with_reducible show wpList _ _ _ _ _ _); first | ((refine rd (by rfl) (ex_lenG 33 9 Tryd.underlying33 rfl rfl) ?_); simp only [Act.put, List.setIfInBounds_toArray, List.set_cons_succ, List.set_cons_zero]) | ((refine rd (by rfl) (ex_lenG 34 44 Tryd.underlying34 rfl rfl) ?_); simp only [Act.put, List.setIfInBounds_toArray, List.set_cons_succ, List.set_cons_zero])))
            have HFR := hide (unhide HS).fr
            have HNC := hide (count14 ⟨r, m, sv, ll⟩ wr (unhide HS).reg)
            dsimp only at HNC
            have hTX := (unhide HT).fr (unhide HS).fr (by simp)
            cases hgs : (sV s).good
            · have HC := hide (for_no ⟨r, m, sv, ll⟩ s wr (unhide HS).reg hTX hgs)
              clear hgs hTX
              go_wp2_with fail
              refine (unhide HNC).mono ?_
              rintro e X9 ⟨rfl, h9⟩
              rw [h9]
              clear h9 X9
              go_wp2_with (first | go_skip | ((with_reducible show wpList _ _ _ _ _ _); first | ((refine rd (by rfl) (ex_indexG 33 1 i und33 idx33 rfl rfl rfl (unhide HLT)) ?_); simp only [Act.put, List.setIfInBounds_toArray, List.set_cons_succ, List.set_cons_zero]) | ((refine rd (by rfl) (ex_loadC 9 Tryd.isAgg9 rfl rfl (unhide HTX _ (unhide HFR))) ?_); simp only [Act.put, List.setIfInBounds_toArray, List.set_cons_succ, List.set_cons_zero])))
              refine (unhide HC).mono ?_
              rintro e X2 ⟨rfl, hb⟩
              have HS2 := hide ((unhide HS).on hb)
              clear hb HC HNC
              go_wp2_with fail
              refine (num16 5 ⟨by omega, by omega⟩ _).mono ?_
              rintro e X9 ⟨rfl, h9⟩
              rw [h9]
              clear h9 X9
              go_wp2_with fail
              refine (num16 5 ⟨by omega, by omega⟩ _).mono ?_
              rintro e X9 ⟨rfl, h9⟩
              rw [h9]
              clear h9 X9
              have HNC := hide (count14 ⟨r, m, sv, ll⟩ X2 (unhide HS2).reg)
              dsimp only at HNC
              go_wp2_with fail
              refine (unhide HNC).mono ?_
              rintro e X9 ⟨rfl, h9⟩
              rw [h9]
              clear h9 X9
              go_wp2
              go_roundg (l1.length - (i + 1))
              case measure => have := unhide HLT; omega
              case rel => exact ⟨i + 1, by go_num, by have := unhide HLT; omega, by omega, hide (by have e := unhide HCC; rw [show t * l1.length + (i + 1) = C + 1 by omega]; exact ⟨_, _, _, _, _, _, _, _, unhide HS2, by have := unhide HBD; omega, by have := unhide HBD; omega, by have := unhide HBD; omega, by have := unhide HBD; omega, by have := unhide HBD; omega⟩)⟩
            · cases hF : F s with
              | none =>
                obtain ⟨NV, hNV⟩ : ∃ NV : Nat, NV = ll.length + 1 := ⟨_, rfl⟩
                have hk6 : Hid (NV < 1000000) := hide (by have := unhide HBD; omega)
                have hll : Hid (ll.length < 1000000) := hide (by have := unhide HBD; omega)
                have HC0 := for_new ⟨r, m, sv, ll⟩ s wr (unhide HS).reg hTX hgs hF (by have := unhide HBD; dsimp only; omega) (by have := unhide HBD; omega)
                dsimp only at HC0
                rw [← hNV] at HC0
                have HC := hide HC0
                have HF := hide hF
                have HG := hide hgs
                have HNV := hide hNV
                have HTK : Hid (G NV = 0) := hide ((unhide HS).tk NV (by omega) (unhide hk6))
                clear hgs hTX hF hNV HC0
                go_wp2_with fail
                refine (unhide HNC).mono ?_
                rintro e X9 ⟨rfl, h9⟩
                rw [h9]
                clear h9 X9
                go_wp2_with (first | go_skip | ((with_reducible show wpList _ _ _ _ _ _); first | ((refine rd (by rfl) (ex_indexG 33 1 i und33 idx33 rfl rfl rfl (unhide HLT)) ?_); simp only [Act.put, List.setIfInBounds_toArray, List.set_cons_succ, List.set_cons_zero]) | ((refine rd (by rfl) (ex_loadC 9 Tryd.isAgg9 rfl rfl (unhide HTX _ (unhide HFR))) ?_); simp only [Act.put, List.setIfInBounds_toArray, List.set_cons_succ, List.set_cons_zero])))
                refine (unhide HC).mono ?_
                rintro e X2 ⟨rfl, sv2, hI2, hF2, hS2⟩
                have HI2 := hide (And.intro hI2 (And.intro hF2 hS2))
                replace HFR := hide ((unhide HFR).trans hF2 (fun b hb => .inr ((unhide HS).ge b hb)))
                clear hI2 hF2 hS2 HC HNC
                go_wp2_with fail
                refine (num16 0 ⟨by omega, by omega⟩ _).mono ?_
                rintro e X9 ⟨rfl, h9⟩
                rw [h9]
                clear h9 X9
                have HM2 := hide ((unhide HS).fst.block ((unhide HI2).2.1.block _ (unhide HS).fst.lt (unhide HS).a1))
                have HN2 := hide ((unhide HS).tak.block ((unhide HI2).2.1.block _ (unhide HS).tak.lt (unhide HS).a2))
                have HNC : Hid (Calls Tryd.prog 14 #[.pointer (some ⟨r, 0, none⟩)] X2 fun e w' => e = .returned (.int .i64 (NV : Nat)) ∧ w' = X2) := hide (by have h := count14 ⟨r, m, sv2, (ll ++ [SY.mk (sV s) true])⟩ X2 (unhide HI2).1; rw [List.length_append] at h; rw [unhide HNV]; exact h)
                go_wp2_with (first | go_skip | ((with_reducible show wpList _ _ _ _ _ _); first | ((refine rd (by rfl) (ex_indexG 33 1 i und33 idx33 rfl rfl rfl (unhide HLT)) ?_); simp only [Act.put, List.setIfInBounds_toArray, List.set_cons_succ, List.set_cons_zero]) | ((refine rd (by rfl) (ex_loadC 9 Tryd.isAgg9 rfl rfl (unhide HTX _ (unhide HFR))) ?_); simp only [Act.put, List.setIfInBounds_toArray, List.set_cons_succ, List.set_cons_zero]) | ((refine rd (by rfl) (ex_lookS0 rfl rfl rfl (unhide HM2) (unhide HOK) (unhide HF)) ?_); simp only [Act.put, List.setIfInBounds_toArray, List.set_cons_succ, List.set_cons_zero]) | ((refine rd (by rfl) (ex_lookI (k := NV) (c := 0) rfl rfl rfl (unhide HN2) (unhide hk6) (unhide HTK)) ?_); simp only [Act.put, List.setIfInBounds_toArray, List.set_cons_succ, List.set_cons_zero]) | ((refine rd (by rfl) ((ex_add1 (n := ll.length) rfl rfl rfl (unhide hll)).trans (by rw [← unhide HNV])) ?_); simp only [Act.put, List.setIfInBounds_toArray, List.set_cons_succ, List.set_cons_zero])))
                refine (unhide HNC).mono ?_
                rintro e X9 ⟨rfl, h9⟩
                rw [h9]
                clear h9 X9
                go_wp2_with (first | go_skip | ((with_reducible show wpList _ _ _ _ _ _); first | ((refine rd (by rfl) (ex_indexG 33 1 i und33 idx33 rfl rfl rfl (unhide HLT)) ?_); simp only [Act.put, List.setIfInBounds_toArray, List.set_cons_succ, List.set_cons_zero]) | ((refine rd (by rfl) (ex_loadC 9 Tryd.isAgg9 rfl rfl (unhide HTX _ (unhide HFR))) ?_); simp only [Act.put, List.setIfInBounds_toArray, List.set_cons_succ, List.set_cons_zero]) | ((refine updS (b := M1) (r := NV) (s := s) (by rfl) rfl rfl rfl rfl (unhide HM2) (unhide HOK) (by have := unhide HBD; unfold maxLen; omega) ?_); intro X3 hM3 hf3; rw [unhide HF] at hM3; have HM3 := hide (And.intro hM3 hf3); replace HFR := hide ((unhide HFR).trans hf3 (fun b hb => .inr (by obtain rfl : b = M1 := (by simpa using hb); exact (unhide HS).g1))); clear hM3 hf3; simp only [Act.put, List.setIfInBounds_toArray, List.set_cons_succ, List.set_cons_zero]) | ((refine updI (b := M2) (k := NV) (c := 1) (by rfl) rfl rfl rfl rfl ((unhide HN2).block ((unhide HM3).2.block _ (unhide HN2).lt (by simpa using fun e => (unhide HS).a12 e.symm))) (unhide hk6) (by have := unhide HBD; unfold maxLen; omega) ?_); intro X4 hN4 hf4; have HS4 := hide (KS.fresh2 (unhide HNV) (unhide HS) (unhide HG) (unhide HOK) (unhide HI2).1 (unhide HI2).2.1 (unhide HI2).2.2 (unhide HM3).1 (unhide HM3).2 hN4 hf4); replace HFR := hide (unhide HS4).fr; clear hN4 hf4; simp only [Act.put, List.setIfInBounds_toArray, List.set_cons_succ, List.set_cons_zero])))
                have C17 : Hid (∀ X, Below X4.heap.size X4 X → Calls Tryd.prog 17 #[.pointer (some ⟨r, 0, none⟩), .int .i64 (NV : Nat)] X fun e w' => e = .returned (.tuple #[.string s, .bool true, .int .i64 0]) ∧ Below X.heap.size X w') := hide (fun X hX => by rw [unhide HNV]; exact keyFor_in ⟨r, m, sv2, (ll ++ [SY.mk (sV s) true])⟩ ll.length (SY.mk (sV s) true) X ((unhide HS4).reg.on hX) (by simp) (by have := unhide HBD; simp; omega))
                have C18 : Hid (∀ X, Below X4.heap.size X4 X → Calls Tryd.prog 18 #[.pointer (some ⟨r, 0, none⟩), .int .i64 (NV : Nat)] X fun e w' => e = .returned (.tuple #[.agg (sV s).cs.toArray, .int .i64 0]) ∧ Below X.heap.size X w') := hide (fun X hX => by rw [unhide HNV]; exact desc_in ⟨r, m, sv2, (ll ++ [SY.mk (sV s) true])⟩ ll.length (SY.mk (sV s) true) X ((unhide HS4).reg.on hX) (by simp) (by have := unhide HBD; simp; omega))
                refine (unhide C17 _ (Below.refl _ _)).mono ?_
                rintro e X5 ⟨rfl, hb5⟩
                replace HFR := hide ((unhide HFR).on hb5)
                have HB5 := hide hb5
                clear hb5
                go_wp2_with fail
                refine (unhide C18 _ (unhide HB5)).mono ?_
                rintro e X6 ⟨rfl, hb6⟩
                replace HFR := hide ((unhide HFR).on hb6)
                have HB6 := hide ((unhide HB5).trans (hb6.mono (unhide HB5).size))
                have LL := hide (Hq.nil X6 [])
                clear hb6 HB5
                go_wp2_with (first | go_skip | ((with_reducible show wpList _ _ _ _ _ _); first | ((refine alG 44 (zeroV.cs) (by rfl) rfl (fun w => by kernel_rfl) (Nat.succ_pos _) (unhide LL) ?_); intro X7 B7 hE7 L7 hb7; have hB7 := hide (Nat.le_trans (unhide LL).fr.size (Nat.le_of_eq hE7.symm)); replace LL := hide L7; clear L7 hb7 hE7; simp only [Act.put, List.setIfInBounds_toArray, List.set_cons_succ, List.set_cons_zero]) | ((refine st (vs := (sV s).cs) 0 44 (by rfl) rfl rfl rfl rfl (vcs_one _) (siz44) (unhide LL) rfl (by simp [cput, ycs_length, vcs_length, SY.cs, VV.cs]) (Or.inr (unhide hB7)) ?_); intro X8 L8 hf8 hs8; replace LL := hide L8; clear L8 hf8 hs8; simp only [Act.put, List.setIfInBounds_toArray, List.set_cons_succ, List.set_cons_zero]) | ((refine rd (by rfl) (ex_indexG 33 1 i und33 idx33 rfl rfl rfl (unhide HLT)) ?_); simp only [Act.put, List.setIfInBounds_toArray, List.set_cons_succ, List.set_cons_zero]) | ((refine rd (by rfl) (ex_loadC 9 Tryd.isAgg9 rfl rfl (unhide HTX _ ((unhide HFR).trans (unhide LL).fr (by simp)))) ?_); simp only [Act.put, List.setIfInBounds_toArray, List.set_cons_succ, List.set_cons_zero])))
                refine (num16 0 ⟨by omega, by omega⟩ _).mono ?_
                rintro e X9 ⟨rfl, h9⟩
                rw [h9]
                clear h9 X9
                go_wp2_with fail
                refine (num16 0 ⟨by omega, by omega⟩ _).mono ?_
                rintro e X9 ⟨rfl, h9⟩
                rw [h9]
                clear h9 X9
                go_wp2_with (first | go_skip | ((with_reducible show wpList _ _ _ _ _ _); first | ((refine rd (by rfl) (ex_loadN (vs := (sV s).cs) 44 5 row44 siz44 rfl rfl ((unhide LL).get 0 rfl) rfl rfl) ?_); simp only [Act.put, List.setIfInBounds_toArray, List.set_cons_succ, List.set_cons_zero]) | ((refine rd (by rfl) (ex_build44s (s := s) rfl rfl rfl) ?_); simp only [Act.put, List.setIfInBounds_toArray, List.set_cons_succ, List.set_cons_zero])))
                refine (eq_any (sV s) (sV s) _).mono ?_
                rintro e X10 ⟨rfl, hb⟩
                rw [eqB_self]
                replace LL := hide ((unhide LL).on hb)
                clear hb
                go_wp2
                have HS5 := hide (((unhide HS4).on (unhide HB6)).on (unhide LL).fr.below)
                go_roundg (l1.length - (i + 1))
                case measure => have := unhide HLT; omega
                case rel => exact ⟨i + 1, by go_num, by have := unhide HLT; omega, by omega, hide (by have e := unhide HCC; rw [show t * l1.length + (i + 1) = C + 1 by omega]; exact ⟨_, _, _, _, _, _, _, _, unhide HS5, by have := unhide HBD; simp; omega, by have := unhide HBD; omega, by have := unhide HBD; omega, by have := unhide HBD; omega, by have := unhide HBD; omega⟩)⟩
              | some k =>
                obtain ⟨-, j, hkj, hj⟩ := (unhide HS).kn s (unhide HOK) k hF
                have hjl := (List.getElem?_eq_some_iff.1 hj).1
                have hk6 : Hid (k < 1000000) := hide (by have := unhide HBD; omega)
                have HC := hide (for_old ⟨r, m, sv, ll⟩ s wr (unhide HS).reg hTX hgs k hF)
                have HF := hide hF
                have HKJ := hide (And.intro hkj hj)
                clear hgs hTX hF hkj hj hjl
                go_wp2_with fail
                refine (unhide HNC).mono ?_
                rintro e X9 ⟨rfl, h9⟩
                rw [h9]
                clear h9 X9
                go_wp2_with (first | go_skip | ((with_reducible show wpList _ _ _ _ _ _); first | ((refine rd (by rfl) (ex_indexG 33 1 i und33 idx33 rfl rfl rfl (unhide HLT)) ?_); simp only [Act.put, List.setIfInBounds_toArray, List.set_cons_succ, List.set_cons_zero]) | ((refine rd (by rfl) (ex_loadC 9 Tryd.isAgg9 rfl rfl (unhide HTX _ (unhide HFR))) ?_); simp only [Act.put, List.setIfInBounds_toArray, List.set_cons_succ, List.set_cons_zero])))
                refine (unhide HC).mono ?_
                rintro e X2 ⟨rfl, hb⟩
                have HS2 := hide ((unhide HS).on hb)
                have HB2 := hide hb
                replace HFR := hide ((unhide HFR).on hb)
                clear hb HC HNC
                go_wp2_with fail
                refine (num16 0 ⟨by omega, by omega⟩ _).mono ?_
                rintro e X9 ⟨rfl, h9⟩
                rw [h9]
                clear h9 X9
                have HNC := hide (count14 ⟨r, m, sv, ll⟩ X2 (unhide HS2).reg)
                dsimp only at HNC
                go_wp2_with (first | go_skip | ((with_reducible show wpList _ _ _ _ _ _); first | ((refine rd (by rfl) (ex_indexG 33 1 i und33 idx33 rfl rfl rfl (unhide HLT)) ?_); simp only [Act.put, List.setIfInBounds_toArray, List.set_cons_succ, List.set_cons_zero]) | ((refine rd (by rfl) (ex_loadC 9 Tryd.isAgg9 rfl rfl (unhide HTX _ (unhide HFR))) ?_); simp only [Act.put, List.setIfInBounds_toArray, List.set_cons_succ, List.set_cons_zero]) | ((refine rd (by rfl) (ex_lookS1 (k := k) rfl rfl rfl (unhide HS2).fst (unhide HOK) (unhide HF)) ?_); simp only [Act.put, List.setIfInBounds_toArray, List.set_cons_succ, List.set_cons_zero])))
                refine (unhide HNC).mono ?_
                rintro e X9 ⟨rfl, h9⟩
                rw [h9]
                clear h9 X9
                go_wp2_with (first | go_skip | ((with_reducible show wpList _ _ _ _ _ _); first | ((refine rd (by rfl) (ex_indexG 33 1 i und33 idx33 rfl rfl rfl (unhide HLT)) ?_); simp only [Act.put, List.setIfInBounds_toArray, List.set_cons_succ, List.set_cons_zero]) | ((refine rd (by rfl) (ex_loadC 9 Tryd.isAgg9 rfl rfl (unhide HTX _ (unhide HFR))) ?_); simp only [Act.put, List.setIfInBounds_toArray, List.set_cons_succ, List.set_cons_zero]) | ((refine updS (b := M1) (r := k) (s := s) (by rfl) rfl rfl rfl rfl (unhide HS2).fst (unhide HOK) (by have := unhide HBD; unfold maxLen; omega) ?_); intro X3 hM3 hf3; rw [unhide HF] at hM3; have HM3 := hide (And.intro hM3 hf3); replace HFR := hide ((unhide HFR).trans hf3 (fun b hb => .inr (by obtain rfl : b = M1 := (by simpa using hb); exact (unhide HS).g1))); clear hM3 hf3; simp only [Act.put, List.setIfInBounds_toArray, List.set_cons_succ, List.set_cons_zero]) | ((refine updI (b := M2) (k := k) (c := 1) (by rfl) rfl rfl rfl rfl ((unhide HS2).tak.block ((unhide HM3).2.block _ (unhide HS2).tak.lt (by simpa using fun e => (unhide HS).a12 e.symm))) (unhide hk6) (by have := unhide HBD; unfold maxLen; omega) ?_); intro X4 hN4 hf4; have HS4 := hide (KS.again (unhide HS) (unhide HOK) (unhide HF) (unhide HB2) (unhide HM3).1 (unhide HM3).2 hN4 hf4); replace HFR := hide (unhide HS4).fr; clear hN4 hf4; simp only [Act.put, List.setIfInBounds_toArray, List.set_cons_succ, List.set_cons_zero])))
                have C17 : Hid (∀ X, Below X4.heap.size X4 X → Calls Tryd.prog 17 #[.pointer (some ⟨r, 0, none⟩), .int .i64 (k : Nat)] X fun e w' => e = .returned (.tuple #[.string s, .bool true, .int .i64 0]) ∧ Below X.heap.size X w') := hide (fun X hX => by rw [(unhide HKJ).1]; exact keyFor_in ⟨r, m, sv, ll⟩ j (SY.mk (sV s) true) X ((unhide HS4).reg.on hX) (unhide HKJ).2 (by have := unhide HBD; dsimp only; omega))
                have C18 : Hid (∀ X, Below X4.heap.size X4 X → Calls Tryd.prog 18 #[.pointer (some ⟨r, 0, none⟩), .int .i64 (k : Nat)] X fun e w' => e = .returned (.tuple #[.agg (sV s).cs.toArray, .int .i64 0]) ∧ Below X.heap.size X w') := hide (fun X hX => by rw [(unhide HKJ).1]; exact desc_in ⟨r, m, sv, ll⟩ j (SY.mk (sV s) true) X ((unhide HS4).reg.on hX) (unhide HKJ).2 (by have := unhide HBD; dsimp only; omega))
                refine (unhide C17 _ (Below.refl _ _)).mono ?_
                rintro e X5 ⟨rfl, hb5⟩
                replace HFR := hide ((unhide HFR).on hb5)
                have HB5 := hide hb5
                clear hb5
                go_wp2_with fail
                refine (unhide C18 _ (unhide HB5)).mono ?_
                rintro e X6 ⟨rfl, hb6⟩
                replace HFR := hide ((unhide HFR).on hb6)
                have HB6 := hide ((unhide HB5).trans (hb6.mono (unhide HB5).size))
                have LL := hide (Hq.nil X6 [])
                clear hb6 HB5
                go_wp2_with (first | go_skip | ((with_reducible show wpList _ _ _ _ _ _); first | ((refine alG 44 (zeroV.cs) (by rfl) rfl (fun w => by kernel_rfl) (Nat.succ_pos _) (unhide LL) ?_); intro X7 B7 hE7 L7 hb7; have hB7 := hide (Nat.le_trans (unhide LL).fr.size (Nat.le_of_eq hE7.symm)); replace LL := hide L7; clear L7 hb7 hE7; simp only [Act.put, List.setIfInBounds_toArray, List.set_cons_succ, List.set_cons_zero]) | ((refine st (vs := (sV s).cs) 0 44 (by rfl) rfl rfl rfl rfl (vcs_one _) (siz44) (unhide LL) rfl (by simp [cput, ycs_length, vcs_length, SY.cs, VV.cs]) (Or.inr (unhide hB7)) ?_); intro X8 L8 hf8 hs8; replace LL := hide L8; clear L8 hf8 hs8; simp only [Act.put, List.setIfInBounds_toArray, List.set_cons_succ, List.set_cons_zero]) | ((refine rd (by rfl) (ex_indexG 33 1 i und33 idx33 rfl rfl rfl (unhide HLT)) ?_); simp only [Act.put, List.setIfInBounds_toArray, List.set_cons_succ, List.set_cons_zero]) | ((refine rd (by rfl) (ex_loadC 9 Tryd.isAgg9 rfl rfl (unhide HTX _ ((unhide HFR).trans (unhide LL).fr (by simp)))) ?_); simp only [Act.put, List.setIfInBounds_toArray, List.set_cons_succ, List.set_cons_zero])))
                refine (num16 0 ⟨by omega, by omega⟩ _).mono ?_
                rintro e X9 ⟨rfl, h9⟩
                rw [h9]
                clear h9 X9
                go_wp2_with fail
                refine (num16 0 ⟨by omega, by omega⟩ _).mono ?_
                rintro e X9 ⟨rfl, h9⟩
                rw [h9]
                clear h9 X9
                go_wp2_with (first | go_skip | ((with_reducible show wpList _ _ _ _ _ _); first | ((refine rd (by rfl) (ex_loadN (vs := (sV s).cs) 44 5 row44 siz44 rfl rfl ((unhide LL).get 0 rfl) rfl rfl) ?_); simp only [Act.put, List.setIfInBounds_toArray, List.set_cons_succ, List.set_cons_zero]) | ((refine rd (by rfl) (ex_build44s (s := s) rfl rfl rfl) ?_); simp only [Act.put, List.setIfInBounds_toArray, List.set_cons_succ, List.set_cons_zero])))
                refine (eq_any (sV s) (sV s) _).mono ?_
                rintro e X10 ⟨rfl, hb⟩
                rw [eqB_self]
                replace LL := hide ((unhide LL).on hb)
                clear hb
                go_wp2
                have HS5 := hide (((unhide HS4).on (unhide HB6)).on (unhide LL).fr.below)
                go_roundg (l1.length - (i + 1))
                case measure => have := unhide HLT; omega
                case rel => exact ⟨i + 1, by go_num, by have := unhide HLT; omega, by omega, hide (by have e := unhide HCC; rw [show t * l1.length + (i + 1) = C + 1 by omega]; exact ⟨_, _, _, _, _, _, _, _, unhide HS5, by have := unhide HBD; omega, by have := unhide HBD; omega, by have := unhide HBD; omega, by have := unhide HBD; omega, by have := unhide HBD; omega⟩)⟩
        · have hil : i = l1.length := by omega
          subst hil
          have HK2 : Hid (KI w wr r m M1 M2 ((t + 1) * l1.length)) := by rw [Nat.succ_mul]; exact HK
          clear hlt hi hgm2 HK
          go_wp2_with (first | go_skip | ((with_reducible show wpList _ _ _ _ _ _); first | ((refine rd (by rfl) (ex_lenG 33 9 Tryd.underlying33 rfl rfl) ?_); simp only [Act.put, List.setIfInBounds_toArray, List.set_cons_succ, List.set_cons_zero])))
          go_roundg (2 - (t + 1))
          case measure => have := unhide HTL; omega
          case rel => exact ⟨t + 1, by go_num, by have := unhide HTL; omega, by omega, HK2⟩
    · have ht2 : t = 2 := by omega
      subst ht2
      obtain ⟨sv, ll, F, sz, G, n, n1, n2, hS, h1, h2, h3, h4, h5⟩ := unhide HK
      have HKN := hide (known20 ⟨r, m, sv, ll⟩ wr hS.reg ((unhide HT).fr hS.fr (by simp)) (fun s hs hh => by obtain ⟨k, hk⟩ := Option.isSome_iff_exists.1 hh; exact (hS.kn s hs k hk).1) (by have := unhide HL; omega))
      have HS := hide hS
      clear htl hS h1 h2 h3 h4 h5 HK
      go_wp2_with fail
      refine (unhide HKN).mono ?_
      rintro e X5 ⟨A5, c5, rfl, hb5⟩
      have HS5 := hide ((unhide HS).on hb5)
      clear hb5 HKN
      go_wp2_with (first | go_skip | ((with_reducible show wpList _ _ _ _ _ _); first | ((refine rd (by rfl) (ex_lenG 33 9 Tryd.underlying33 rfl rfl) ?_); simp only [Act.put, List.setIfInBounds_toArray, List.set_cons_succ, List.set_cons_zero]) | ((refine rd (by rfl) (ex_lenM rfl rfl (unhide HS5).fst) ?_); simp only [Act.put, List.setIfInBounds_toArray, List.set_cons_succ, List.set_cons_zero])))
      go_ret
      exact ⟨rfl, (unhide HS5).fr.below⟩
end Go.Proofs.YtkpfikeggleenaaDoor
