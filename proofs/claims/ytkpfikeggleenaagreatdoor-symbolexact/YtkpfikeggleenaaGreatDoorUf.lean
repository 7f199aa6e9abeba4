import Derived.Test.YtkpfikeggleenaaGreatDoorUe
import Derived.Test.YtkpfikeggleenaaGreatDoorVo
import Derived.Test.YtkpfikeggleenaaGreatDoorYl

/-! Xq -/
namespace Go.Proofs.YtkpfikeggleenaaGreatDoor
open Go Go.Proofs Go.Maps Go.RowKit
set_option linter.unusedSimpArgs false
set_option linter.unusedVariables false
set_option maxHeartbeats 1000000
/-- A slice whose elements are these acts. -/
def ReadsA (w : World) (A : Option Addr) (l : List AC) : Prop := ∀ j a, l[j]? = some a → a.v.x < 2 ^ 64 ∧ ∃ b off, A = some ⟨b, off, none⟩ ∧ b < w.heap.size ∧ w.rangeAt b (off + j * 8) a.cs
def LP (w : World) (n : Nat) (e : Ending) (w' : World) : Prop := ∃ b, e = .returned (.bool b) ∧ (b = true → n ≤ 300) ∧ Fr w w' []
theorem idx22 (w : World) : (sizeOf (Tryz.prog.elem 22)).run Tryz.prog w = .ok 8 w := by kernel_rfl
theorem und22 : Tryz.prog.underlying 22 = some (.slice (Tryz.prog.elem 22)) := by kernel_rfl
theorem ex_eqYes {o : Oper} {a : Act} {w : World} {x y : Operand} {n m : Int} (ho : o.op = .binOp .eql 3 x y 3) (hx : a.eval x = .int .i64 n) (hc : a.eval y = .int .i64 m) (h : n = m) : (execOp a.eval o).run Tryz.prog w = .ok (.value (.bool true)) w := by
  unfold execOp
  simp only [ho, hx, hc]
  simp [go_sem, eqGuard, h]
theorem rangeAt_fr {w X : World} {b p : Nat} {cs : List Value} (h : w.rangeAt b p cs) (hb : b < w.heap.size) (hf : Fr w X []) : X.rangeAt b p cs := fun j v hv => by
  have e := h j v hv
  have h1 := hf.block b hb (by simp)
  unfold World.cell? at e ⊢
  dsimp only at e ⊢
  rw [h1]
  exact e
set_option maxHeartbeats 4000000 in
set_option maxRecDepth 100000 in
theorem light4 (A : Option Addr) (cap : Nat) (l : List AC) (w : World) (hr : ReadsA w A l) : Calls Tryz.prog 4 #[.slice A l.length cap] w (LP w l.length) := by
  have HR := hide hr
  have H0 := hide (Fr.refl w [])
  clear hr
  go_enter Tryz.func4, Tryz.ntmps4
  go_wp2_with fail
  go_loopg [3, 4, 5] 301 (fun gm s3 s4 s5 wr => ∃ (i : Nat) (m bs : Int), s5 = .int .i64 i ∧ s3 = .int .i64 m ∧ s4 = .int .i64 bs ∧ i ≤ 301 ∧ i ≤ l.length ∧ 301 - i ≤ gm ∧ Hid (Fr w wr []))
  case atStart => exact ⟨0, 0, 0, rfl, rfl, rfl, by omega, by omega, by omega, H0⟩
  case round =>
    clear H0
    obtain ⟨i, m, bs, rfl, rfl, rfl, hk, hil, hgm, HF⟩ := hrel
    by_cases hlt : i < l.length
    · have dlt : decide ((i : Int) < (l.length : Int)) = true := decide_eq_true (by omega)
      by_cases h3 : i ≤ 300
      · have d3 : decide ((i : Int) ≤ 300) = true := decide_eq_true (by omega)
        have hw1 : IntKind.i64.wrap ((i : Int) + 1) = (i : Int) + 1 := by rw [IntKind.wrap_i64]; omega
        obtain ⟨a, ha⟩ : ∃ a, l[i]? = some a := ⟨_, List.getElem?_eq_getElem hlt⟩
        obtain ⟨-, g, off, hA, hb, hrg⟩ := (unhide HR) i a ha
        subst hA
        have HA2 : Hid (∀ X, Fr w X [] → X.rangeAt g (off + i * 8) a.cs) := hide (fun X hX => rangeAt_fr hrg hb hX)
        have HLT := hide hlt
        have HK := hide (And.intro h3 hk)
        clear hlt h3 hk ha hb hrg hil
        go_wp2_with (first | go_skip | ((with_reducible show wpList _ _ _ _ _ _); first | ((refine rd (by rfl) (ex_lenG 22 37 Tryz.underlying22 rfl rfl) ?_); simp only [Act.put, List.setIfInBounds_toArray, List.set_cons_succ, List.set_cons_zero])))
        have s0 : Fr w wr.drew [] := (unhide HF).drew
        refine wp_region_held_drew (P := Tryz.prog) (S := fun X => Fr w X []) (by kernel_rfl) s0 (fun hS0 => ?_)
        refine gsem 0 (some 16) (.int .i64 bs) rfl (by kernel_rfl) (by kernel_rfl) (by kernel_rfl) (fun _ _ _ h => h) (by kernel_rfl) (by kernel_rfl) (fun _ _ => by kernel_rfl) s0 ?_
        simp only [Act.put, List.setIfInBounds_toArray, List.set_cons_succ, List.set_cons_zero]
        refine gsem 1 (some 17) (.slice (some ⟨g, off, none⟩) l.length cap) rfl (by kernel_rfl) (by kernel_rfl) (by kernel_rfl) (fun _ _ _ h => h) (by kernel_rfl) (by kernel_rfl) (fun _ _ => by kernel_rfl) s0 ?_
        simp only [Act.put, List.setIfInBounds_toArray, List.set_cons_succ, List.set_cons_zero]
        refine gsem 2 (some 18) (.int .i64 (i : Nat)) rfl (by kernel_rfl) (by kernel_rfl) (by kernel_rfl) (fun _ _ _ h => h) (by kernel_rfl) (by kernel_rfl) (fun _ _ => by kernel_rfl) s0 ?_
        simp only [Act.put, List.setIfInBounds_toArray, List.set_cons_succ, List.set_cons_zero]
        refine gsem 3 (some 19) (.pointer (some ⟨g, off + i * 8, none⟩)) rfl (by kernel_rfl) (by kernel_rfl) (by kernel_rfl) (fun _ _ _ h => h) (by kernel_rfl) (by kernel_rfl) (fun X hX => ex_indexG 22 8 i und22 idx22 rfl rfl rfl (unhide HLT)) s0 ?_
        simp only [Act.put, List.setIfInBounds_toArray, List.set_cons_succ, List.set_cons_zero]
        refine gsem 4 (some 20) (.pointer (some ⟨g, off + i * 8 + 6, none⟩)) rfl (by kernel_rfl) (by kernel_rfl) (by kernel_rfl) (fun _ _ _ h => h) (by kernel_rfl) (by kernel_rfl) (fun _ _ => by kernel_rfl) s0 ?_
        simp only [Act.put, List.setIfInBounds_toArray, List.set_cons_succ, List.set_cons_zero]
        refine gsem 5 (some 21) (.string a.s) rfl (by kernel_rfl) (by kernel_rfl) (by kernel_rfl) (fun _ _ _ h => h) (by kernel_rfl) (by kernel_rfl) (fun X hX => ex_loadC 9 Tryz.isAgg9 rfl rfl ((unhide HA2 X hX) 6 _ rfl)) s0 ?_
        simp only [Act.put, List.setIfInBounds_toArray, List.set_cons_succ, List.set_cons_zero]
        refine gsem 6 (some 22) (.int .i64 (a.s.size : Nat)) rfl (by kernel_rfl) (by kernel_rfl) (by kernel_rfl) (fun _ _ _ h => h) (by kernel_rfl) (by kernel_rfl) (fun _ _ => by kernel_rfl) s0 ?_
        simp only [Act.put, List.setIfInBounds_toArray, List.set_cons_succ, List.set_cons_zero]
        refine gsem 7 (some 23) (.int .i64 (IntKind.i64.wrap (bs + (a.s.size : Nat)))) rfl (by kernel_rfl) (by kernel_rfl) (by kernel_rfl) (fun _ _ _ h => h) (by kernel_rfl) (by kernel_rfl) (fun _ _ => by kernel_rfl) s0 ?_
        simp only [Act.put, List.setIfInBounds_toArray, List.set_cons_succ, List.set_cons_zero]
        refine gsem 8 (some 24) (.slice (some ⟨g, off, none⟩) l.length cap) rfl (by kernel_rfl) (by kernel_rfl) (by kernel_rfl) (fun _ _ _ h => h) (by kernel_rfl) (by kernel_rfl) (fun _ _ => by kernel_rfl) s0 ?_
        simp only [Act.put, List.setIfInBounds_toArray, List.set_cons_succ, List.set_cons_zero]
        refine gsem 9 (some 25) (.int .i64 (i : Nat)) rfl (by kernel_rfl) (by kernel_rfl) (by kernel_rfl) (fun _ _ _ h => h) (by kernel_rfl) (by kernel_rfl) (fun _ _ => by kernel_rfl) s0 ?_
        simp only [Act.put, List.setIfInBounds_toArray, List.set_cons_succ, List.set_cons_zero]
        refine gsem 10 (some 26) (.pointer (some ⟨g, off + i * 8, none⟩)) rfl (by kernel_rfl) (by kernel_rfl) (by kernel_rfl) (fun _ _ _ h => h) (by kernel_rfl) (by kernel_rfl) (fun X hX => ex_indexG 22 8 i und22 idx22 rfl rfl rfl (unhide HLT)) s0 ?_
        simp only [Act.put, List.setIfInBounds_toArray, List.set_cons_succ, List.set_cons_zero]
        refine gsem 11 (some 27) (.pointer (some ⟨g, off + i * 8 + 1, none⟩)) rfl (by kernel_rfl) (by kernel_rfl) (by kernel_rfl) (fun _ _ _ h => h) (by kernel_rfl) (by kernel_rfl) (fun _ _ => by kernel_rfl) s0 ?_
        simp only [Act.put, List.setIfInBounds_toArray, List.set_cons_succ, List.set_cons_zero]
        refine gsem 12 (some 28) (.pointer (some ⟨g, off + i * 8 + 1 + 3, none⟩)) rfl (by kernel_rfl) (by kernel_rfl) (by kernel_rfl) (fun _ _ _ h => h) (by kernel_rfl) (by kernel_rfl) (fun _ _ => by kernel_rfl) s0 ?_
        simp only [Act.put, List.setIfInBounds_toArray, List.set_cons_succ, List.set_cons_zero]
        refine gsem 13 (some 29) (.string a.v.s) rfl (by kernel_rfl) (by kernel_rfl) (by kernel_rfl) (fun _ _ _ h => h) (by kernel_rfl) (by kernel_rfl) (fun X hX => ex_loadC 9 Tryz.isAgg9 rfl rfl ((unhide HA2 X hX) 4 _ rfl)) s0 ?_
        simp only [Act.put, List.setIfInBounds_toArray, List.set_cons_succ, List.set_cons_zero]
        refine gsem 14 (some 30) (.int .i64 (a.v.s.size : Nat)) rfl (by kernel_rfl) (by kernel_rfl) (by kernel_rfl) (fun _ _ _ h => h) (by kernel_rfl) (by kernel_rfl) (fun _ _ => by kernel_rfl) s0 ?_
        simp only [Act.put, List.setIfInBounds_toArray, List.set_cons_succ, List.set_cons_zero]
        refine gsem 15 (some 31) (.int .i64 (IntKind.i64.wrap (IntKind.i64.wrap (bs + (a.s.size : Nat)) + (a.v.s.size : Nat)))) rfl (by kernel_rfl) (by kernel_rfl) (by kernel_rfl) (fun _ _ _ h => h) (by kernel_rfl) (by kernel_rfl) (fun _ _ => by kernel_rfl) s0 ?_
        simp only [Act.put, List.setIfInBounds_toArray, List.set_cons_succ, List.set_cons_zero]
        refine gsem 16 (some 4) (.int .i64 (IntKind.i64.wrap (IntKind.i64.wrap (bs + (a.s.size : Nat)) + (a.v.s.size : Nat)))) rfl (by kernel_rfl) (by kernel_rfl) (by kernel_rfl) (fun _ _ _ h => h) (by kernel_rfl) (by kernel_rfl) (fun _ _ => by kernel_rfl) s0 ?_
        simp only [Act.put, List.setIfInBounds_toArray, List.set_cons_succ, List.set_cons_zero]
        refine wpAnyH_done (by kernel_rfl) ?_ _
        try simp only [Act.put, List.setIfInBounds_toArray, List.set_cons_succ, List.set_cons_zero]
        generalize IntKind.i64.wrap (IntKind.i64.wrap (bs + (a.s.size : Nat)) + (a.v.s.size : Nat)) = bs2
        have HF2 := hide s0
        replace HF := HF2
        clear s0 hS0 HF2
        by_cases h7 : a.k = 7
        · have H7 := hide h7
          clear h7
          go_wp2_with (first | go_skip | ((with_reducible show wpList _ _ _ _ _ _); first | ((refine rd (by rfl) (ex_eqYes rfl rfl rfl (unhide H7)) ?_); simp only [Act.put, List.setIfInBounds_toArray, List.set_cons_succ, List.set_cons_zero]) | ((refine rd (by rfl) (ex_indexG 22 8 i und22 idx22 rfl rfl rfl (unhide HLT)) ?_); simp only [Act.put, List.setIfInBounds_toArray, List.set_cons_succ, List.set_cons_zero]) | ((refine rd (by rfl) (ex_loadC 3 Tryz.isAgg3 rfl rfl ((unhide HA2 _ (unhide HF)) 0 _ rfl)) ?_); simp only [Act.put, List.setIfInBounds_toArray, List.set_cons_succ, List.set_cons_zero])))
          go_roundg (301 - (i + 1))
          case measure => have := unhide HK; omega
          case rel => exact ⟨i + 1, _, _, by go_num, rfl, rfl, by have := unhide HK; omega, by have := unhide HLT; omega, by omega, HF⟩
        · have H7 := hide h7
          clear h7
          go_wp2_with (first | go_skip | ((with_reducible show wpList _ _ _ _ _ _); first | ((refine rd (by rfl) (ex_eqNo rfl rfl rfl (unhide H7)) ?_); simp only [Act.put, List.setIfInBounds_toArray, List.set_cons_succ, List.set_cons_zero]) | ((refine rd (by rfl) (ex_indexG 22 8 i und22 idx22 rfl rfl rfl (unhide HLT)) ?_); simp only [Act.put, List.setIfInBounds_toArray, List.set_cons_succ, List.set_cons_zero]) | ((refine rd (by rfl) (ex_loadC 3 Tryz.isAgg3 rfl rfl ((unhide HA2 _ (unhide HF)) 0 _ rfl)) ?_); simp only [Act.put, List.setIfInBounds_toArray, List.set_cons_succ, List.set_cons_zero])))
          go_roundg (301 - (i + 1))
          case measure => have := unhide HK; omega
          case rel => exact ⟨i + 1, _, _, by go_num, rfl, rfl, by have := unhide HK; omega, by have := unhide HLT; omega, by omega, HF⟩
      · obtain rfl : i = 301 := by omega
        replace dlt : decide ((301 : Int) < (l.length : Int)) = true := dlt
        have dl : decide ((l.length : Int) ≤ 300) = false := decide_eq_false (by omega)
        clear hlt h3 hk hil
        go_wp2_with (first | go_skip | ((with_reducible show wpList _ _ _ _ _ _); first | ((refine rd (by rfl) (ex_lenG 22 37 Tryz.underlying22 rfl rfl) ?_); simp only [Act.put, List.setIfInBounds_toArray, List.set_cons_succ, List.set_cons_zero])))
        go_ret
        exact ⟨false, rfl, fun h => (by cases h), unhide HF⟩
    · obtain rfl : i = l.length := by omega
      clear hlt hk hil
      by_cases hl : l.length ≤ 300
      · have dl : decide ((l.length : Int) ≤ 300) = true := decide_eq_true (by omega)
        have HL := hide hl
        clear hl
        by_cases hm : m ≤ 2
        · have dm : decide (m ≤ 2) = true := decide_eq_true hm
          clear hm
          by_cases hb : bs ≤ 4000000
          · have db : decide (bs ≤ 4000000) = true := decide_eq_true hb
            clear hb
            go_wp2_with (first | go_skip | ((with_reducible show wpList _ _ _ _ _ _); first | ((refine rd (by rfl) (ex_lenG 22 37 Tryz.underlying22 rfl rfl) ?_); simp only [Act.put, List.setIfInBounds_toArray, List.set_cons_succ, List.set_cons_zero])))
            go_ret
            exact ⟨true, rfl, fun _ => unhide HL, unhide HF⟩
          · have db : decide (bs ≤ 4000000) = false := decide_eq_false hb
            clear hb
            go_wp2_with (first | go_skip | ((with_reducible show wpList _ _ _ _ _ _); first | ((refine rd (by rfl) (ex_lenG 22 37 Tryz.underlying22 rfl rfl) ?_); simp only [Act.put, List.setIfInBounds_toArray, List.set_cons_succ, List.set_cons_zero])))
            go_ret
            exact ⟨false, rfl, fun h => (by cases h), unhide HF⟩
        · have dm : decide (m ≤ 2) = false := decide_eq_false hm
          clear hm
          go_wp2_with (first | go_skip | ((with_reducible show wpList _ _ _ _ _ _); first | ((refine rd (by rfl) (ex_lenG 22 37 Tryz.underlying22 rfl rfl) ?_); simp only [Act.put, List.setIfInBounds_toArray, List.set_cons_succ, List.set_cons_zero])))
          go_ret
          exact ⟨false, rfl, fun h => (by cases h), unhide HF⟩
      · have dl : decide ((l.length : Int) ≤ 300) = false := decide_eq_false (by omega)
        clear hl
        go_wp2_with (first | go_skip | ((with_reducible show wpList _ _ _ _ _ _); first | ((refine rd (by rfl) (ex_lenG 22 37 Tryz.underlying22 rfl rfl) ?_); simp only [Act.put, List.setIfInBounds_toArray, List.set_cons_succ, List.set_cons_zero])))
        go_ret
        exact ⟨false, rfl, fun h => (by cases h), unhide HF⟩
end Go.Proofs.YtkpfikeggleenaaGreatDoor

/-! Xr -/
namespace Go.Proofs.YtkpfikeggleenaaGreatDoor
open Go Go.Proofs Go.Maps Go.RowKit
set_option linter.unusedSimpArgs false
set_option linter.unusedVariables false
set_option maxHeartbeats 1000000
theorem Left.fr {w0 W : World} {P : Nat} (h : Left w0 W P) : Fr w0 W [] := by
  obtain ⟨R0, R1, Q0, Q1, h1, -⟩ := h
  exact h1.fr
set_option maxHeartbeats 4000000 in
set_option maxRecDepth 100000 in
theorem law_exact (A : Option Addr) (cap : Nat) (l : List AC) (w : World) (hT : Tabs w) (hN : Nm w) (hr : ReadsA w A l) : Calls Tryz.prog 3 #[.slice A l.length cap] w fun e w' => e = .returned (.bool true) ∧ Below w.heap.size w w' := by
  have HT := hide hT
  have HN := hide hN
  have HR := hide hr
  have HL := hide (light4 A cap l w hr)
  clear hT hN hr
  go_enter Tryz.func3, Tryz.ntmps3
  go_wp2_with fail
  refine (unhide HL).mono ?_
  rintro e X1 ⟨b, rfl, hb, hf⟩
  have HF1 := hide hf
  clear hf HL
  cases b
  · clear hb
    go_wp2
    go_ret
    exact ⟨rfl, (unhide HF1).below⟩
  · have HLE := hide (hb rfl)
    clear hb
    go_wp2_with fail
    refine (newPair5 X1 ((unhide HT).fr (unhide HF1) (by simp)) ((unhide HN).fr (unhide HF1) (by simp))).mono ?_
    rintro e X2 ⟨P, R0, R1, Q0, Q1, rfl, hP, l0, l1, l2, l3⟩
    have H0 : Hid (Left X1 X2 P) := hide ⟨R0, R1, Q0, Q1, hP, by rw [l2, l0], by rw [l3, l1]⟩
    have HP0 := hide hP
    clear hP l0 l1 l2 l3
    go_wp2_with (first | go_skip | ((with_reducible show wpList _ _ _ _ _ _); first | ((refine rd (by rfl) (ex_indexA 27 2 1 0 und27 len27 idx27 rfl rfl rfl (by decide)) ?_); simp only [Act.put, List.setIfInBounds_toArray, List.set_cons_succ, List.set_cons_zero]) | ((refine rd (by rfl) (ex_indexA 27 2 1 1 und27 len27 idx27 rfl rfl rfl (by decide)) ?_); simp only [Act.put, List.setIfInBounds_toArray, List.set_cons_succ, List.set_cons_zero]) | ((refine rd (by rfl) (ex_load1 26 Tryz.isAgg26 rfl rfl ((unhide HP0).hold) rfl) ?_); simp only [Act.put, List.setIfInBounds_toArray, List.set_cons_succ, List.set_cons_zero])))
    clear HP0
    go_loopg [4] l.length (fun gm s4 wr => ∃ i : Nat, s4 = .int .i64 i ∧ i ≤ l.length ∧ l.length - i ≤ gm ∧ Hid (Left X1 wr P))
    case atStart => exact ⟨0, rfl, by omega, by omega, H0⟩
    case round =>
      clear H0
      obtain ⟨i, rfl, hk, hgm, HI⟩ := hrel
      by_cases hlt : i < l.length
      · have dlt : decide ((i : Int) < (l.length : Int)) = true := decide_eq_true (by omega)
        have hw1 : IntKind.i64.wrap ((i : Int) + 1) = (i : Int) + 1 := by have := unhide HLE; rw [IntKind.wrap_i64]; omega
        obtain ⟨a, ha⟩ : ∃ a, l[i]? = some a := ⟨_, List.getElem?_eq_getElem hlt⟩
        obtain ⟨hx, g, off, hA, hb, hrg⟩ := (unhide HR) i a ha
        subst hA
        have HX := hide hx
        have HA2 : Hid (∀ X, Fr w X [] → X.rangeAt g (off + i * 8) a.cs) := hide (fun X hX => rangeAt_fr hrg hb hX)
        have HFW := hide ((unhide HF1).trans (unhide HI).fr (by simp))
        have HLT := hide hlt
        clear hlt ha hb hrg hx hk
        go_wp2_with (first | go_skip | ((with_reducible show wpList _ _ _ _ _ _); first | ((refine rd (by rfl) (ex_lenG 22 37 Tryz.underlying22 rfl rfl) ?_); simp only [Act.put, List.setIfInBounds_toArray, List.set_cons_succ, List.set_cons_zero]) | ((refine rd (by rfl) (ex_indexG 22 8 i und22 idx22 rfl rfl rfl (unhide HLT)) ?_); simp only [Act.put, List.setIfInBounds_toArray, List.set_cons_succ, List.set_cons_zero]) | ((refine rd (by rfl) (ex_loadR 37 8 row37 siz37 rfl rfl (unhide HA2 _ (unhide HFW)) rfl) ?_); simp only [Act.put, List.setIfInBounds_toArray, List.set_cons_succ, List.set_cons_zero])))
        refine (play6 a wr (unhide HI) ((unhide HT).fr (unhide HF1) (by simp)) (unhide HX)).mono ?_
        rintro e X3 ⟨rfl, hL⟩
        have HI3 := hide hL
        clear hL HI HA2 HFW
        go_wp2
        go_roundg (l.length - (i + 1))
        case measure => have := unhide HLT; omega
        case rel => exact ⟨i + 1, by go_num, by have := unhide HLT; omega, by omega, HI3⟩
      · obtain rfl : i = l.length := by omega
        clear hlt hk hgm
        obtain ⟨R0, R1, Q0, Q1, hp, e0, e1⟩ := unhide HI
        have HP := hide hp
        have HE := hide (And.intro e0 e1)
        obtain ⟨AQ, cQ, hQ⟩ := hp.f0.own.form
        have HQ := hide hQ
        clear hp e0 e1 hQ HI
        go_wp2_with (first | go_skip | ((with_reducible show wpList _ _ _ _ _ _); first | ((refine rd (by rfl) (ex_lenG 22 37 Tryz.underlying22 rfl rfl) ?_); simp only [Act.put, List.setIfInBounds_toArray, List.set_cons_succ, List.set_cons_zero])))
        obtain ⟨nn, sz, F, hr⟩ := (unhide HP).rp0 (unhide HE).1
        refine (tells7 P 0 _ _ _ _ (unhide HP).at0 hr ((unhide HT).fr ((unhide HF1).trans (unhide HP).fr (by simp)) (by simp))).mono ?_
        rintro e X4 ⟨rfl, hb⟩
        replace HP := hide ((unhide HP).on hb)
        clear hb hr nn sz F
        go_wp2_with fail
        obtain ⟨nn, sz, F, hr⟩ := (unhide HP).rp1 (unhide HE).2
        refine (tells7 P 1 _ _ _ _ (unhide HP).at1 hr ((unhide HT).fr ((unhide HF1).trans (unhide HP).fr (by simp)) (by simp))).mono ?_
        rintro e X5 ⟨rfl, hb⟩
        replace HP := hide ((unhide HP).on hb)
        clear hb hr nn sz F
        go_wp2_with (first | go_skip | ((with_reducible show wpList _ _ _ _ _ _); first | ((refine rd (by rfl) (ex_indexA 29 2 1 0 und29 len29 idx29 rfl rfl rfl (by decide)) ?_); simp only [Act.put, List.setIfInBounds_toArray, List.set_cons_succ, List.set_cons_zero]) | ((refine rd (by rfl) (ex_load1 28 Tryz.isAgg28 rfl rfl ((unhide HP).hold) rfl) ?_); simp only [Act.put, List.setIfInBounds_toArray, List.set_cons_succ, List.set_cons_zero]) | ((refine rd (by rfl) (ex_load1 39 Tryz.isAgg39 rfl rfl ((unhide HP).f0.hold) rfl) ?_); simp only [Act.put, List.setIfInBounds_toArray, List.set_cons_succ, List.set_cons_zero]) | ((refine rd (by rfl) (ex_lenV 39 81 Tryz.underlying39 rfl rfl (unhide HQ) rfl) ?_); simp only [Act.put, List.setIfInBounds_toArray, List.set_cons_succ, List.set_cons_zero])))
        refine (asks8 _ _ (unhide HP) (unhide HE).1).mono ?_
        rintro e X6 ⟨rfl, hb⟩
        replace HP := hide ((unhide HP).on hb)
        clear hb
        go_wp2_with (first | go_skip | ((with_reducible show wpList _ _ _ _ _ _); first | ((refine rd (by rfl) (ex_indexA 29 2 1 0 und29 len29 idx29 rfl rfl rfl (by decide)) ?_); simp only [Act.put, List.setIfInBounds_toArray, List.set_cons_succ, List.set_cons_zero]) | ((refine rd (by rfl) (ex_load1 28 Tryz.isAgg28 rfl rfl ((unhide HP).hold) rfl) ?_); simp only [Act.put, List.setIfInBounds_toArray, List.set_cons_succ, List.set_cons_zero]) | ((refine rd (by rfl) (ex_load1 39 Tryz.isAgg39 rfl rfl ((unhide HP).f0.hold) rfl) ?_); simp only [Act.put, List.setIfInBounds_toArray, List.set_cons_succ, List.set_cons_zero]) | ((refine rd (by rfl) (ex_lenV 39 81 Tryz.underlying39 rfl rfl (unhide HQ) rfl) ?_); simp only [Act.put, List.setIfInBounds_toArray, List.set_cons_succ, List.set_cons_zero])))
        refine (asks8 _ _ (unhide HP) (unhide HE).1).mono ?_
        rintro e X7 ⟨rfl, hb⟩
        replace HP := hide ((unhide HP).on hb)
        clear hb
        go_wp2
        go_ret
        exact ⟨rfl, ((unhide HF1).trans (unhide HP).fr (by simp)).below⟩
section
variable {H : Type} {enc : TypeId × Value → H} {P : Program} {W : World} {base : Nat} {sp : Nat → Bool} {held : Bool} {m : Nat} {x : DataW H × List MemPlace} {t : TypeId}
theorem cells_act' {f0 f1 f2 f3 : Field} {cs : List Value} (hs : P.underlying t = some (.struct #[f0, f1, f2, f3])) (hC : P.cellsOf t = 8)
    (o0 : f0.offset = 0) (o1 : f1.offset = 1) (o2 : f2.offset = 6) (o3 : f3.offset = 7)
    (u0 : P.underlying f0.type = some (.int .i64)) (u2 : P.underlying f2.type = some .string) (u3 : P.underlying f3.type = some (.int .i64))
    (s0 : P.cellsOf f0.type = 1) (s1 : P.cellsOf f1.type = 5) (s2 : P.cellsOf f2.type = 1) (s3 : P.cellsOf f3.type = 1)
    (hv : ∀ m x cs, DataW.trod enc P W base sp held m f1.type cs = some x → ∃ u : VV, cs = u.cs ∧ u.x < 2 ^ 64)
    (h : DataW.trod enc P W base sp held m t cs = some x) : ∃ a : AC, cs = a.cs ∧ a.v.x < 2 ^ 64 := by
  obtain ⟨xs, n, _, rfl, hl, hlen, hf⟩ := DataW.trod_struct hs h
  rw [hC] at hl
  match cs, hl with
  | [c0, c1, c2, c3, c4, c5, c6, c7], _ =>
    have h0 := hf 0 _ rfl
    have h1 := hf 1 _ rfl
    have h2 := hf 2 _ rfl
    have h3 := hf 3 _ rfl
    simp [s0, s1, s2, s3, o0, o1, o2, o3] at h0 h1 h2 h3 hlen
    have g : ∀ j, j < 4 → ∃ y, xs[j]? = some y := fun j hj => ⟨_, List.getElem?_eq_getElem (by omega)⟩
    obtain ⟨y0, e0⟩ := g 0 (by omega)
    obtain ⟨y1, e1⟩ := g 1 (by omega)
    obtain ⟨y2, e2⟩ := g 2 (by omega)
    obtain ⟨y3, e3⟩ := g 3 (by omega)
    rw [e0] at h0
    rw [e1] at h1
    rw [e2] at h2
    rw [e3] at h3
    obtain ⟨k, rfl, -, -⟩ := cell_int u0 h0
    obtain ⟨u, hu, hx⟩ := hv _ _ _ h1
    obtain ⟨s, rfl, -, -⟩ := cell_string u2 h2
    obtain ⟨n, rfl, -, -⟩ := cell_int u3 h3
    refine ⟨⟨k, u, s, n⟩, ?_, hx⟩
    unfold AC.cs
    rw [← hu]
    rfl
end
theorem cellsOf37 : Tryz.prog.cellsOf 37 = 8 := by kernel_rfl
set_option maxRecDepth 100000 in
theorem cells_act {H : Type} {enc : TypeId × Value → H} {W : World} {base : Nat} {sp : Nat → Bool} {held : Bool} {m : Nat} {x : DataW H × List MemPlace} {cs : List Value} (h : DataW.trod enc Tryz.prog W base sp held m 37 cs = some x) : ∃ a : AC, cs = a.cs ∧ a.v.x < 2 ^ 64 :=
  cells_act' Tryz.underlying37 cellsOf37 rfl rfl rfl rfl Tryz.underlying3 Tryz.underlying9 Tryz.underlying3 cellsOf3 cellsOf24 cellsOf9 cellsOf3 (fun m x cs h => by obtain ⟨u, h1, h2, -⟩ := cells_value h; exact ⟨u, h1, h2⟩) h
end Go.Proofs.YtkpfikeggleenaaGreatDoor

/-! Xs -/
namespace Go.Proofs.YtkpfikeggleenaaGreatDoor
open Go Go.Proofs Go.Maps Go.RowKit
set_option linter.unusedSimpArgs false
set_option linter.unusedVariables false
set_option maxHeartbeats 1000000
/-- A list of acts, opened. -/
theorem open_rowA {H : Type} {enc : TypeId × Value → H} {W : World} {v : Value} {d : DataW H} {p : List MemPlace} {A : Option Addr} {n cap : Nat} (hv : v = .slice A n cap) (h : DataW.Trod enc Tryz.prog W 0 (fun _ => true) true 22 v d p) : ∃ l : List AC, n = l.length ∧ ReadsA W A l := by
  subst hv
  obtain ⟨fuel, hf⟩ := h
  rcases Go.Deep.open_slice Tryz.underlying22 hf with ⟨hcs, hx⟩ | ⟨a, len, cap', m, k, D, Pl, hcs, _, hl, hm, hme, hx, hel⟩
  · simp [Value.cells] at hcs
    obtain ⟨rfl, rfl, rfl⟩ := hcs
    exact ⟨[], rfl, fun j u hu => by simp at hu⟩
  · simp [Value.cells] at hcs
    obtain ⟨rfl, rfl, rfl⟩ := hcs
    have hme' : n ≤ m := by
      simp at hme
      omega
    have each : ∀ i, i < n → ∃ u : AC, u.v.x < 2 ^ 64 ∧ W.cells? 0 (a.add (i * 8)) 8 = some u.cs := by
      intro i hi
      obtain ⟨cs', h1, h2⟩ := hel i (by omega)
      obtain ⟨u, rfl, hx⟩ := cells_act h2
      rw [cellsOf37] at h1
      exact ⟨u, hx, h1⟩
    have mk : ∀ k, k ≤ n → ∃ l : List AC, l.length = k ∧ ∀ i u, l[i]? = some u → u.v.x < 2 ^ 64 ∧ W.cells? 0 (a.add (i * 8)) 8 = some u.cs := by
      intro k
      induction k with
      | zero => exact fun _ => ⟨[], rfl, fun i u hu => by simp at hu⟩
      | succ k ih =>
        intro hk
        obtain ⟨l, hl, hl2⟩ := ih (by omega)
        obtain ⟨u, hu2⟩ := each k (by omega)
        refine ⟨l ++ [u], by simp [hl], fun i u' hu' => ?_⟩
        rcases Nat.lt_or_ge i l.length with h1 | h1
        · rw [List.getElem?_append_left h1] at hu'
          exact hl2 i u' hu'
        · rw [List.getElem?_append_right h1] at hu'
          have h3 := (List.getElem?_eq_some_iff.1 hu').1
          have h4 : i = k := by simp at h3; omega
          subst h4
          rw [hl, Nat.sub_self] at hu'
          obtain rfl : u = u' := by simpa using hu'
          exact hu2
    obtain ⟨l, hll, hlc⟩ := mk n (Nat.le_refl _)
    refine ⟨l, hll.symm, fun j u hu => ?_⟩
    have h1 := (World.cells?_some (hlc j u hu).2).2.2
    obtain ⟨b, off, sp⟩ := a
    have hl0 : 0 < l.length := Nat.lt_of_le_of_lt (Nat.zero_le _) (List.getElem?_eq_some_iff.1 hu).1
    have h00 := (World.cells?_some (hlc 0 l[0] (List.getElem?_eq_getElem hl0)).2).2.2 0 (by omega)
    have e0 : (Addr.add (Addr.add ⟨b, off, sp⟩ (0 * 8)) 0) = ⟨b, off, sp⟩ := by simp [Addr.add]
    rw [e0] at h00
    have hsp := cell_spot' (h00.trans rfl)
    obtain ⟨rfl, hb⟩ := hsp
    refine ⟨(hlc j u hu).1, b, off, rfl, hb, fun t v hv => ?_⟩
    have ht : t < 8 := by
      have := (List.getElem?_eq_some_iff.1 hv).1
      simpa [AC.cs, vcs_length] using this
    have h2 := h1 t ht
    rw [add_plain, add_plain] at h2
    rw [h2]
    exact hv
end Go.Proofs.YtkpfikeggleenaaGreatDoor
