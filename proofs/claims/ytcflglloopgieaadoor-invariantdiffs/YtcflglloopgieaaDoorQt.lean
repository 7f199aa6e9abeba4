import Derived.Test.YtcflglloopgieaaDoorQs

/-! Jb -/
namespace Go.Proofs.YtcflglloopgieaaDoor
open Go Go.Proofs Go.Maps Go.RowKit FM
set_option linter.unusedSimpArgs false
set_option linter.unusedVariables false
set_option maxHeartbeats 1000000
theorem ex_gtI {o : Oper} {a : Act} {w : World} {x y : Operand} {n m : Int} {r : Bool} (ho : o.op = .binOp .gtr 3 x y 3) (hx : a.eval x = .int .i64 n) (hc : a.eval y = .int .i64 m) (h : decide (m < n) = r) : (execOp a.eval o).run Tryd.prog w = .ok (.value (.bool r)) w := by
  unfold execOp
  simp only [ho, hx, hc]
  simp [go_sem, eqGuard, h]
theorem ex_geI {o : Oper} {a : Act} {w : World} {x y : Operand} {n m : Int} {r : Bool} (ho : o.op = .binOp .geq 3 x y 3) (hx : a.eval x = .int .i64 n) (hc : a.eval y = .int .i64 m) (h : decide (m ≤ n) = r) : (execOp a.eval o).run Tryd.prog w = .ok (.value (.bool r)) w := by
  unfold execOp
  simp only [ho, hx, hc]
  simp [go_sem, eqGuard, h]
theorem sliceH (A : Option Addr) (n cap p : Nat) (hp : p ≤ cap) (h0 : A = none → cap = 0) (w : World) : (Instr.sliceAt 48 (.slice A n cap) none (some (.int .i64 (p : Nat))) none).run Tryd.prog w = .ok (.slice A p cap) w := by
  rw [run_sliceAt_slice (h := by kernel_rfl), run_slice_h (ht := by kernel_rfl) (h0 := by omega) (h2 := by omega)]
  have e : (sizeOf (Tryd.prog.elem 48)).run Tryd.prog w = .ok 20 w := by kernel_rfl
  rw [e]
  cases A <;> simp [sliced, Addr.add, Result.andThen]
theorem ex_sliceH {o : Oper} {a : Act} {w : World} {x ix : Operand} {v u : Value} {p : Nat} (ho : o.op = .slice 48 x none (some ix) none) (hx : a.eval x = v) (hix : a.eval ix = .int .i64 (p : Nat)) (h : (Instr.sliceAt 48 v none (some (.int .i64 (p : Nat))) none).run Tryd.prog w = .ok u w) : (execOp a.eval o).run Tryd.prog w = .ok (.value u) w := by
  unfold execOp
  simp only [ho, hx, hix, Option.map_some, Option.map_none]
  simp [h]
theorem ReadsP.take {X : World} {A : Option Addr} {l : List PR} (h : ReadsP X A l) (n : Nat) : ReadsP X A (l.take n) := fun j p hp => by
  rw [List.getElem?_take] at hp
  split at hp
  · exact h j p hp
  · cases hp
/-- A row of our own, told. -/
def RW (w X : World) (ov : Value) (xs : List DL) : Prop := X.ownsRow w.heap.size 43 29 ov xs.length (flatL xs) ∧ Fr w X []
theorem RW.nil (w X : World) (h : Fr w X []) : RW w X (.slice none 0 0) [] := ⟨⟨rfl, .inl ⟨rfl, rfl⟩⟩, h⟩
theorem RW.on {w X Y : World} {ov : Value} {xs : List DL} (h : RW w X ov xs) (k : Below X.heap.size X Y) : RW w Y ov xs := ⟨own_blk h.1 (fun g hg => k.block g (World.ownsRow.lt h.1 g hg).2), h.2.on k⟩
theorem RW.drew {w X : World} {ov : Value} {xs : List DL} (h : RW w X ov xs) : RW w X.drew ov xs := h.on ⟨rfl, rfl, rfl, Nat.le_refl _, fun _ _ => rfl⟩
theorem RW.grow {w X Y : World} {ov ov' : Value} {xs ds : List DL} (h : RW w X ov xs) (hg : X.grownBy Y ov.ownBlock) (hO : Y.ownsRow w.heap.size 43 29 ov' (xs.length + ds.length) (flatL xs ++ flatL ds)) : RW w Y ov' (xs ++ ds) := ⟨by rw [List.length_append, show flatL (xs ++ ds) = flatL xs ++ flatL ds by simp [flatL]]; exact hO, h.2.trans (Fr.grown hg) (fun b hb => .inr (World.ownsRow.lt h.1 b (by simpa using hb)).1)⟩
theorem RW.grow1 {w X Y : World} {ov ov' : Value} {xs : List DL} {d : DL} (h : RW w X ov xs) (hg : X.grownBy Y ov.ownBlock) (hO : Y.ownsRow w.heap.size 43 29 ov' (xs.length + 1) (flatL xs ++ d.cs)) : RW w Y ov' (xs ++ [d]) := h.grow hg (by rw [show flatL [d] = d.cs by simp [flatL]]; exact hO)
theorem goR_len (o : Int) (b a : List PR) (n : Nat) : ∀ i, (goR o b a n i).length ≤ i
  | 0 => by simp [goR]
  | i + 1 => by
    have := goR_len o b a n i
    unfold goR
    split
    · omega
    · split
      · omega
      · simp; omega
theorem puR_len (o : Int) (b a : List PR) (n : Nat) : ∀ i, (puR o b a n i).length ≤ i
  | 0 => by simp [puR]
  | i + 1 => by
    have := puR_len o b a n i
    unfold puR
    split
    · omega
    · split
      · simp; omega
      · omega
theorem goR_yes {o : Int} {b a : List PR} {n i : Nat} {p : PR} (hp : b[i]? = some p) (h : (fO (a.take n) p.k).isSome = true) : goR o b a n (i + 1) = goR o b a n i := by simp [goR, hp, h]
theorem goR_no {o : Int} {b a : List PR} {n i : Nat} {p : PR} (hp : b[i]? = some p) (h : (fO (a.take n) p.k).isSome = false) : goR o b a n (i + 1) = goR o b a n i ++ [goneL o p.k] := by simp [goR, hp, h]
theorem puR_put {o : Int} {b a : List PR} {n i : Nat} {q : PR} (hq : a[i]? = some q) (h : (decide (n ≤ i) || !eqAt b q) = true) : puR o b a n (i + 1) = puR o b a n i ++ [putL o q] := by simp only [puR, hq, h, if_true]
theorem puR_not {o : Int} {b a : List PR} {n i : Nat} {q : PR} (hq : a[i]? = some q) (h : (decide (n ≤ i) || !eqAt b q) = false) : puR o b a n (i + 1) = puR o b a n i := by simp [puR, hq, h]
theorem isSome_lt (o : Option Nat) : decide (oI o < 0) = !o.isSome := by
  cases o with
  | none => rfl
  | some j =>
    show decide ((j : Int) < 0) = false
    exact decide_eq_false (by omega)
def RPost (w : World) (o : Int) (b a : List PR) (e : Ending) (X : World) : Prop := ∃ (ov : Value) (n : Nat) (at_ : Int), e = .returned ov ∧ KN b a n at_ ∧ KStop b a n at_ ∧ RW w X ov (propsR o b a n)
theorem bGoneO (n0 : Int) (k : KK) (w : World) : (Instr.build 43 #[(0, .int .i64 n0), (1, .int .i64 5), (5, .agg k.cs.toArray)]).run Tryd.prog w = .ok (.agg (DL.cs (goneL n0 k)).toArray) w := by kernel_rfl
theorem ex_bGoneO {o : Oper} {a : Act} {w : World} {x0 x1 x5 : Operand} (n0 : Int) (k : KK) (ho : o.op = .build 43 #[(0, x0), (1, x1), (5, x5)]) (h0 : a.eval x0 = .int .i64 n0) (h1 : a.eval x1 = .int .i64 5) (h5 : a.eval x5 = .agg k.cs.toArray) : (execOp a.eval o).run Tryd.prog w = .ok (.value (.agg (DL.cs (goneL n0 k)).toArray)) w := by
  have e := bGoneO n0 k w
  unfold execOp
  simp only [ho, List.map_toArray, List.map_cons, List.map_nil, h0, h1, h5]
  simp [e]
theorem bPutO (n0 : Int) (p : PR) (w : World) : (Instr.build 43 #[(0, .int .i64 n0), (1, .int .i64 6), (5, .agg p.k.cs.toArray), (6, .agg p.d.cs.toArray)]).run Tryd.prog w = .ok (.agg (DL.cs (putL n0 p)).toArray) w := by kernel_rfl
theorem ex_bPutO {o : Oper} {a : Act} {w : World} {x0 x1 x5 x6 : Operand} (n0 : Int) (p : PR) (ho : o.op = .build 43 #[(0, x0), (1, x1), (5, x5), (6, x6)]) (h0 : a.eval x0 = .int .i64 n0) (h1 : a.eval x1 = .int .i64 6) (h5 : a.eval x5 = .agg p.k.cs.toArray) (h6 : a.eval x6 = .agg p.d.cs.toArray) : (execOp a.eval o).run Tryd.prog w = .ok (.value (.agg (DL.cs (putL n0 p)).toArray)) w := by
  have e := bPutO n0 p w
  unfold execOp
  simp only [ho, List.map_toArray, List.map_cons, List.map_nil, h0, h1, h5, h6]
  simp [e]
set_option maxHeartbeats 8000000 in
set_option maxRecDepth 100000 in
theorem refProps_any (o : Int) (b a : List PR) (BA AA : Option Addr) (bc ac : Nat) (w : World) (hB : ReadsP w BA b) (hA : ReadsP w AA a) (hac : a.length ≤ ac) (ha0 : AA = none → ac = 0) (hzb : b.length ≤ 400) (hza : a.length ≤ 400) : Calls Tryd.prog 26 #[.int .i64 o, .slice BA b.length bc, .slice AA a.length ac] w (RPost w o b a) := by
  have HB := hide hB
  have HA := hide hA
  have HAC := hide hac
  have HZB := hide hzb
  have HZA := hide hza
  have HA0 := hide ha0
  have HF := hide (Fr.refl w [])
  clear hB hA hac hzb hza ha0
  go_enter Tryd.func26, Tryd.ntmps26
  go_wp2_with (first | go_skip | ((with_reducible show wpList _ _ _ _ _ _); first | ((refine rd (by rfl) (ex_lenG 48 55 Tryd.underlying48 rfl rfl) ?_); simp only [Act.put, nzA, nzB, nzC])))
  go_loopg [7, 8] a.length (fun gm s7 s8 wr => ∃ (n : Nat) (at_ : Int), s7 = .int .i64 (n : Nat) ∧ s8 = .int .i64 at_ ∧ a.length - n ≤ gm ∧ Hid (KN b a n at_) ∧ Hid (Fr w wr []))
  case atStart => exact ⟨0, -1, rfl, rfl, by omega, hide (KN.start b a), HF⟩
  case round =>
    clear HF
    obtain ⟨n, at_, rfl, rfl, hgm, HK, HF⟩ := hrel
    by_cases hlt : n < a.length
    · obtain ⟨q, hq⟩ : ∃ q, a[n]? = some q := ⟨_, List.getElem?_eq_getElem hlt⟩
      obtain ⟨_, ba, offa, hAA, hba, hrga⟩ := (unhide HA) n q hq
      have dlt : decide ((n : Int) < (a.length : Int)) = true := decide_eq_true (by omega)
      have hw1 : IntKind.i64.wrap ((n : Int) + 1) = (n : Int) + 1 := by have := unhide HZA; rw [IntKind.wrap_i64]; omega
      have HQ1 := hide hAA
      have HQ2 : Hid (∀ X, Fr w X [] → X.rangeAt ba (offa + n * 20) q.k.cs) := hide (fun X hX => range_left (a := q.k.cs) (c := q.d.cs) (rangeAt_fr hrga hba hX))
      have HLT := hide hlt
      have hFI := fun (Z : World) (hZ : Fr w Z []) => find_any BA bc b q.k Z ((unhide HB).fr hZ) (by have := unhide HZB; omega)
      simp only [kagg] at hFI
      have HFI := hide hFI
      clear hFI hAA hba hrga
      by_cases hgg : at_ < fI b q.k
      · have hgt : decide (at_ < fI b q.k) = true := decide_eq_true hgg
        have HK2 := hide ((unhide HK).step hq hgg)
        clear hgg hq hlt
        go_wp2_with (first | go_skip | ((with_reducible show wpList _ _ _ _ _ _); first | ((refine rd (by rfl) (ex_lenG 48 55 Tryd.underlying48 rfl rfl) ?_); simp only [Act.put, nzA, nzB, nzC]) | ((refine rd (by rfl) (ex_indexA 48 20 n unPs idPs rfl rfl (unhide HQ1) rfl (unhide HLT)) ?_); simp only [Act.put, nzA, nzB, nzC]) | ((refine rd (by rfl) (ex_loadR (vs := q.k.cs) 38 2 rwK szK rfl rfl (unhide HQ2 _ (unhide HF)) rfl) ?_); simp only [Act.put, nzA, nzB, nzC]) | ((refine rd (by rfl) (ex_gtI rfl rfl rfl hgt) ?_); simp only [Act.put, nzA, nzB, nzC])))
        refine (unhide HFI _ (unhide HF)).mono ?_
        rintro e Y1 ⟨rfl, hY1⟩
        replace HF := hide ((unhide HF).on hY1)
        clear hY1
        go_wp2_with (first | go_skip | ((with_reducible show wpList _ _ _ _ _ _); first | ((refine rd (by rfl) (ex_lenG 48 55 Tryd.underlying48 rfl rfl) ?_); simp only [Act.put, nzA, nzB, nzC]) | ((refine rd (by rfl) (ex_indexA 48 20 n unPs idPs rfl rfl (unhide HQ1) rfl (unhide HLT)) ?_); simp only [Act.put, nzA, nzB, nzC]) | ((refine rd (by rfl) (ex_loadR (vs := q.k.cs) 38 2 rwK szK rfl rfl (unhide HQ2 _ (unhide HF)) rfl) ?_); simp only [Act.put, nzA, nzB, nzC]) | ((refine rd (by rfl) (ex_gtI rfl rfl rfl hgt) ?_); simp only [Act.put, nzA, nzB, nzC])))
        refine (unhide HFI _ (unhide HF)).mono ?_
        rintro e Y1 ⟨rfl, hY1⟩
        replace HF := hide ((unhide HF).on hY1)
        clear hY1
        go_wp2_with (first | go_skip | ((with_reducible show wpList _ _ _ _ _ _); first | ((refine rd (by rfl) (ex_lenG 48 55 Tryd.underlying48 rfl rfl) ?_); simp only [Act.put, nzA, nzB, nzC]) | ((refine rd (by rfl) (ex_indexA 48 20 n unPs idPs rfl rfl (unhide HQ1) rfl (unhide HLT)) ?_); simp only [Act.put, nzA, nzB, nzC]) | ((refine rd (by rfl) (ex_loadR (vs := q.k.cs) 38 2 rwK szK rfl rfl (unhide HQ2 _ (unhide HF)) rfl) ?_); simp only [Act.put, nzA, nzB, nzC]) | ((refine rd (by rfl) (ex_gtI rfl rfl rfl hgt) ?_); simp only [Act.put, nzA, nzB, nzC])))
        go_roundg (a.length - (n + 1))
        case measure => have := unhide HLT; omega
        case rel => exact ⟨n + 1, _, by go_num, rfl, by omega, HK2, HF⟩
      · have hgt : decide (at_ < fI b q.k) = false := decide_eq_false hgg
        have HST : Hid (KStop b a n at_) := hide (fun q2 hq2 => by rw [hq] at hq2; cases hq2; exact hgg)
        clear hgg hq hlt
        go_wp2_with (first | go_skip | ((with_reducible show wpList _ _ _ _ _ _); first | ((refine rd (by rfl) (ex_lenG 48 55 Tryd.underlying48 rfl rfl) ?_); simp only [Act.put, nzA, nzB, nzC]) | ((refine rd (by rfl) (ex_indexA 48 20 n unPs idPs rfl rfl (unhide HQ1) rfl (unhide HLT)) ?_); simp only [Act.put, nzA, nzB, nzC]) | ((refine rd (by rfl) (ex_loadR (vs := q.k.cs) 38 2 rwK szK rfl rfl (unhide HQ2 _ (unhide HF)) rfl) ?_); simp only [Act.put, nzA, nzB, nzC]) | ((refine rd (by rfl) (ex_gtI rfl rfl rfl hgt) ?_); simp only [Act.put, nzA, nzB, nzC])))
        refine (unhide HFI _ (unhide HF)).mono ?_
        rintro e Y1 ⟨rfl, hY1⟩
        replace HF := hide ((unhide HF).on hY1)
        clear hY1
        go_wp2_with (first | go_skip | ((with_reducible show wpList _ _ _ _ _ _); first | ((refine rd (by rfl) (ex_lenG 48 55 Tryd.underlying48 rfl rfl) ?_); simp only [Act.put, nzA, nzB, nzC]) | ((refine rd (by rfl) (ex_indexA 48 20 n unPs idPs rfl rfl (unhide HQ1) rfl (unhide HLT)) ?_); simp only [Act.put, nzA, nzB, nzC]) | ((refine rd (by rfl) (ex_loadR (vs := q.k.cs) 38 2 rwK szK rfl rfl (unhide HQ2 _ (unhide HF)) rfl) ?_); simp only [Act.put, nzA, nzB, nzC]) | ((refine rd (by rfl) (ex_gtI rfl rfl rfl hgt) ?_); simp only [Act.put, nzA, nzB, nzC])))
        have RR := hide (RW.nil w _ (unhide HF))
        clear HF
        go_wp2_with (first | go_skip | ((with_reducible show wpList _ _ _ _ _ _); first | ((refine rd (by rfl) (ex_lenG 48 55 Tryd.underlying48 rfl rfl) ?_); simp only [Act.put, nzA, nzB, nzC])))
        obtain ⟨w2, hw2⟩ : ∃ w2, w2 = wr := ⟨_, rfl⟩
        subst hw2
        go_loopg [9, 10] b.length (fun gm s9 s10 wr => ∃ (i : Nat) (ov : Value), s10 = .int .i64 (i : Nat) ∧ s9 = ov ∧ i ≤ b.length ∧ b.length - i ≤ gm ∧ Hid (RW w wr ov (goR o b a n i)))
        case atStart => exact ⟨0, _, rfl, rfl, by omega, by omega, RR⟩
        case round =>
          clear RR
          obtain ⟨i, ov, rfl, hov, hil, hgm2, RR⟩ := hrel
          obtain rfl := hov.symm
          by_cases hlt2 : i < b.length
          · have dlt2 : decide ((i : Int) < (b.length : Int)) = true := decide_eq_true (by omega)
            have hw1 : IntKind.i64.wrap ((i : Int) + 1) = (i : Int) + 1 := by have := unhide HZB; rw [IntKind.wrap_i64]; omega
            obtain ⟨p, hp⟩ : ∃ p, b[i]? = some p := ⟨_, List.getElem?_eq_getElem hlt2⟩
            obtain ⟨_, bb, off, hBA, hb, hrg⟩ := (unhide HB) i p hp
            have hnl : n ≤ a.length := (unhide HK).le
            have hnc : n ≤ ac := Nat.le_trans hnl (unhide HAC)
            have hFT : ∀ Z, Fr w Z [] → Calls Tryd.prog 19 #[.slice AA n ac, .agg p.k.cs.toArray] Z fun e X' => e = .returned (.int .i64 (fI (a.take n) p.k)) ∧ Below Z.heap.size Z X' := fun Z hZ => by have := find_any AA ac (a.take n) p.k Z (((unhide HA).take n).fr hZ) (by have := unhide HZA; rw [List.length_take]; omega); rw [List.length_take, Nat.min_eq_left hnl, kagg] at this; exact this
            have hlz := isSome_lt (fO (a.take n) p.k)
            rw [← fI_fO] at hlz
            have hgl := goR_len o b a n i
            have HXS : Hid ((goR o b a n i).length ≤ 10000) := hide (by have := unhide HZB; omega)
            have HLT2 := hide hlt2
            have HA1 := hide hBA
            have HA2 : Hid (∀ X, Fr w X [] → X.rangeAt bb (off + i * 20) p.k.cs) := hide (fun X hX => range_left (a := p.k.cs) (c := p.d.cs) (rangeAt_fr hrg hb hX))
            cases his : (fO (a.take n) p.k).isSome
            · have HNX := hide (goR_no (o := o) hp his)
              rw [his] at hlz
              simp only [Bool.not_false] at hlz
              generalize goR o b a n i = xs at *
              have HH := hide (And.intro hBA (And.intro hb (And.intro hrg (And.intro hnc (And.intro hFT (And.intro hlz hlt2))))))
              clear hBA hb hrg hnc hFT hlz hlt2 hp his hil hgl hnl
              go_wp2_with (first | go_skip | ((with_reducible show wpList _ _ _ _ _ _); first | ((refine rd (by rfl) (ex_lenG 48 55 Tryd.underlying48 rfl rfl) ?_); simp only [Act.put, nzA, nzB, nzC])))
              obtain ⟨hBA, hb, hrg, hnc, hFT, hlz, hlt2⟩ := unhide HH
              have hf0 : Fr w _ [] := (unhide RR).drew.2
              refine wp_region_held_drew (P := Tryd.prog) (S := fun Z => Fr w Z []) (by kernel_rfl) hf0 (fun hS0 => ?_)
              refine gsem 0 (some 42) (.slice AA a.length ac) rfl (by kernel_rfl) (by kernel_rfl) (by kernel_rfl) (fun _ _ _ h => h) (by kernel_rfl) (by kernel_rfl) (fun _ _ => by kernel_rfl) hf0 ?_
              simp only [Act.put, nzA, nzB, nzC]
              refine gsem 1 (some 43) (.int .i64 (n : Nat)) rfl (by kernel_rfl) (by kernel_rfl) (by kernel_rfl) (fun _ _ _ h => h) (by kernel_rfl) (by kernel_rfl) (fun _ _ => by kernel_rfl) hf0 ?_
              simp only [Act.put, nzA, nzB, nzC]
              refine gsem 2 (some 44) (.slice AA n ac) rfl (by kernel_rfl) (by kernel_rfl) (by kernel_rfl) (fun _ _ _ h => h) (by kernel_rfl) (by kernel_rfl) (fun X hX => ex_sliceH rfl rfl rfl (sliceH AA a.length ac n hnc (unhide HA0) _)) hf0 ?_
              simp only [Act.put, nzA, nzB, nzC]
              refine gsem 3 (some 45) (.slice BA b.length bc) rfl (by kernel_rfl) (by kernel_rfl) (by kernel_rfl) (fun _ _ _ h => h) (by kernel_rfl) (by kernel_rfl) (fun _ _ => by kernel_rfl) hf0 ?_
              simp only [Act.put, nzA, nzB, nzC]
              refine gsem 4 (some 46) (.int .i64 (i : Nat)) rfl (by kernel_rfl) (by kernel_rfl) (by kernel_rfl) (fun _ _ _ h => h) (by kernel_rfl) (by kernel_rfl) (fun _ _ => by kernel_rfl) hf0 ?_
              simp only [Act.put, nzA, nzB, nzC]
              refine gsem 5 (some 47) (.pointer (some ⟨bb, off + i * 20, none⟩)) rfl (by kernel_rfl) (by kernel_rfl) (by kernel_rfl) (fun _ _ _ h => h) (by kernel_rfl) (by kernel_rfl) (fun X hX => ex_indexA 48 20 i unPs idPs rfl rfl hBA rfl hlt2) hf0 ?_
              simp only [Act.put, nzA, nzB, nzC]
              refine gsem 6 (some 48) (.pointer (some ⟨bb, off + i * 20, none⟩)) rfl (by kernel_rfl) (by kernel_rfl) (by kernel_rfl) (fun _ _ _ h => h) (by kernel_rfl) (by kernel_rfl) (fun _ _ => by kernel_rfl) hf0 ?_
              simp only [Act.put, nzA, nzB, nzC]
              refine gsem 7 (some 49) (.agg p.k.cs.toArray) rfl (by kernel_rfl) (by kernel_rfl) (by kernel_rfl) (fun _ _ _ h => h) (by kernel_rfl) (by kernel_rfl) (fun X hX => ex_loadR (vs := p.k.cs) 38 2 rwK szK rfl rfl (range_left (a := p.k.cs) (c := p.d.cs) (rangeAt_fr hrg hb hX)) rfl) hf0 ?_
              simp only [Act.put, nzA, nzB, nzC]
              refine wpAnyH_ready (rs := [8]) (by kernel_rfl) (by simp) (gcallR 8 (some 50) rfl (by kernel_rfl) (by kernel_rfl) (by kernel_rfl) (hFT _ hf0) ?_ AllReadyH.nil)
              rintro e Y8 ⟨rfl, hY8⟩
              have hf8 := hf0.on hY8
              refine ⟨_, rfl, hf8, ?_⟩
              simp only [Act.put, nzA, nzB, nzC]
              refine gsem 9 (some 51) (.bool true) rfl (by kernel_rfl) (by kernel_rfl) (by kernel_rfl) (fun _ _ _ h => h) (by kernel_rfl) (by kernel_rfl) (fun X hX => ex_ltI rfl rfl rfl hlz) hf8 ?_
              simp only [Act.put, nzA, nzB, nzC]
              refine wpAnyH_done (by kernel_rfl) ?_ _
              try simp only [Act.put, nzA, nzB, nzC]
              replace RR := hide ((unhide RR).drew.on hY8)
              clear hBA hb hrg hnc hFT hlz hlt2 hf0 hf8 hY8 hS0 HH
              go_wp2_with (first | go_skip | ((with_reducible show wpList _ _ _ _ _ _); first | ((refine rd (by rfl) (ex_lenG 48 55 Tryd.underlying48 rfl rfl) ?_); simp only [Act.put, nzA, nzB, nzC]) | ((refine rd (by rfl) (ex_indexA 48 20 i unPs idPs rfl rfl (unhide HA1) rfl (unhide HLT2)) ?_); simp only [Act.put, nzA, nzB, nzC]) | ((refine rd (by rfl) (ex_loadR (vs := p.k.cs) 38 2 rwK szK rfl rfl (unhide HA2 _ (unhide RR).2) rfl) ?_); simp only [Act.put, nzA, nzB, nzC]) | ((refine rd (by rfl) (ex_bGoneO o p.k rfl rfl rfl rfl) ?_); simp only [Act.put, nzA, nzB, nzC]) | ((refine build_any (t := 25) (e := 43) (cs := DL.cs (goneL o p.k)) (by rfl) rfl rfl Tryd.underlying25 infL (by decide) rfl rfl (by decide) (Hq.nil _ []) ?_); intro X3 B3 hE3 L3 hb3; have HB3 := hide L3; replace RR := hide ((unhide RR).on hb3); clear L3 hb3 hE3; simp only [Act.put, nzA, nzB, nzC]) | ((refine append_any (base := w.heap.size) (size := 29) (bytes := 272) (n := xs.length) (m := 1) (news := DL.cs (goneL o p.k)) (xs := flatL xs) (v := ov) rfl rfl rfl rfl Tryd.underlying25 infL rfl (by decide) (unhide RR).1 ((unhide HB3).get 0 rfl) rfl (dlcs_one _) (by have := unhide HXS; omega) (by decide) (unhide RR).2.size ?_); intro A7 c7 X7 hO7 hg7 hF7; replace RR := hide ((unhide RR).grow1 hg7 hO7); clear hO7 hg7 hF7 HB3; simp only [Act.put, nzA, nzB, nzC])))
              have LN : Hid (RW w X7 (.slice A7 (xs.length + 1) c7) (goR o b a n (i + 1))) := hide (by rw [unhide HNX]; exact unhide RR)
              clear RR
              go_roundg (b.length - (i + 1))
              case measure => have := unhide HLT2; omega
              case rel => exact ⟨i + 1, _, by go_num, rfl, by have := unhide HLT2; omega, by omega, LN⟩
            · have HNX := hide (goR_yes (o := o) hp his)
              rw [his] at hlz
              simp only [Bool.not_true] at hlz
              generalize goR o b a n i = xs at *
              have HH := hide (And.intro hBA (And.intro hb (And.intro hrg (And.intro hnc (And.intro hFT (And.intro hlz hlt2))))))
              clear hBA hb hrg hnc hFT hlz hlt2 hp his hil hgl hnl
              go_wp2_with (first | go_skip | ((with_reducible show wpList _ _ _ _ _ _); first | ((refine rd (by rfl) (ex_lenG 48 55 Tryd.underlying48 rfl rfl) ?_); simp only [Act.put, nzA, nzB, nzC])))
              obtain ⟨hBA, hb, hrg, hnc, hFT, hlz, hlt2⟩ := unhide HH
              have hf0 : Fr w _ [] := (unhide RR).drew.2
              refine wp_region_held_drew (P := Tryd.prog) (S := fun Z => Fr w Z []) (by kernel_rfl) hf0 (fun hS0 => ?_)
              refine gsem 0 (some 42) (.slice AA a.length ac) rfl (by kernel_rfl) (by kernel_rfl) (by kernel_rfl) (fun _ _ _ h => h) (by kernel_rfl) (by kernel_rfl) (fun _ _ => by kernel_rfl) hf0 ?_
              simp only [Act.put, nzA, nzB, nzC]
              refine gsem 1 (some 43) (.int .i64 (n : Nat)) rfl (by kernel_rfl) (by kernel_rfl) (by kernel_rfl) (fun _ _ _ h => h) (by kernel_rfl) (by kernel_rfl) (fun _ _ => by kernel_rfl) hf0 ?_
              simp only [Act.put, nzA, nzB, nzC]
              refine gsem 2 (some 44) (.slice AA n ac) rfl (by kernel_rfl) (by kernel_rfl) (by kernel_rfl) (fun _ _ _ h => h) (by kernel_rfl) (by kernel_rfl) (fun X hX => ex_sliceH rfl rfl rfl (sliceH AA a.length ac n hnc (unhide HA0) _)) hf0 ?_
              simp only [Act.put, nzA, nzB, nzC]
              refine gsem 3 (some 45) (.slice BA b.length bc) rfl (by kernel_rfl) (by kernel_rfl) (by kernel_rfl) (fun _ _ _ h => h) (by kernel_rfl) (by kernel_rfl) (fun _ _ => by kernel_rfl) hf0 ?_
              simp only [Act.put, nzA, nzB, nzC]
              refine gsem 4 (some 46) (.int .i64 (i : Nat)) rfl (by kernel_rfl) (by kernel_rfl) (by kernel_rfl) (fun _ _ _ h => h) (by kernel_rfl) (by kernel_rfl) (fun _ _ => by kernel_rfl) hf0 ?_
              simp only [Act.put, nzA, nzB, nzC]
              refine gsem 5 (some 47) (.pointer (some ⟨bb, off + i * 20, none⟩)) rfl (by kernel_rfl) (by kernel_rfl) (by kernel_rfl) (fun _ _ _ h => h) (by kernel_rfl) (by kernel_rfl) (fun X hX => ex_indexA 48 20 i unPs idPs rfl rfl hBA rfl hlt2) hf0 ?_
              simp only [Act.put, nzA, nzB, nzC]
              refine gsem 6 (some 48) (.pointer (some ⟨bb, off + i * 20, none⟩)) rfl (by kernel_rfl) (by kernel_rfl) (by kernel_rfl) (fun _ _ _ h => h) (by kernel_rfl) (by kernel_rfl) (fun _ _ => by kernel_rfl) hf0 ?_
              simp only [Act.put, nzA, nzB, nzC]
              refine gsem 7 (some 49) (.agg p.k.cs.toArray) rfl (by kernel_rfl) (by kernel_rfl) (by kernel_rfl) (fun _ _ _ h => h) (by kernel_rfl) (by kernel_rfl) (fun X hX => ex_loadR (vs := p.k.cs) 38 2 rwK szK rfl rfl (range_left (a := p.k.cs) (c := p.d.cs) (rangeAt_fr hrg hb hX)) rfl) hf0 ?_
              simp only [Act.put, nzA, nzB, nzC]
              refine wpAnyH_ready (rs := [8]) (by kernel_rfl) (by simp) (gcallR 8 (some 50) rfl (by kernel_rfl) (by kernel_rfl) (by kernel_rfl) (hFT _ hf0) ?_ AllReadyH.nil)
              rintro e Y8 ⟨rfl, hY8⟩
              have hf8 := hf0.on hY8
              refine ⟨_, rfl, hf8, ?_⟩
              simp only [Act.put, nzA, nzB, nzC]
              refine gsem 9 (some 51) (.bool false) rfl (by kernel_rfl) (by kernel_rfl) (by kernel_rfl) (fun _ _ _ h => h) (by kernel_rfl) (by kernel_rfl) (fun X hX => ex_ltI rfl rfl rfl hlz) hf8 ?_
              simp only [Act.put, nzA, nzB, nzC]
              refine wpAnyH_done (by kernel_rfl) ?_ _
              try simp only [Act.put, nzA, nzB, nzC]
              replace RR := hide ((unhide RR).drew.on hY8)
              clear hBA hb hrg hnc hFT hlz hlt2 hf0 hf8 hY8 hS0 HH
              go_wp2
              have LN : Hid (RW w _ ov (goR o b a n (i + 1))) := hide (by rw [unhide HNX]; exact unhide RR)
              clear RR
              go_roundg (b.length - (i + 1))
              case measure => have := unhide HLT2; omega
              case rel => exact ⟨i + 1, ov, by go_num, rfl, by have := unhide HLT2; omega, by omega, LN⟩
          · obtain rfl : i = b.length := by omega
            have hgl := goR_len o b a n b.length
            have HGL : Hid ((goR o b a n b.length).length ≤ 10000) := hide (by have := unhide HZB; omega)
            have HPR : Hid (propsR o b a n = goR o b a n b.length ++ puR o b a n a.length) := hide rfl
            generalize goR o b a n b.length = gl at *
            clear hlt2 hil hgl
            go_wp2_with (first | go_skip | ((with_reducible show wpList _ _ _ _ _ _); first | ((refine rd (by rfl) (ex_lenG 48 55 Tryd.underlying48 rfl rfl) ?_); simp only [Act.put, nzA, nzB, nzC])))
            obtain ⟨w3, hw3⟩ : ∃ w3, w3 = wr := ⟨_, rfl⟩
            subst hw3
            go_loopg [9, 11] a.length (fun gm s9 s11 wr => ∃ (i : Nat) (ov : Value), s11 = .int .i64 (i : Nat) ∧ s9 = ov ∧ i ≤ a.length ∧ a.length - i ≤ gm ∧ Hid (RW w wr ov (gl ++ puR o b a n i)))
            case atStart => exact ⟨0, ov, rfl, rfl, by omega, by omega, hide (by simpa [puR] using unhide RR)⟩
            case round =>
              clear RR
              obtain ⟨i, ov, rfl, hov, hil, hgm3, RR⟩ := hrel
              obtain rfl := hov.symm
              by_cases hlt3 : i < a.length
              · have dlt3 : decide ((i : Int) < (a.length : Int)) = true := decide_eq_true (by omega)
                have hw1 : IntKind.i64.wrap ((i : Int) + 1) = (i : Int) + 1 := by have := unhide HZA; rw [IntKind.wrap_i64]; omega
                obtain ⟨q, hq⟩ : ∃ q, a[i]? = some q := ⟨_, List.getElem?_eq_getElem hlt3⟩
                obtain ⟨hokq, ba, offa, hAA, hba, hrga⟩ := (unhide HA) i q hq
                have hpl := puR_len o b a n i
                have HXS : Hid ((gl ++ puR o b a n i).length ≤ 20000) := hide (by have := unhide HZA; have := unhide HGL; rw [List.length_append]; omega)
                have HLT3 := hide hlt3
                by_cases hni : n ≤ i
                · have hge : decide ((n : Int) ≤ (i : Int)) = true := decide_eq_true (by omega)
                  have hnx := puR_put (o := o) (b := b) (n := n) hq (by simp [hni])
                  have HNX : Hid (gl ++ puR o b a n (i + 1) = (gl ++ puR o b a n i) ++ [putL o q]) := hide (by rw [hnx, List.append_assoc])
                  generalize hxs : gl ++ puR o b a n i = xs at *
                  have HH := hide (And.intro hAA (And.intro hba (And.intro hrga (And.intro hlt3 hge))))
                  clear hAA hba hrga hlt3 hge hnx hq hni hil hpl hokq hxs
                  go_wp2_with (first | go_skip | ((with_reducible show wpList _ _ _ _ _ _); first | ((refine rd (by rfl) (ex_lenG 48 55 Tryd.underlying48 rfl rfl) ?_); simp only [Act.put, nzA, nzB, nzC])))
                  obtain ⟨hAA, hba, hrga, hlt3, hge⟩ := unhide HH
                  have hf0 : Fr w _ [] := (unhide RR).drew.2
                  refine wp_region_held_drew (P := Tryd.prog) (S := fun Z => Fr w Z []) (by kernel_rfl) hf0 (fun hS0 => ?_)
                  refine gsem 0 (some 68) (.int .i64 (i : Nat)) rfl (by kernel_rfl) (by kernel_rfl) (by kernel_rfl) (fun _ _ _ h => h) (by kernel_rfl) (by kernel_rfl) (fun _ _ => by kernel_rfl) hf0 ?_
                  simp only [Act.put, nzA, nzB, nzC]
                  refine gsem 1 (some 69) (.int .i64 (n : Nat)) rfl (by kernel_rfl) (by kernel_rfl) (by kernel_rfl) (fun _ _ _ h => h) (by kernel_rfl) (by kernel_rfl) (fun _ _ => by kernel_rfl) hf0 ?_
                  simp only [Act.put, nzA, nzB, nzC]
                  refine gsem 2 (some 70) (.bool true) rfl (by kernel_rfl) (by kernel_rfl) (by kernel_rfl) (fun _ _ _ h => h) (by kernel_rfl) (by kernel_rfl) (fun X hX => ex_geI rfl rfl rfl hge) hf0 ?_
                  simp only [Act.put, nzA, nzB, nzC]
                  refine gsem 3 (some 71) (.bool true) rfl (by kernel_rfl) (by kernel_rfl) (by kernel_rfl) (fun _ _ _ h => h) (by kernel_rfl) (by kernel_rfl) (fun _ _ => by kernel_rfl) hf0 ?_
                  simp only [Act.put, nzA, nzB, nzC]
                  refine gskipS 4 (some 72) rfl (by kernel_rfl) (by kernel_rfl) (by kernel_rfl) (fun _ _ _ h => h) (by kernel_rfl) (by kernel_rfl) hf0 ?_
                  simp only [Act.put, nzA, nzB, nzC]
                  refine gskipS 5 (some 73) rfl (by kernel_rfl) (by kernel_rfl) (by kernel_rfl) (fun _ _ _ h => h) (by kernel_rfl) (by kernel_rfl) hf0 ?_
                  simp only [Act.put, nzA, nzB, nzC]
                  refine gskipS 6 (some 74) rfl (by kernel_rfl) (by kernel_rfl) (by kernel_rfl) (fun _ _ _ h => h) (by kernel_rfl) (by kernel_rfl) hf0 ?_
                  simp only [Act.put, nzA, nzB, nzC]
                  refine gskipS 7 (some 75) rfl (by kernel_rfl) (by kernel_rfl) (by kernel_rfl) (fun _ _ _ h => h) (by kernel_rfl) (by kernel_rfl) hf0 ?_
                  simp only [Act.put, nzA, nzB, nzC]
                  refine gskipS 8 (some 76) rfl (by kernel_rfl) (by kernel_rfl) (by kernel_rfl) (fun _ _ _ h => h) (by kernel_rfl) (by kernel_rfl) hf0 ?_
                  simp only [Act.put, nzA, nzB, nzC]
                  refine gskipS 9 (some 77) rfl (by kernel_rfl) (by kernel_rfl) (by kernel_rfl) (fun _ _ _ h => h) (by kernel_rfl) (by kernel_rfl) hf0 ?_
                  simp only [Act.put, nzA, nzB, nzC]
                  refine gskipS 10 (some 78) rfl (by kernel_rfl) (by kernel_rfl) (by kernel_rfl) (fun _ _ _ h => h) (by kernel_rfl) (by kernel_rfl) hf0 ?_
                  simp only [Act.put, nzA, nzB, nzC]
                  refine gskipS 11 (some 79) rfl (by kernel_rfl) (by kernel_rfl) (by kernel_rfl) (fun _ _ _ h => h) (by kernel_rfl) (by kernel_rfl) hf0 ?_
                  simp only [Act.put, nzA, nzB, nzC]
                  refine gskipS 12 (some 80) rfl (by kernel_rfl) (by kernel_rfl) (by kernel_rfl) (fun _ _ _ h => h) (by kernel_rfl) (by kernel_rfl) hf0 ?_
                  simp only [Act.put, nzA, nzB, nzC]
                  refine gskipS 13 (some 81) rfl (by kernel_rfl) (by kernel_rfl) (by kernel_rfl) (fun _ _ _ h => h) (by kernel_rfl) (by kernel_rfl) hf0 ?_
                  simp only [Act.put, nzA, nzB, nzC]
                  refine gskipS 14 (some 82) rfl (by kernel_rfl) (by kernel_rfl) (by kernel_rfl) (fun _ _ _ h => h) (by kernel_rfl) (by kernel_rfl) hf0 ?_
                  simp only [Act.put, nzA, nzB, nzC]
                  refine gskipS 15 (some 83) rfl (by kernel_rfl) (by kernel_rfl) (by kernel_rfl) (fun _ _ _ h => h) (by kernel_rfl) (by kernel_rfl) hf0 ?_
                  simp only [Act.put, nzA, nzB, nzC]
                  refine gskipS 16 (some 84) rfl (by kernel_rfl) (by kernel_rfl) (by kernel_rfl) (fun _ _ _ h => h) (by kernel_rfl) (by kernel_rfl) hf0 ?_
                  simp only [Act.put, nzA, nzB, nzC]
                  refine gskipS 17 (some 85) rfl (by kernel_rfl) (by kernel_rfl) (by kernel_rfl) (fun _ _ _ h => h) (by kernel_rfl) (by kernel_rfl) hf0 ?_
                  simp only [Act.put, nzA, nzB, nzC]
                  refine gskipS 18 (some 86) rfl (by kernel_rfl) (by kernel_rfl) (by kernel_rfl) (fun _ _ _ h => h) (by kernel_rfl) (by kernel_rfl) hf0 ?_
                  simp only [Act.put, nzA, nzB, nzC]
                  refine gskipS 19 (some 87) rfl (by kernel_rfl) (by kernel_rfl) (by kernel_rfl) (fun _ _ _ h => h) (by kernel_rfl) (by kernel_rfl) hf0 ?_
                  simp only [Act.put, nzA, nzB, nzC]
                  refine gskipS 20 (some 88) rfl (by kernel_rfl) (by kernel_rfl) (by kernel_rfl) (fun _ _ _ h => h) (by kernel_rfl) (by kernel_rfl) hf0 ?_
                  simp only [Act.put, nzA, nzB, nzC]
                  refine gskipS 21 (some 89) rfl (by kernel_rfl) (by kernel_rfl) (by kernel_rfl) (fun _ _ _ h => h) (by kernel_rfl) (by kernel_rfl) hf0 ?_
                  simp only [Act.put, nzA, nzB, nzC]
                  refine gsem 22 (some 90) (.bool true) rfl (by kernel_rfl) (by kernel_rfl) (by kernel_rfl) (fun _ _ _ h => h) (by kernel_rfl) (by kernel_rfl) (fun _ _ => by kernel_rfl) hf0 ?_
                  simp only [Act.put, nzA, nzB, nzC]
                  refine wpAnyH_done (by kernel_rfl) ?_ _
                  try simp only [Act.put, nzA, nzB, nzC]
                  replace RR := hide (unhide RR).drew
                  clear hf0 hS0 hge HH
                  go_wp2_with fail
                  have hr0 := (unhide RR).drew
                  have hf0 : Fr w _ [] := hr0.2
                  refine wp_region_held_drew (P := Tryd.prog) (S := fun Z => Fr w Z []) (by kernel_rfl) hf0 (fun hS0 => ?_)
                  refine gsem 0 (some 91) (ov) rfl (by kernel_rfl) (by kernel_rfl) (by kernel_rfl) (fun _ _ _ h => h) (by kernel_rfl) (by kernel_rfl) (fun _ _ => by kernel_rfl) hf0 ?_
                  simp only [Act.put, nzA, nzB, nzC]
                  refine gsem 1 (some 92) (.int .i64 o) rfl (by kernel_rfl) (by kernel_rfl) (by kernel_rfl) (fun _ _ _ h => h) (by kernel_rfl) (by kernel_rfl) (fun _ _ => by kernel_rfl) hf0 ?_
                  simp only [Act.put, nzA, nzB, nzC]
                  refine gsem 2 (some 93) (.slice AA a.length ac) rfl (by kernel_rfl) (by kernel_rfl) (by kernel_rfl) (fun _ _ _ h => h) (by kernel_rfl) (by kernel_rfl) (fun _ _ => by kernel_rfl) hf0 ?_
                  simp only [Act.put, nzA, nzB, nzC]
                  refine gsem 3 (some 94) (.int .i64 (i : Nat)) rfl (by kernel_rfl) (by kernel_rfl) (by kernel_rfl) (fun _ _ _ h => h) (by kernel_rfl) (by kernel_rfl) (fun _ _ => by kernel_rfl) hf0 ?_
                  simp only [Act.put, nzA, nzB, nzC]
                  refine gsem 4 (some 95) (.pointer (some ⟨ba, offa + i * 20, none⟩)) rfl (by kernel_rfl) (by kernel_rfl) (by kernel_rfl) (fun _ _ _ h => h) (by kernel_rfl) (by kernel_rfl) (fun X hX => ex_indexA 48 20 i unPs idPs rfl rfl hAA rfl hlt3) hf0 ?_
                  simp only [Act.put, nzA, nzB, nzC]
                  refine gsem 5 (some 96) (.pointer (some ⟨ba, offa + i * 20, none⟩)) rfl (by kernel_rfl) (by kernel_rfl) (by kernel_rfl) (fun _ _ _ h => h) (by kernel_rfl) (by kernel_rfl) (fun _ _ => by kernel_rfl) hf0 ?_
                  simp only [Act.put, nzA, nzB, nzC]
                  refine gsem 6 (some 97) (.agg q.k.cs.toArray) rfl (by kernel_rfl) (by kernel_rfl) (by kernel_rfl) (fun _ _ _ h => h) (by kernel_rfl) (by kernel_rfl) (fun X hX => ex_loadR (vs := q.k.cs) 38 2 rwK szK rfl rfl (range_left (a := q.k.cs) (c := q.d.cs) (rangeAt_fr hrga hba hX)) rfl) hf0 ?_
                  simp only [Act.put, nzA, nzB, nzC]
                  refine gsem 7 (some 98) (.slice AA a.length ac) rfl (by kernel_rfl) (by kernel_rfl) (by kernel_rfl) (fun _ _ _ h => h) (by kernel_rfl) (by kernel_rfl) (fun _ _ => by kernel_rfl) hf0 ?_
                  simp only [Act.put, nzA, nzB, nzC]
                  refine gsem 8 (some 99) (.int .i64 (i : Nat)) rfl (by kernel_rfl) (by kernel_rfl) (by kernel_rfl) (fun _ _ _ h => h) (by kernel_rfl) (by kernel_rfl) (fun _ _ => by kernel_rfl) hf0 ?_
                  simp only [Act.put, nzA, nzB, nzC]
                  refine gsem 9 (some 100) (.pointer (some ⟨ba, offa + i * 20, none⟩)) rfl (by kernel_rfl) (by kernel_rfl) (by kernel_rfl) (fun _ _ _ h => h) (by kernel_rfl) (by kernel_rfl) (fun X hX => ex_indexA 48 20 i unPs idPs rfl rfl hAA rfl hlt3) hf0 ?_
                  simp only [Act.put, nzA, nzB, nzC]
                  refine gsem 10 (some 101) (.pointer (some ⟨ba, offa + i * 20 + 2, none⟩)) rfl (by kernel_rfl) (by kernel_rfl) (by kernel_rfl) (fun _ _ _ h => h) (by kernel_rfl) (by kernel_rfl) (fun _ _ => by kernel_rfl) hf0 ?_
                  simp only [Act.put, nzA, nzB, nzC]
                  refine gsem 11 (some 102) (.agg q.d.cs.toArray) rfl (by kernel_rfl) (by kernel_rfl) (by kernel_rfl) (fun _ _ _ h => h) (by kernel_rfl) (by kernel_rfl) (fun X hX => ex_loadR (vs := q.d.cs) 41 18 rwD szD rfl rfl (range_right (a := q.k.cs) (c := q.d.cs) (rangeAt_fr hrga hba hX)) rfl) hf0 ?_
                  simp only [Act.put, nzA, nzB, nzC]
                  refine gsem 12 (some 103) (.agg (DL.cs (putL o q)).toArray) rfl (by kernel_rfl) (by kernel_rfl) (by kernel_rfl) (fun _ _ _ h => h) (by kernel_rfl) (by kernel_rfl) (fun X hX => ex_bPutO o q rfl rfl rfl rfl rfl) hf0 ?_
                  simp only [Act.put, nzA, nzB, nzC]
                  refine wpAnyH_ready (rs := [13]) (by kernel_rfl) (by simp) (gval 13 (some 104) rfl (by kernel_rfl) (by kernel_rfl) (ex_buildS (cs := DL.cs (putL o q)) rfl rfl Tryd.underlying25 infL (by decide) rfl rfl (by decide)) (hr0.on ((Below.refl _ _).alloc (Nat.le_refl _) _)).2 ?_ AllReadyH.nil)
                  simp only [Act.put, nzA, nzB, nzC]
                  have hr1 := hr0.on ((Below.refl _ _).alloc (Nat.le_refl _) (Obj.cells (DL.cs (putL o q)).toArray 43))
                  refine wpAnyH_ready (rs := [14]) (by kernel_rfl) (by simp) (gappF (base := w.heap.size) (size := 29) (bytes := 272) (k := xs.length) (m := 1) (news := DL.cs (putL o q)) (xs := flatL xs) (v := ov) 14 (some 105) rfl (by kernel_rfl) (by kernel_rfl) rfl rfl rfl Tryd.underlying25 infL rfl (by decide) hr1.1 (Holds.new _ (DL.cs (putL o q)) 43) rfl (dlcs_one _) (by have := unhide HXS; omega) (by decide) hr1.2.size (fun Z hZ => hr1.2.trans (Fr.grown hZ) (fun b hb => .inr (World.ownsRow.lt hr1.1 b (by simpa using hb)).1)) ?_ AllReadyH.nil)
                  intro A7 c7 X7 hO7 hg7 hF7
                  simp only [Act.put, nzA, nzB, nzC]
                  have hr7 := hr1.grow1 hg7 hO7
                  refine gsem 15 (some 9) (.slice A7 (xs.length + 1) c7) rfl (by kernel_rfl) (by kernel_rfl) (by kernel_rfl) (fun _ _ _ h => h) (by kernel_rfl) (by kernel_rfl) (fun _ _ => by kernel_rfl) hr7.2 ?_
                  simp only [Act.put, nzA, nzB, nzC]
                  refine wpAnyH_done (by kernel_rfl) ?_ _
                  try simp only [Act.put, nzA, nzB, nzC]
                  have LN : Hid (RW w X7 (.slice A7 (xs.length + 1) c7) (gl ++ puR o b a n (i + 1))) := hide (by rw [unhide HNX]; exact hr7)
                  clear hr0 hf0 hr1 hr7 hO7 hg7 hF7 hS0 RR hAA hba hrga hlt3
                  go_wp2
                  go_roundg (a.length - (i + 1))
                  case measure => have := unhide HLT3; omega
                  case rel => exact ⟨i + 1, _, by go_num, rfl, by have := unhide HLT3; omega, by omega, LN⟩
                · have hge : decide ((n : Int) ≤ (i : Int)) = false := decide_eq_false (by omega)
                  obtain ⟨m, e1, _⟩ := (unhide HK).all i (by omega)
                  have hfo : fO b q.k = some m := by simpa [Pj, hq] using e1
                  obtain ⟨p, hp, hpk⟩ := fO_get hfo
                  have hmb : m < b.length := (List.getElem?_eq_some_iff.1 hp).1
                  obtain ⟨hokp, bb, off, hBA, hb, hrg⟩ := (unhide HB) m p hp
                  have hFB : ∀ Z, Fr w Z [] → Calls Tryd.prog 19 #[.slice BA b.length bc, .agg q.k.cs.toArray] Z fun e X' => e = .returned (.int .i64 (m : Nat)) ∧ Below Z.heap.size Z X' := fun Z hZ => by have := find_any BA bc b q.k Z ((unhide HB).fr hZ) (by have := unhide HZB; omega); rw [fI_fO, hfo, kagg] at this; exact this
                  have hED := refEqDesc_any q.d p.d hokq.1 hokp.1
                  have hea : eqAt b q = eqD q.d p.d := by unfold eqAt; rw [hfo]; simp only [hp]
                  simp only [dagg] at hED
                  cases hev : eqD q.d p.d
                  · rw [hev] at hED
                    have hnx := puR_put (o := o) (b := b) (n := n) hq (by rw [hea, hev]; simp)
                    have HNX : Hid (gl ++ puR o b a n (i + 1) = (gl ++ puR o b a n i) ++ [putL o q]) := hide (by rw [hnx, List.append_assoc])
                    generalize hxs : gl ++ puR o b a n i = xs at *
                    clear hnx hq hni hil hpl hokq hokp hxs hea hev e1 hfo hp hpk
                    have HH := hide (And.intro hAA (And.intro hba (And.intro hrga (And.intro hlt3 (And.intro hge (And.intro hBA (And.intro hb (And.intro hrg (And.intro hmb (And.intro hFB hED))))))))))
                    clear hAA hba hrga hlt3 hge hBA hb hrg hmb hFB hED
                    go_wp2_with (first | go_skip | ((with_reducible show wpList _ _ _ _ _ _); first | ((refine rd (by rfl) (ex_lenG 48 55 Tryd.underlying48 rfl rfl) ?_); simp only [Act.put, nzA, nzB, nzC])))
                    obtain ⟨hAA, hba, hrga, hlt3, hge, hBA, hb, hrg, hmb, hFB, hED⟩ := unhide HH
                    have hf0 : Fr w _ [] := (unhide RR).drew.2
                    refine wp_region_held_drew (P := Tryd.prog) (S := fun Z => Fr w Z []) (by kernel_rfl) hf0 (fun hS0 => ?_)
                    refine gsem 0 (some 68) (.int .i64 (i : Nat)) rfl (by kernel_rfl) (by kernel_rfl) (by kernel_rfl) (fun _ _ _ h => h) (by kernel_rfl) (by kernel_rfl) (fun _ _ => by kernel_rfl) hf0 ?_
                    simp only [Act.put, nzA, nzB, nzC]
                    refine gsem 1 (some 69) (.int .i64 (n : Nat)) rfl (by kernel_rfl) (by kernel_rfl) (by kernel_rfl) (fun _ _ _ h => h) (by kernel_rfl) (by kernel_rfl) (fun _ _ => by kernel_rfl) hf0 ?_
                    simp only [Act.put, nzA, nzB, nzC]
                    refine gsem 2 (some 70) (.bool false) rfl (by kernel_rfl) (by kernel_rfl) (by kernel_rfl) (fun _ _ _ h => h) (by kernel_rfl) (by kernel_rfl) (fun X hX => ex_geI rfl rfl rfl hge) hf0 ?_
                    simp only [Act.put, nzA, nzB, nzC]
                    refine gsem 3 (some 71) (.bool false) rfl (by kernel_rfl) (by kernel_rfl) (by kernel_rfl) (fun _ _ _ h => h) (by kernel_rfl) (by kernel_rfl) (fun _ _ => by kernel_rfl) hf0 ?_
                    simp only [Act.put, nzA, nzB, nzC]
                    refine gsem 4 (some 72) (.slice AA a.length ac) rfl (by kernel_rfl) (by kernel_rfl) (by kernel_rfl) (fun _ _ _ h => h) (by kernel_rfl) (by kernel_rfl) (fun _ _ => by kernel_rfl) hf0 ?_
                    simp only [Act.put, nzA, nzB, nzC]
                    refine gsem 5 (some 73) (.int .i64 (i : Nat)) rfl (by kernel_rfl) (by kernel_rfl) (by kernel_rfl) (fun _ _ _ h => h) (by kernel_rfl) (by kernel_rfl) (fun _ _ => by kernel_rfl) hf0 ?_
                    simp only [Act.put, nzA, nzB, nzC]
                    refine gsem 6 (some 74) (.pointer (some ⟨ba, offa + i * 20, none⟩)) rfl (by kernel_rfl) (by kernel_rfl) (by kernel_rfl) (fun _ _ _ h => h) (by kernel_rfl) (by kernel_rfl) (fun X hX => ex_indexA 48 20 i unPs idPs rfl rfl hAA rfl hlt3) hf0 ?_
                    simp only [Act.put, nzA, nzB, nzC]
                    refine gsem 7 (some 75) (.pointer (some ⟨ba, offa + i * 20 + 2, none⟩)) rfl (by kernel_rfl) (by kernel_rfl) (by kernel_rfl) (fun _ _ _ h => h) (by kernel_rfl) (by kernel_rfl) (fun _ _ => by kernel_rfl) hf0 ?_
                    simp only [Act.put, nzA, nzB, nzC]
                    refine gsem 8 (some 76) (.agg q.d.cs.toArray) rfl (by kernel_rfl) (by kernel_rfl) (by kernel_rfl) (fun _ _ _ h => h) (by kernel_rfl) (by kernel_rfl) (fun X hX => ex_loadR (vs := q.d.cs) 41 18 rwD szD rfl rfl (range_right (a := q.k.cs) (c := q.d.cs) (rangeAt_fr hrga hba hX)) rfl) hf0 ?_
                    simp only [Act.put, nzA, nzB, nzC]
                    refine gsem 9 (some 77) (.slice BA b.length bc) rfl (by kernel_rfl) (by kernel_rfl) (by kernel_rfl) (fun _ _ _ h => h) (by kernel_rfl) (by kernel_rfl) (fun _ _ => by kernel_rfl) hf0 ?_
                    simp only [Act.put, nzA, nzB, nzC]
                    refine gsem 10 (some 78) (.slice BA b.length bc) rfl (by kernel_rfl) (by kernel_rfl) (by kernel_rfl) (fun _ _ _ h => h) (by kernel_rfl) (by kernel_rfl) (fun _ _ => by kernel_rfl) hf0 ?_
                    simp only [Act.put, nzA, nzB, nzC]
                    refine gsem 11 (some 79) (.slice AA a.length ac) rfl (by kernel_rfl) (by kernel_rfl) (by kernel_rfl) (fun _ _ _ h => h) (by kernel_rfl) (by kernel_rfl) (fun _ _ => by kernel_rfl) hf0 ?_
                    simp only [Act.put, nzA, nzB, nzC]
                    refine gsem 12 (some 80) (.int .i64 (i : Nat)) rfl (by kernel_rfl) (by kernel_rfl) (by kernel_rfl) (fun _ _ _ h => h) (by kernel_rfl) (by kernel_rfl) (fun _ _ => by kernel_rfl) hf0 ?_
                    simp only [Act.put, nzA, nzB, nzC]
                    refine gsem 13 (some 81) (.pointer (some ⟨ba, offa + i * 20, none⟩)) rfl (by kernel_rfl) (by kernel_rfl) (by kernel_rfl) (fun _ _ _ h => h) (by kernel_rfl) (by kernel_rfl) (fun X hX => ex_indexA 48 20 i unPs idPs rfl rfl hAA rfl hlt3) hf0 ?_
                    simp only [Act.put, nzA, nzB, nzC]
                    refine gsem 14 (some 82) (.pointer (some ⟨ba, offa + i * 20, none⟩)) rfl (by kernel_rfl) (by kernel_rfl) (by kernel_rfl) (fun _ _ _ h => h) (by kernel_rfl) (by kernel_rfl) (fun _ _ => by kernel_rfl) hf0 ?_
                    simp only [Act.put, nzA, nzB, nzC]
                    refine gsem 15 (some 83) (.agg q.k.cs.toArray) rfl (by kernel_rfl) (by kernel_rfl) (by kernel_rfl) (fun _ _ _ h => h) (by kernel_rfl) (by kernel_rfl) (fun X hX => ex_loadR (vs := q.k.cs) 38 2 rwK szK rfl rfl (range_left (a := q.k.cs) (c := q.d.cs) (rangeAt_fr hrga hba hX)) rfl) hf0 ?_
                    simp only [Act.put, nzA, nzB, nzC]
                    refine wpAnyH_ready (rs := [16]) (by kernel_rfl) (by simp) (gcallR 16 (some 84) rfl (by kernel_rfl) (by kernel_rfl) (by kernel_rfl) (hFB _ hf0) ?_ AllReadyH.nil)
                    rintro e Y6 ⟨rfl, hY6⟩
                    have hf6 := hf0.on hY6
                    refine ⟨_, rfl, hf6, ?_⟩
                    simp only [Act.put, nzA, nzB, nzC]
                    refine gsem 17 (some 85) (.pointer (some ⟨bb, off + m * 20, none⟩)) rfl (by kernel_rfl) (by kernel_rfl) (by kernel_rfl) (fun _ _ _ h => h) (by kernel_rfl) (by kernel_rfl) (fun X hX => ex_indexA 48 20 m unPs idPs rfl rfl hBA rfl hmb) hf6 ?_
                    simp only [Act.put, nzA, nzB, nzC]
                    refine gsem 18 (some 86) (.pointer (some ⟨bb, off + m * 20 + 2, none⟩)) rfl (by kernel_rfl) (by kernel_rfl) (by kernel_rfl) (fun _ _ _ h => h) (by kernel_rfl) (by kernel_rfl) (fun _ _ => by kernel_rfl) hf6 ?_
                    simp only [Act.put, nzA, nzB, nzC]
                    refine gsem 19 (some 87) (.agg p.d.cs.toArray) rfl (by kernel_rfl) (by kernel_rfl) (by kernel_rfl) (fun _ _ _ h => h) (by kernel_rfl) (by kernel_rfl) (fun X hX => ex_loadR (vs := p.d.cs) 41 18 rwD szD rfl rfl (range_right (a := p.k.cs) (c := p.d.cs) (rangeAt_fr hrg hb hX)) rfl) hf6 ?_
                    simp only [Act.put, nzA, nzB, nzC]
                    refine wpAnyH_ready (rs := [20]) (by kernel_rfl) (by simp) (gcallR 20 (some 88) rfl (by kernel_rfl) (by kernel_rfl) (by kernel_rfl) (hED _) ?_ AllReadyH.nil)
                    rintro e Y7 ⟨rfl, hY7⟩
                    have hf7 := hf6.on hY7
                    refine ⟨_, rfl, hf7, ?_⟩
                    simp only [Act.put, nzA, nzB, nzC]
                    refine gsem 21 (some 89) (.bool true) rfl (by kernel_rfl) (by kernel_rfl) (by kernel_rfl) (fun _ _ _ h => h) (by kernel_rfl) (by kernel_rfl) (fun _ _ => by kernel_rfl) hf7 ?_
                    simp only [Act.put, nzA, nzB, nzC]
                    refine gsem 22 (some 90) (.bool true) rfl (by kernel_rfl) (by kernel_rfl) (by kernel_rfl) (fun _ _ _ h => h) (by kernel_rfl) (by kernel_rfl) (fun _ _ => by kernel_rfl) hf7 ?_
                    simp only [Act.put, nzA, nzB, nzC]
                    refine wpAnyH_done (by kernel_rfl) ?_ _
                    try simp only [Act.put, nzA, nzB, nzC]
                    replace RR := hide (((unhide RR).drew.on hY6).on hY7)
                    clear hf0 hf6 hf7 hY6 hY7 hS0 hge HH hBA hb hrg hmb hFB hED
                    go_wp2_with fail
                    have hr0 := (unhide RR).drew
                    have hf0 : Fr w _ [] := hr0.2
                    refine wp_region_held_drew (P := Tryd.prog) (S := fun Z => Fr w Z []) (by kernel_rfl) hf0 (fun hS0 => ?_)
                    refine gsem 0 (some 91) (ov) rfl (by kernel_rfl) (by kernel_rfl) (by kernel_rfl) (fun _ _ _ h => h) (by kernel_rfl) (by kernel_rfl) (fun _ _ => by kernel_rfl) hf0 ?_
                    simp only [Act.put, nzA, nzB, nzC]
                    refine gsem 1 (some 92) (.int .i64 o) rfl (by kernel_rfl) (by kernel_rfl) (by kernel_rfl) (fun _ _ _ h => h) (by kernel_rfl) (by kernel_rfl) (fun _ _ => by kernel_rfl) hf0 ?_
                    simp only [Act.put, nzA, nzB, nzC]
                    refine gsem 2 (some 93) (.slice AA a.length ac) rfl (by kernel_rfl) (by kernel_rfl) (by kernel_rfl) (fun _ _ _ h => h) (by kernel_rfl) (by kernel_rfl) (fun _ _ => by kernel_rfl) hf0 ?_
                    simp only [Act.put, nzA, nzB, nzC]
                    refine gsem 3 (some 94) (.int .i64 (i : Nat)) rfl (by kernel_rfl) (by kernel_rfl) (by kernel_rfl) (fun _ _ _ h => h) (by kernel_rfl) (by kernel_rfl) (fun _ _ => by kernel_rfl) hf0 ?_
                    simp only [Act.put, nzA, nzB, nzC]
                    refine gsem 4 (some 95) (.pointer (some ⟨ba, offa + i * 20, none⟩)) rfl (by kernel_rfl) (by kernel_rfl) (by kernel_rfl) (fun _ _ _ h => h) (by kernel_rfl) (by kernel_rfl) (fun X hX => ex_indexA 48 20 i unPs idPs rfl rfl hAA rfl hlt3) hf0 ?_
                    simp only [Act.put, nzA, nzB, nzC]
                    refine gsem 5 (some 96) (.pointer (some ⟨ba, offa + i * 20, none⟩)) rfl (by kernel_rfl) (by kernel_rfl) (by kernel_rfl) (fun _ _ _ h => h) (by kernel_rfl) (by kernel_rfl) (fun _ _ => by kernel_rfl) hf0 ?_
                    simp only [Act.put, nzA, nzB, nzC]
                    refine gsem 6 (some 97) (.agg q.k.cs.toArray) rfl (by kernel_rfl) (by kernel_rfl) (by kernel_rfl) (fun _ _ _ h => h) (by kernel_rfl) (by kernel_rfl) (fun X hX => ex_loadR (vs := q.k.cs) 38 2 rwK szK rfl rfl (range_left (a := q.k.cs) (c := q.d.cs) (rangeAt_fr hrga hba hX)) rfl) hf0 ?_
                    simp only [Act.put, nzA, nzB, nzC]
                    refine gsem 7 (some 98) (.slice AA a.length ac) rfl (by kernel_rfl) (by kernel_rfl) (by kernel_rfl) (fun _ _ _ h => h) (by kernel_rfl) (by kernel_rfl) (fun _ _ => by kernel_rfl) hf0 ?_
                    simp only [Act.put, nzA, nzB, nzC]
                    refine gsem 8 (some 99) (.int .i64 (i : Nat)) rfl (by kernel_rfl) (by kernel_rfl) (by kernel_rfl) (fun _ _ _ h => h) (by kernel_rfl) (by kernel_rfl) (fun _ _ => by kernel_rfl) hf0 ?_
                    simp only [Act.put, nzA, nzB, nzC]
                    refine gsem 9 (some 100) (.pointer (some ⟨ba, offa + i * 20, none⟩)) rfl (by kernel_rfl) (by kernel_rfl) (by kernel_rfl) (fun _ _ _ h => h) (by kernel_rfl) (by kernel_rfl) (fun X hX => ex_indexA 48 20 i unPs idPs rfl rfl hAA rfl hlt3) hf0 ?_
                    simp only [Act.put, nzA, nzB, nzC]
                    refine gsem 10 (some 101) (.pointer (some ⟨ba, offa + i * 20 + 2, none⟩)) rfl (by kernel_rfl) (by kernel_rfl) (by kernel_rfl) (fun _ _ _ h => h) (by kernel_rfl) (by kernel_rfl) (fun _ _ => by kernel_rfl) hf0 ?_
                    simp only [Act.put, nzA, nzB, nzC]
                    refine gsem 11 (some 102) (.agg q.d.cs.toArray) rfl (by kernel_rfl) (by kernel_rfl) (by kernel_rfl) (fun _ _ _ h => h) (by kernel_rfl) (by kernel_rfl) (fun X hX => ex_loadR (vs := q.d.cs) 41 18 rwD szD rfl rfl (range_right (a := q.k.cs) (c := q.d.cs) (rangeAt_fr hrga hba hX)) rfl) hf0 ?_
                    simp only [Act.put, nzA, nzB, nzC]
                    refine gsem 12 (some 103) (.agg (DL.cs (putL o q)).toArray) rfl (by kernel_rfl) (by kernel_rfl) (by kernel_rfl) (fun _ _ _ h => h) (by kernel_rfl) (by kernel_rfl) (fun X hX => ex_bPutO o q rfl rfl rfl rfl rfl) hf0 ?_
                    simp only [Act.put, nzA, nzB, nzC]
                    refine wpAnyH_ready (rs := [13]) (by kernel_rfl) (by simp) (gval 13 (some 104) rfl (by kernel_rfl) (by kernel_rfl) (ex_buildS (cs := DL.cs (putL o q)) rfl rfl Tryd.underlying25 infL (by decide) rfl rfl (by decide)) (hr0.on ((Below.refl _ _).alloc (Nat.le_refl _) _)).2 ?_ AllReadyH.nil)
                    simp only [Act.put, nzA, nzB, nzC]
                    have hr1 := hr0.on ((Below.refl _ _).alloc (Nat.le_refl _) (Obj.cells (DL.cs (putL o q)).toArray 43))
                    refine wpAnyH_ready (rs := [14]) (by kernel_rfl) (by simp) (gappF (base := w.heap.size) (size := 29) (bytes := 272) (k := xs.length) (m := 1) (news := DL.cs (putL o q)) (xs := flatL xs) (v := ov) 14 (some 105) rfl (by kernel_rfl) (by kernel_rfl) rfl rfl rfl Tryd.underlying25 infL rfl (by decide) hr1.1 (Holds.new _ (DL.cs (putL o q)) 43) rfl (dlcs_one _) (by have := unhide HXS; omega) (by decide) hr1.2.size (fun Z hZ => hr1.2.trans (Fr.grown hZ) (fun b hb => .inr (World.ownsRow.lt hr1.1 b (by simpa using hb)).1)) ?_ AllReadyH.nil)
                    intro A7 c7 X7 hO7 hg7 hF7
                    simp only [Act.put, nzA, nzB, nzC]
                    have hr7 := hr1.grow1 hg7 hO7
                    refine gsem 15 (some 9) (.slice A7 (xs.length + 1) c7) rfl (by kernel_rfl) (by kernel_rfl) (by kernel_rfl) (fun _ _ _ h => h) (by kernel_rfl) (by kernel_rfl) (fun _ _ => by kernel_rfl) hr7.2 ?_
                    simp only [Act.put, nzA, nzB, nzC]
                    refine wpAnyH_done (by kernel_rfl) ?_ _
                    try simp only [Act.put, nzA, nzB, nzC]
                    have LN : Hid (RW w X7 (.slice A7 (xs.length + 1) c7) (gl ++ puR o b a n (i + 1))) := hide (by rw [unhide HNX]; exact hr7)
                    clear hr0 hf0 hr1 hr7 hO7 hg7 hF7 hS0 RR hAA hba hrga hlt3
                    go_wp2
                    go_roundg (a.length - (i + 1))
                    case measure => have := unhide HLT3; omega
                    case rel => exact ⟨i + 1, _, by go_num, rfl, by have := unhide HLT3; omega, by omega, LN⟩
                  · rw [hev] at hED
                    have hnx := puR_not (o := o) (b := b) (n := n) hq (by rw [hea, hev]; simp [hni])
                    have HNX : Hid (gl ++ puR o b a n (i + 1) = gl ++ puR o b a n i) := hide (by rw [hnx])
                    generalize hxs : gl ++ puR o b a n i = xs at *
                    clear hnx hq hni hil hpl hokq hokp hxs hea hev e1 hfo hp hpk
                    have HH := hide (And.intro hAA (And.intro hba (And.intro hrga (And.intro hlt3 (And.intro hge (And.intro hBA (And.intro hb (And.intro hrg (And.intro hmb (And.intro hFB hED))))))))))
                    clear hAA hba hrga hlt3 hge hBA hb hrg hmb hFB hED
                    go_wp2_with (first | go_skip | ((with_reducible show wpList _ _ _ _ _ _); first | ((refine rd (by rfl) (ex_lenG 48 55 Tryd.underlying48 rfl rfl) ?_); simp only [Act.put, nzA, nzB, nzC])))
                    obtain ⟨hAA, hba, hrga, hlt3, hge, hBA, hb, hrg, hmb, hFB, hED⟩ := unhide HH
                    have hf0 : Fr w _ [] := (unhide RR).drew.2
                    refine wp_region_held_drew (P := Tryd.prog) (S := fun Z => Fr w Z []) (by kernel_rfl) hf0 (fun hS0 => ?_)
                    refine gsem 0 (some 68) (.int .i64 (i : Nat)) rfl (by kernel_rfl) (by kernel_rfl) (by kernel_rfl) (fun _ _ _ h => h) (by kernel_rfl) (by kernel_rfl) (fun _ _ => by kernel_rfl) hf0 ?_
                    simp only [Act.put, nzA, nzB, nzC]
                    refine gsem 1 (some 69) (.int .i64 (n : Nat)) rfl (by kernel_rfl) (by kernel_rfl) (by kernel_rfl) (fun _ _ _ h => h) (by kernel_rfl) (by kernel_rfl) (fun _ _ => by kernel_rfl) hf0 ?_
                    simp only [Act.put, nzA, nzB, nzC]
                    refine gsem 2 (some 70) (.bool false) rfl (by kernel_rfl) (by kernel_rfl) (by kernel_rfl) (fun _ _ _ h => h) (by kernel_rfl) (by kernel_rfl) (fun X hX => ex_geI rfl rfl rfl hge) hf0 ?_
                    simp only [Act.put, nzA, nzB, nzC]
                    refine gsem 3 (some 71) (.bool false) rfl (by kernel_rfl) (by kernel_rfl) (by kernel_rfl) (fun _ _ _ h => h) (by kernel_rfl) (by kernel_rfl) (fun _ _ => by kernel_rfl) hf0 ?_
                    simp only [Act.put, nzA, nzB, nzC]
                    refine gsem 4 (some 72) (.slice AA a.length ac) rfl (by kernel_rfl) (by kernel_rfl) (by kernel_rfl) (fun _ _ _ h => h) (by kernel_rfl) (by kernel_rfl) (fun _ _ => by kernel_rfl) hf0 ?_
                    simp only [Act.put, nzA, nzB, nzC]
                    refine gsem 5 (some 73) (.int .i64 (i : Nat)) rfl (by kernel_rfl) (by kernel_rfl) (by kernel_rfl) (fun _ _ _ h => h) (by kernel_rfl) (by kernel_rfl) (fun _ _ => by kernel_rfl) hf0 ?_
                    simp only [Act.put, nzA, nzB, nzC]
                    refine gsem 6 (some 74) (.pointer (some ⟨ba, offa + i * 20, none⟩)) rfl (by kernel_rfl) (by kernel_rfl) (by kernel_rfl) (fun _ _ _ h => h) (by kernel_rfl) (by kernel_rfl) (fun X hX => ex_indexA 48 20 i unPs idPs rfl rfl hAA rfl hlt3) hf0 ?_
                    simp only [Act.put, nzA, nzB, nzC]
                    refine gsem 7 (some 75) (.pointer (some ⟨ba, offa + i * 20 + 2, none⟩)) rfl (by kernel_rfl) (by kernel_rfl) (by kernel_rfl) (fun _ _ _ h => h) (by kernel_rfl) (by kernel_rfl) (fun _ _ => by kernel_rfl) hf0 ?_
                    simp only [Act.put, nzA, nzB, nzC]
                    refine gsem 8 (some 76) (.agg q.d.cs.toArray) rfl (by kernel_rfl) (by kernel_rfl) (by kernel_rfl) (fun _ _ _ h => h) (by kernel_rfl) (by kernel_rfl) (fun X hX => ex_loadR (vs := q.d.cs) 41 18 rwD szD rfl rfl (range_right (a := q.k.cs) (c := q.d.cs) (rangeAt_fr hrga hba hX)) rfl) hf0 ?_
                    simp only [Act.put, nzA, nzB, nzC]
                    refine gsem 9 (some 77) (.slice BA b.length bc) rfl (by kernel_rfl) (by kernel_rfl) (by kernel_rfl) (fun _ _ _ h => h) (by kernel_rfl) (by kernel_rfl) (fun _ _ => by kernel_rfl) hf0 ?_
                    simp only [Act.put, nzA, nzB, nzC]
                    refine gsem 10 (some 78) (.slice BA b.length bc) rfl (by kernel_rfl) (by kernel_rfl) (by kernel_rfl) (fun _ _ _ h => h) (by kernel_rfl) (by kernel_rfl) (fun _ _ => by kernel_rfl) hf0 ?_
                    simp only [Act.put, nzA, nzB, nzC]
                    refine gsem 11 (some 79) (.slice AA a.length ac) rfl (by kernel_rfl) (by kernel_rfl) (by kernel_rfl) (fun _ _ _ h => h) (by kernel_rfl) (by kernel_rfl) (fun _ _ => by kernel_rfl) hf0 ?_
                    simp only [Act.put, nzA, nzB, nzC]
                    refine gsem 12 (some 80) (.int .i64 (i : Nat)) rfl (by kernel_rfl) (by kernel_rfl) (by kernel_rfl) (fun _ _ _ h => h) (by kernel_rfl) (by kernel_rfl) (fun _ _ => by kernel_rfl) hf0 ?_
                    simp only [Act.put, nzA, nzB, nzC]
                    refine gsem 13 (some 81) (.pointer (some ⟨ba, offa + i * 20, none⟩)) rfl (by kernel_rfl) (by kernel_rfl) (by kernel_rfl) (fun _ _ _ h => h) (by kernel_rfl) (by kernel_rfl) (fun X hX => ex_indexA 48 20 i unPs idPs rfl rfl hAA rfl hlt3) hf0 ?_
                    simp only [Act.put, nzA, nzB, nzC]
                    refine gsem 14 (some 82) (.pointer (some ⟨ba, offa + i * 20, none⟩)) rfl (by kernel_rfl) (by kernel_rfl) (by kernel_rfl) (fun _ _ _ h => h) (by kernel_rfl) (by kernel_rfl) (fun _ _ => by kernel_rfl) hf0 ?_
                    simp only [Act.put, nzA, nzB, nzC]
                    refine gsem 15 (some 83) (.agg q.k.cs.toArray) rfl (by kernel_rfl) (by kernel_rfl) (by kernel_rfl) (fun _ _ _ h => h) (by kernel_rfl) (by kernel_rfl) (fun X hX => ex_loadR (vs := q.k.cs) 38 2 rwK szK rfl rfl (range_left (a := q.k.cs) (c := q.d.cs) (rangeAt_fr hrga hba hX)) rfl) hf0 ?_
                    simp only [Act.put, nzA, nzB, nzC]
                    refine wpAnyH_ready (rs := [16]) (by kernel_rfl) (by simp) (gcallR 16 (some 84) rfl (by kernel_rfl) (by kernel_rfl) (by kernel_rfl) (hFB _ hf0) ?_ AllReadyH.nil)
                    rintro e Y6 ⟨rfl, hY6⟩
                    have hf6 := hf0.on hY6
                    refine ⟨_, rfl, hf6, ?_⟩
                    simp only [Act.put, nzA, nzB, nzC]
                    refine gsem 17 (some 85) (.pointer (some ⟨bb, off + m * 20, none⟩)) rfl (by kernel_rfl) (by kernel_rfl) (by kernel_rfl) (fun _ _ _ h => h) (by kernel_rfl) (by kernel_rfl) (fun X hX => ex_indexA 48 20 m unPs idPs rfl rfl hBA rfl hmb) hf6 ?_
                    simp only [Act.put, nzA, nzB, nzC]
                    refine gsem 18 (some 86) (.pointer (some ⟨bb, off + m * 20 + 2, none⟩)) rfl (by kernel_rfl) (by kernel_rfl) (by kernel_rfl) (fun _ _ _ h => h) (by kernel_rfl) (by kernel_rfl) (fun _ _ => by kernel_rfl) hf6 ?_
                    simp only [Act.put, nzA, nzB, nzC]
                    refine gsem 19 (some 87) (.agg p.d.cs.toArray) rfl (by kernel_rfl) (by kernel_rfl) (by kernel_rfl) (fun _ _ _ h => h) (by kernel_rfl) (by kernel_rfl) (fun X hX => ex_loadR (vs := p.d.cs) 41 18 rwD szD rfl rfl (range_right (a := p.k.cs) (c := p.d.cs) (rangeAt_fr hrg hb hX)) rfl) hf6 ?_
                    simp only [Act.put, nzA, nzB, nzC]
                    refine wpAnyH_ready (rs := [20]) (by kernel_rfl) (by simp) (gcallR 20 (some 88) rfl (by kernel_rfl) (by kernel_rfl) (by kernel_rfl) (hED _) ?_ AllReadyH.nil)
                    rintro e Y7 ⟨rfl, hY7⟩
                    have hf7 := hf6.on hY7
                    refine ⟨_, rfl, hf7, ?_⟩
                    simp only [Act.put, nzA, nzB, nzC]
                    refine gsem 21 (some 89) (.bool false) rfl (by kernel_rfl) (by kernel_rfl) (by kernel_rfl) (fun _ _ _ h => h) (by kernel_rfl) (by kernel_rfl) (fun _ _ => by kernel_rfl) hf7 ?_
                    simp only [Act.put, nzA, nzB, nzC]
                    refine gsem 22 (some 90) (.bool false) rfl (by kernel_rfl) (by kernel_rfl) (by kernel_rfl) (fun _ _ _ h => h) (by kernel_rfl) (by kernel_rfl) (fun _ _ => by kernel_rfl) hf7 ?_
                    simp only [Act.put, nzA, nzB, nzC]
                    refine wpAnyH_done (by kernel_rfl) ?_ _
                    try simp only [Act.put, nzA, nzB, nzC]
                    replace RR := hide (((unhide RR).drew.on hY6).on hY7)
                    clear hf0 hf6 hf7 hY6 hY7 hS0 hge HH hBA hb hrg hmb hFB hED
                    clear hAA hba hrga hlt3
                    go_wp2
                    have LN : Hid (RW w _ ov (gl ++ puR o b a n (i + 1))) := hide (by rw [unhide HNX]; exact unhide RR)
                    clear RR
                    go_roundg (a.length - (i + 1))
                    case measure => have := unhide HLT3; omega
                    case rel => exact ⟨i + 1, ov, by go_num, rfl, by have := unhide HLT3; omega, by omega, LN⟩
              · obtain rfl : i = a.length := by omega
                clear hlt3 hil
                go_wp2_with (first | go_skip | ((with_reducible show wpList _ _ _ _ _ _); first | ((refine rd (by rfl) (ex_lenG 48 55 Tryd.underlying48 rfl rfl) ?_); simp only [Act.put, nzA, nzB, nzC])))
                go_ret
                exact ⟨ov, n, at_, rfl, unhide HK, unhide HST, by rw [unhide HPR]; exact unhide RR⟩
    · have HST : Hid (KStop b a n at_) := hide (fun q2 hq2 => absurd (List.getElem?_eq_some_iff.1 hq2).1 hlt)
      have dlt : decide ((n : Int) < (a.length : Int)) = false := decide_eq_false (by omega)
      clear hlt
      go_wp2_with (first | go_skip | ((with_reducible show wpList _ _ _ _ _ _); first | ((refine rd (by rfl) (ex_lenG 48 55 Tryd.underlying48 rfl rfl) ?_); simp only [Act.put, nzA, nzB, nzC]) | ((refine rd (by rfl) (ex_ltI rfl rfl rfl dlt) ?_); simp only [Act.put, nzA, nzB, nzC])))
      have RR := hide (RW.nil w _ (unhide HF))
      clear HF
      go_wp2_with (first | go_skip | ((with_reducible show wpList _ _ _ _ _ _); first | ((refine rd (by rfl) (ex_lenG 48 55 Tryd.underlying48 rfl rfl) ?_); simp only [Act.put, nzA, nzB, nzC])))
      obtain ⟨w2, hw2⟩ : ∃ w2, w2 = wr := ⟨_, rfl⟩
      subst hw2
      go_loopg [9, 10] b.length (fun gm s9 s10 wr => ∃ (i : Nat) (ov : Value), s10 = .int .i64 (i : Nat) ∧ s9 = ov ∧ i ≤ b.length ∧ b.length - i ≤ gm ∧ Hid (RW w wr ov (goR o b a n i)))
      case atStart => exact ⟨0, _, rfl, rfl, by omega, by omega, RR⟩
      case round =>
        clear RR
        obtain ⟨i, ov, rfl, hov, hil, hgm2, RR⟩ := hrel
        obtain rfl := hov.symm
        by_cases hlt2 : i < b.length
        · have dlt2 : decide ((i : Int) < (b.length : Int)) = true := decide_eq_true (by omega)
          have hw1 : IntKind.i64.wrap ((i : Int) + 1) = (i : Int) + 1 := by have := unhide HZB; rw [IntKind.wrap_i64]; omega
          obtain ⟨p, hp⟩ : ∃ p, b[i]? = some p := ⟨_, List.getElem?_eq_getElem hlt2⟩
          obtain ⟨_, bb, off, hBA, hb, hrg⟩ := (unhide HB) i p hp
          have hnl : n ≤ a.length := (unhide HK).le
          have hnc : n ≤ ac := Nat.le_trans hnl (unhide HAC)
          have hFT : ∀ Z, Fr w Z [] → Calls Tryd.prog 19 #[.slice AA n ac, .agg p.k.cs.toArray] Z fun e X' => e = .returned (.int .i64 (fI (a.take n) p.k)) ∧ Below Z.heap.size Z X' := fun Z hZ => by have := find_any AA ac (a.take n) p.k Z (((unhide HA).take n).fr hZ) (by have := unhide HZA; rw [List.length_take]; omega); rw [List.length_take, Nat.min_eq_left hnl, kagg] at this; exact this
          have hlz := isSome_lt (fO (a.take n) p.k)
          rw [← fI_fO] at hlz
          have hgl := goR_len o b a n i
          have HXS : Hid ((goR o b a n i).length ≤ 10000) := hide (by have := unhide HZB; omega)
          have HLT2 := hide hlt2
          have HA1 := hide hBA
          have HA2 : Hid (∀ X, Fr w X [] → X.rangeAt bb (off + i * 20) p.k.cs) := hide (fun X hX => range_left (a := p.k.cs) (c := p.d.cs) (rangeAt_fr hrg hb hX))
          cases his : (fO (a.take n) p.k).isSome
          · have HNX := hide (goR_no (o := o) hp his)
            rw [his] at hlz
            simp only [Bool.not_false] at hlz
            generalize goR o b a n i = xs at *
            have HH := hide (And.intro hBA (And.intro hb (And.intro hrg (And.intro hnc (And.intro hFT (And.intro hlz hlt2))))))
            clear hBA hb hrg hnc hFT hlz hlt2 hp his hil hgl hnl
            go_wp2_with (first | go_skip | ((with_reducible show wpList _ _ _ _ _ _); first | ((refine rd (by rfl) (ex_lenG 48 55 Tryd.underlying48 rfl rfl) ?_); simp only [Act.put, nzA, nzB, nzC])))
            obtain ⟨hBA, hb, hrg, hnc, hFT, hlz, hlt2⟩ := unhide HH
            have hf0 : Fr w _ [] := (unhide RR).drew.2
            refine wp_region_held_drew (P := Tryd.prog) (S := fun Z => Fr w Z []) (by kernel_rfl) hf0 (fun hS0 => ?_)
            refine gsem 0 (some 42) (.slice AA a.length ac) rfl (by kernel_rfl) (by kernel_rfl) (by kernel_rfl) (fun _ _ _ h => h) (by kernel_rfl) (by kernel_rfl) (fun _ _ => by kernel_rfl) hf0 ?_
            simp only [Act.put, nzA, nzB, nzC]
            refine gsem 1 (some 43) (.int .i64 (n : Nat)) rfl (by kernel_rfl) (by kernel_rfl) (by kernel_rfl) (fun _ _ _ h => h) (by kernel_rfl) (by kernel_rfl) (fun _ _ => by kernel_rfl) hf0 ?_
            simp only [Act.put, nzA, nzB, nzC]
            refine gsem 2 (some 44) (.slice AA n ac) rfl (by kernel_rfl) (by kernel_rfl) (by kernel_rfl) (fun _ _ _ h => h) (by kernel_rfl) (by kernel_rfl) (fun X hX => ex_sliceH rfl rfl rfl (sliceH AA a.length ac n hnc (unhide HA0) _)) hf0 ?_
            simp only [Act.put, nzA, nzB, nzC]
            refine gsem 3 (some 45) (.slice BA b.length bc) rfl (by kernel_rfl) (by kernel_rfl) (by kernel_rfl) (fun _ _ _ h => h) (by kernel_rfl) (by kernel_rfl) (fun _ _ => by kernel_rfl) hf0 ?_
            simp only [Act.put, nzA, nzB, nzC]
            refine gsem 4 (some 46) (.int .i64 (i : Nat)) rfl (by kernel_rfl) (by kernel_rfl) (by kernel_rfl) (fun _ _ _ h => h) (by kernel_rfl) (by kernel_rfl) (fun _ _ => by kernel_rfl) hf0 ?_
            simp only [Act.put, nzA, nzB, nzC]
            refine gsem 5 (some 47) (.pointer (some ⟨bb, off + i * 20, none⟩)) rfl (by kernel_rfl) (by kernel_rfl) (by kernel_rfl) (fun _ _ _ h => h) (by kernel_rfl) (by kernel_rfl) (fun X hX => ex_indexA 48 20 i unPs idPs rfl rfl hBA rfl hlt2) hf0 ?_
            simp only [Act.put, nzA, nzB, nzC]
            refine gsem 6 (some 48) (.pointer (some ⟨bb, off + i * 20, none⟩)) rfl (by kernel_rfl) (by kernel_rfl) (by kernel_rfl) (fun _ _ _ h => h) (by kernel_rfl) (by kernel_rfl) (fun _ _ => by kernel_rfl) hf0 ?_
            simp only [Act.put, nzA, nzB, nzC]
            refine gsem 7 (some 49) (.agg p.k.cs.toArray) rfl (by kernel_rfl) (by kernel_rfl) (by kernel_rfl) (fun _ _ _ h => h) (by kernel_rfl) (by kernel_rfl) (fun X hX => ex_loadR (vs := p.k.cs) 38 2 rwK szK rfl rfl (range_left (a := p.k.cs) (c := p.d.cs) (rangeAt_fr hrg hb hX)) rfl) hf0 ?_
            simp only [Act.put, nzA, nzB, nzC]
            refine wpAnyH_ready (rs := [8]) (by kernel_rfl) (by simp) (gcallR 8 (some 50) rfl (by kernel_rfl) (by kernel_rfl) (by kernel_rfl) (hFT _ hf0) ?_ AllReadyH.nil)
            rintro e Y8 ⟨rfl, hY8⟩
            have hf8 := hf0.on hY8
            refine ⟨_, rfl, hf8, ?_⟩
            simp only [Act.put, nzA, nzB, nzC]
            refine gsem 9 (some 51) (.bool true) rfl (by kernel_rfl) (by kernel_rfl) (by kernel_rfl) (fun _ _ _ h => h) (by kernel_rfl) (by kernel_rfl) (fun X hX => ex_ltI rfl rfl rfl hlz) hf8 ?_
            simp only [Act.put, nzA, nzB, nzC]
            refine wpAnyH_done (by kernel_rfl) ?_ _
            try simp only [Act.put, nzA, nzB, nzC]
            replace RR := hide ((unhide RR).drew.on hY8)
            clear hBA hb hrg hnc hFT hlz hlt2 hf0 hf8 hY8 hS0 HH
            go_wp2_with (first | go_skip | ((with_reducible show wpList _ _ _ _ _ _); first | ((refine rd (by rfl) (ex_lenG 48 55 Tryd.underlying48 rfl rfl) ?_); simp only [Act.put, nzA, nzB, nzC]) | ((refine rd (by rfl) (ex_indexA 48 20 i unPs idPs rfl rfl (unhide HA1) rfl (unhide HLT2)) ?_); simp only [Act.put, nzA, nzB, nzC]) | ((refine rd (by rfl) (ex_loadR (vs := p.k.cs) 38 2 rwK szK rfl rfl (unhide HA2 _ (unhide RR).2) rfl) ?_); simp only [Act.put, nzA, nzB, nzC]) | ((refine rd (by rfl) (ex_bGoneO o p.k rfl rfl rfl rfl) ?_); simp only [Act.put, nzA, nzB, nzC]) | ((refine build_any (t := 25) (e := 43) (cs := DL.cs (goneL o p.k)) (by rfl) rfl rfl Tryd.underlying25 infL (by decide) rfl rfl (by decide) (Hq.nil _ []) ?_); intro X3 B3 hE3 L3 hb3; have HB3 := hide L3; replace RR := hide ((unhide RR).on hb3); clear L3 hb3 hE3; simp only [Act.put, nzA, nzB, nzC]) | ((refine append_any (base := w.heap.size) (size := 29) (bytes := 272) (n := xs.length) (m := 1) (news := DL.cs (goneL o p.k)) (xs := flatL xs) (v := ov) rfl rfl rfl rfl Tryd.underlying25 infL rfl (by decide) (unhide RR).1 ((unhide HB3).get 0 rfl) rfl (dlcs_one _) (by have := unhide HXS; omega) (by decide) (unhide RR).2.size ?_); intro A7 c7 X7 hO7 hg7 hF7; replace RR := hide ((unhide RR).grow1 hg7 hO7); clear hO7 hg7 hF7 HB3; simp only [Act.put, nzA, nzB, nzC])))
            have LN : Hid (RW w X7 (.slice A7 (xs.length + 1) c7) (goR o b a n (i + 1))) := hide (by rw [unhide HNX]; exact unhide RR)
            clear RR
            go_roundg (b.length - (i + 1))
            case measure => have := unhide HLT2; omega
            case rel => exact ⟨i + 1, _, by go_num, rfl, by have := unhide HLT2; omega, by omega, LN⟩
          · have HNX := hide (goR_yes (o := o) hp his)
            rw [his] at hlz
            simp only [Bool.not_true] at hlz
            generalize goR o b a n i = xs at *
            have HH := hide (And.intro hBA (And.intro hb (And.intro hrg (And.intro hnc (And.intro hFT (And.intro hlz hlt2))))))
            clear hBA hb hrg hnc hFT hlz hlt2 hp his hil hgl hnl
            go_wp2_with (first | go_skip | ((with_reducible show wpList _ _ _ _ _ _); first | ((refine rd (by rfl) (ex_lenG 48 55 Tryd.underlying48 rfl rfl) ?_); simp only [Act.put, nzA, nzB, nzC])))
            obtain ⟨hBA, hb, hrg, hnc, hFT, hlz, hlt2⟩ := unhide HH
            have hf0 : Fr w _ [] := (unhide RR).drew.2
            refine wp_region_held_drew (P := Tryd.prog) (S := fun Z => Fr w Z []) (by kernel_rfl) hf0 (fun hS0 => ?_)
            refine gsem 0 (some 42) (.slice AA a.length ac) rfl (by kernel_rfl) (by kernel_rfl) (by kernel_rfl) (fun _ _ _ h => h) (by kernel_rfl) (by kernel_rfl) (fun _ _ => by kernel_rfl) hf0 ?_
            simp only [Act.put, nzA, nzB, nzC]
            refine gsem 1 (some 43) (.int .i64 (n : Nat)) rfl (by kernel_rfl) (by kernel_rfl) (by kernel_rfl) (fun _ _ _ h => h) (by kernel_rfl) (by kernel_rfl) (fun _ _ => by kernel_rfl) hf0 ?_
            simp only [Act.put, nzA, nzB, nzC]
            refine gsem 2 (some 44) (.slice AA n ac) rfl (by kernel_rfl) (by kernel_rfl) (by kernel_rfl) (fun _ _ _ h => h) (by kernel_rfl) (by kernel_rfl) (fun X hX => ex_sliceH rfl rfl rfl (sliceH AA a.length ac n hnc (unhide HA0) _)) hf0 ?_
            simp only [Act.put, nzA, nzB, nzC]
            refine gsem 3 (some 45) (.slice BA b.length bc) rfl (by kernel_rfl) (by kernel_rfl) (by kernel_rfl) (fun _ _ _ h => h) (by kernel_rfl) (by kernel_rfl) (fun _ _ => by kernel_rfl) hf0 ?_
            simp only [Act.put, nzA, nzB, nzC]
            refine gsem 4 (some 46) (.int .i64 (i : Nat)) rfl (by kernel_rfl) (by kernel_rfl) (by kernel_rfl) (fun _ _ _ h => h) (by kernel_rfl) (by kernel_rfl) (fun _ _ => by kernel_rfl) hf0 ?_
            simp only [Act.put, nzA, nzB, nzC]
            refine gsem 5 (some 47) (.pointer (some ⟨bb, off + i * 20, none⟩)) rfl (by kernel_rfl) (by kernel_rfl) (by kernel_rfl) (fun _ _ _ h => h) (by kernel_rfl) (by kernel_rfl) (fun X hX => ex_indexA 48 20 i unPs idPs rfl rfl hBA rfl hlt2) hf0 ?_
            simp only [Act.put, nzA, nzB, nzC]
            refine gsem 6 (some 48) (.pointer (some ⟨bb, off + i * 20, none⟩)) rfl (by kernel_rfl) (by kernel_rfl) (by kernel_rfl) (fun _ _ _ h => h) (by kernel_rfl) (by kernel_rfl) (fun _ _ => by kernel_rfl) hf0 ?_
            simp only [Act.put, nzA, nzB, nzC]
            refine gsem 7 (some 49) (.agg p.k.cs.toArray) rfl (by kernel_rfl) (by kernel_rfl) (by kernel_rfl) (fun _ _ _ h => h) (by kernel_rfl) (by kernel_rfl) (fun X hX => ex_loadR (vs := p.k.cs) 38 2 rwK szK rfl rfl (range_left (a := p.k.cs) (c := p.d.cs) (rangeAt_fr hrg hb hX)) rfl) hf0 ?_
            simp only [Act.put, nzA, nzB, nzC]
            refine wpAnyH_ready (rs := [8]) (by kernel_rfl) (by simp) (gcallR 8 (some 50) rfl (by kernel_rfl) (by kernel_rfl) (by kernel_rfl) (hFT _ hf0) ?_ AllReadyH.nil)
            rintro e Y8 ⟨rfl, hY8⟩
            have hf8 := hf0.on hY8
            refine ⟨_, rfl, hf8, ?_⟩
            simp only [Act.put, nzA, nzB, nzC]
            refine gsem 9 (some 51) (.bool false) rfl (by kernel_rfl) (by kernel_rfl) (by kernel_rfl) (fun _ _ _ h => h) (by kernel_rfl) (by kernel_rfl) (fun X hX => ex_ltI rfl rfl rfl hlz) hf8 ?_
            simp only [Act.put, nzA, nzB, nzC]
            refine wpAnyH_done (by kernel_rfl) ?_ _
            try simp only [Act.put, nzA, nzB, nzC]
            replace RR := hide ((unhide RR).drew.on hY8)
            clear hBA hb hrg hnc hFT hlz hlt2 hf0 hf8 hY8 hS0 HH
            go_wp2
            have LN : Hid (RW w _ ov (goR o b a n (i + 1))) := hide (by rw [unhide HNX]; exact unhide RR)
            clear RR
            go_roundg (b.length - (i + 1))
            case measure => have := unhide HLT2; omega
            case rel => exact ⟨i + 1, ov, by go_num, rfl, by have := unhide HLT2; omega, by omega, LN⟩
        · obtain rfl : i = b.length := by omega
          have hgl := goR_len o b a n b.length
          have HGL : Hid ((goR o b a n b.length).length ≤ 10000) := hide (by have := unhide HZB; omega)
          have HPR : Hid (propsR o b a n = goR o b a n b.length ++ puR o b a n a.length) := hide rfl
          generalize goR o b a n b.length = gl at *
          clear hlt2 hil hgl
          go_wp2_with (first | go_skip | ((with_reducible show wpList _ _ _ _ _ _); first | ((refine rd (by rfl) (ex_lenG 48 55 Tryd.underlying48 rfl rfl) ?_); simp only [Act.put, nzA, nzB, nzC])))
          obtain ⟨w3, hw3⟩ : ∃ w3, w3 = wr := ⟨_, rfl⟩
          subst hw3
          go_loopg [9, 11] a.length (fun gm s9 s11 wr => ∃ (i : Nat) (ov : Value), s11 = .int .i64 (i : Nat) ∧ s9 = ov ∧ i ≤ a.length ∧ a.length - i ≤ gm ∧ Hid (RW w wr ov (gl ++ puR o b a n i)))
          case atStart => exact ⟨0, ov, rfl, rfl, by omega, by omega, hide (by simpa [puR] using unhide RR)⟩
          case round =>
            clear RR
            obtain ⟨i, ov, rfl, hov, hil, hgm3, RR⟩ := hrel
            obtain rfl := hov.symm
            by_cases hlt3 : i < a.length
            · have dlt3 : decide ((i : Int) < (a.length : Int)) = true := decide_eq_true (by omega)
              have hw1 : IntKind.i64.wrap ((i : Int) + 1) = (i : Int) + 1 := by have := unhide HZA; rw [IntKind.wrap_i64]; omega
              obtain ⟨q, hq⟩ : ∃ q, a[i]? = some q := ⟨_, List.getElem?_eq_getElem hlt3⟩
              obtain ⟨hokq, ba, offa, hAA, hba, hrga⟩ := (unhide HA) i q hq
              have hpl := puR_len o b a n i
              have HXS : Hid ((gl ++ puR o b a n i).length ≤ 20000) := hide (by have := unhide HZA; have := unhide HGL; rw [List.length_append]; omega)
              have HLT3 := hide hlt3
              by_cases hni : n ≤ i
              · have hge : decide ((n : Int) ≤ (i : Int)) = true := decide_eq_true (by omega)
                have hnx := puR_put (o := o) (b := b) (n := n) hq (by simp [hni])
                have HNX : Hid (gl ++ puR o b a n (i + 1) = (gl ++ puR o b a n i) ++ [putL o q]) := hide (by rw [hnx, List.append_assoc])
                generalize hxs : gl ++ puR o b a n i = xs at *
                have HH := hide (And.intro hAA (And.intro hba (And.intro hrga (And.intro hlt3 hge))))
                clear hAA hba hrga hlt3 hge hnx hq hni hil hpl hokq hxs
                go_wp2_with (first | go_skip | ((with_reducible show wpList _ _ _ _ _ _); first | ((refine rd (by rfl) (ex_lenG 48 55 Tryd.underlying48 rfl rfl) ?_); simp only [Act.put, nzA, nzB, nzC])))
                obtain ⟨hAA, hba, hrga, hlt3, hge⟩ := unhide HH
                have hf0 : Fr w _ [] := (unhide RR).drew.2
                refine wp_region_held_drew (P := Tryd.prog) (S := fun Z => Fr w Z []) (by kernel_rfl) hf0 (fun hS0 => ?_)
                refine gsem 0 (some 68) (.int .i64 (i : Nat)) rfl (by kernel_rfl) (by kernel_rfl) (by kernel_rfl) (fun _ _ _ h => h) (by kernel_rfl) (by kernel_rfl) (fun _ _ => by kernel_rfl) hf0 ?_
                simp only [Act.put, nzA, nzB, nzC]
                refine gsem 1 (some 69) (.int .i64 (n : Nat)) rfl (by kernel_rfl) (by kernel_rfl) (by kernel_rfl) (fun _ _ _ h => h) (by kernel_rfl) (by kernel_rfl) (fun _ _ => by kernel_rfl) hf0 ?_
                simp only [Act.put, nzA, nzB, nzC]
                refine gsem 2 (some 70) (.bool true) rfl (by kernel_rfl) (by kernel_rfl) (by kernel_rfl) (fun _ _ _ h => h) (by kernel_rfl) (by kernel_rfl) (fun X hX => ex_geI rfl rfl rfl hge) hf0 ?_
                simp only [Act.put, nzA, nzB, nzC]
                refine gsem 3 (some 71) (.bool true) rfl (by kernel_rfl) (by kernel_rfl) (by kernel_rfl) (fun _ _ _ h => h) (by kernel_rfl) (by kernel_rfl) (fun _ _ => by kernel_rfl) hf0 ?_
                simp only [Act.put, nzA, nzB, nzC]
                refine gskipS 4 (some 72) rfl (by kernel_rfl) (by kernel_rfl) (by kernel_rfl) (fun _ _ _ h => h) (by kernel_rfl) (by kernel_rfl) hf0 ?_
                simp only [Act.put, nzA, nzB, nzC]
                refine gskipS 5 (some 73) rfl (by kernel_rfl) (by kernel_rfl) (by kernel_rfl) (fun _ _ _ h => h) (by kernel_rfl) (by kernel_rfl) hf0 ?_
                simp only [Act.put, nzA, nzB, nzC]
                refine gskipS 6 (some 74) rfl (by kernel_rfl) (by kernel_rfl) (by kernel_rfl) (fun _ _ _ h => h) (by kernel_rfl) (by kernel_rfl) hf0 ?_
                simp only [Act.put, nzA, nzB, nzC]
                refine gskipS 7 (some 75) rfl (by kernel_rfl) (by kernel_rfl) (by kernel_rfl) (fun _ _ _ h => h) (by kernel_rfl) (by kernel_rfl) hf0 ?_
                simp only [Act.put, nzA, nzB, nzC]
                refine gskipS 8 (some 76) rfl (by kernel_rfl) (by kernel_rfl) (by kernel_rfl) (fun _ _ _ h => h) (by kernel_rfl) (by kernel_rfl) hf0 ?_
                simp only [Act.put, nzA, nzB, nzC]
                refine gskipS 9 (some 77) rfl (by kernel_rfl) (by kernel_rfl) (by kernel_rfl) (fun _ _ _ h => h) (by kernel_rfl) (by kernel_rfl) hf0 ?_
                simp only [Act.put, nzA, nzB, nzC]
                refine gskipS 10 (some 78) rfl (by kernel_rfl) (by kernel_rfl) (by kernel_rfl) (fun _ _ _ h => h) (by kernel_rfl) (by kernel_rfl) hf0 ?_
                simp only [Act.put, nzA, nzB, nzC]
                refine gskipS 11 (some 79) rfl (by kernel_rfl) (by kernel_rfl) (by kernel_rfl) (fun _ _ _ h => h) (by kernel_rfl) (by kernel_rfl) hf0 ?_
                simp only [Act.put, nzA, nzB, nzC]
                refine gskipS 12 (some 80) rfl (by kernel_rfl) (by kernel_rfl) (by kernel_rfl) (fun _ _ _ h => h) (by kernel_rfl) (by kernel_rfl) hf0 ?_
                simp only [Act.put, nzA, nzB, nzC]
                refine gskipS 13 (some 81) rfl (by kernel_rfl) (by kernel_rfl) (by kernel_rfl) (fun _ _ _ h => h) (by kernel_rfl) (by kernel_rfl) hf0 ?_
                simp only [Act.put, nzA, nzB, nzC]
                refine gskipS 14 (some 82) rfl (by kernel_rfl) (by kernel_rfl) (by kernel_rfl) (fun _ _ _ h => h) (by kernel_rfl) (by kernel_rfl) hf0 ?_
                simp only [Act.put, nzA, nzB, nzC]
                refine gskipS 15 (some 83) rfl (by kernel_rfl) (by kernel_rfl) (by kernel_rfl) (fun _ _ _ h => h) (by kernel_rfl) (by kernel_rfl) hf0 ?_
                simp only [Act.put, nzA, nzB, nzC]
                refine gskipS 16 (some 84) rfl (by kernel_rfl) (by kernel_rfl) (by kernel_rfl) (fun _ _ _ h => h) (by kernel_rfl) (by kernel_rfl) hf0 ?_
                simp only [Act.put, nzA, nzB, nzC]
                refine gskipS 17 (some 85) rfl (by kernel_rfl) (by kernel_rfl) (by kernel_rfl) (fun _ _ _ h => h) (by kernel_rfl) (by kernel_rfl) hf0 ?_
                simp only [Act.put, nzA, nzB, nzC]
                refine gskipS 18 (some 86) rfl (by kernel_rfl) (by kernel_rfl) (by kernel_rfl) (fun _ _ _ h => h) (by kernel_rfl) (by kernel_rfl) hf0 ?_
                simp only [Act.put, nzA, nzB, nzC]
                refine gskipS 19 (some 87) rfl (by kernel_rfl) (by kernel_rfl) (by kernel_rfl) (fun _ _ _ h => h) (by kernel_rfl) (by kernel_rfl) hf0 ?_
                simp only [Act.put, nzA, nzB, nzC]
                refine gskipS 20 (some 88) rfl (by kernel_rfl) (by kernel_rfl) (by kernel_rfl) (fun _ _ _ h => h) (by kernel_rfl) (by kernel_rfl) hf0 ?_
                simp only [Act.put, nzA, nzB, nzC]
                refine gskipS 21 (some 89) rfl (by kernel_rfl) (by kernel_rfl) (by kernel_rfl) (fun _ _ _ h => h) (by kernel_rfl) (by kernel_rfl) hf0 ?_
                simp only [Act.put, nzA, nzB, nzC]
                refine gsem 22 (some 90) (.bool true) rfl (by kernel_rfl) (by kernel_rfl) (by kernel_rfl) (fun _ _ _ h => h) (by kernel_rfl) (by kernel_rfl) (fun _ _ => by kernel_rfl) hf0 ?_
                simp only [Act.put, nzA, nzB, nzC]
                refine wpAnyH_done (by kernel_rfl) ?_ _
                try simp only [Act.put, nzA, nzB, nzC]
                replace RR := hide (unhide RR).drew
                clear hf0 hS0 hge HH
                go_wp2_with fail
                have hr0 := (unhide RR).drew
                have hf0 : Fr w _ [] := hr0.2
                refine wp_region_held_drew (P := Tryd.prog) (S := fun Z => Fr w Z []) (by kernel_rfl) hf0 (fun hS0 => ?_)
                refine gsem 0 (some 91) (ov) rfl (by kernel_rfl) (by kernel_rfl) (by kernel_rfl) (fun _ _ _ h => h) (by kernel_rfl) (by kernel_rfl) (fun _ _ => by kernel_rfl) hf0 ?_
                simp only [Act.put, nzA, nzB, nzC]
                refine gsem 1 (some 92) (.int .i64 o) rfl (by kernel_rfl) (by kernel_rfl) (by kernel_rfl) (fun _ _ _ h => h) (by kernel_rfl) (by kernel_rfl) (fun _ _ => by kernel_rfl) hf0 ?_
                simp only [Act.put, nzA, nzB, nzC]
                refine gsem 2 (some 93) (.slice AA a.length ac) rfl (by kernel_rfl) (by kernel_rfl) (by kernel_rfl) (fun _ _ _ h => h) (by kernel_rfl) (by kernel_rfl) (fun _ _ => by kernel_rfl) hf0 ?_
                simp only [Act.put, nzA, nzB, nzC]
                refine gsem 3 (some 94) (.int .i64 (i : Nat)) rfl (by kernel_rfl) (by kernel_rfl) (by kernel_rfl) (fun _ _ _ h => h) (by kernel_rfl) (by kernel_rfl) (fun _ _ => by kernel_rfl) hf0 ?_
                simp only [Act.put, nzA, nzB, nzC]
                refine gsem 4 (some 95) (.pointer (some ⟨ba, offa + i * 20, none⟩)) rfl (by kernel_rfl) (by kernel_rfl) (by kernel_rfl) (fun _ _ _ h => h) (by kernel_rfl) (by kernel_rfl) (fun X hX => ex_indexA 48 20 i unPs idPs rfl rfl hAA rfl hlt3) hf0 ?_
                simp only [Act.put, nzA, nzB, nzC]
                refine gsem 5 (some 96) (.pointer (some ⟨ba, offa + i * 20, none⟩)) rfl (by kernel_rfl) (by kernel_rfl) (by kernel_rfl) (fun _ _ _ h => h) (by kernel_rfl) (by kernel_rfl) (fun _ _ => by kernel_rfl) hf0 ?_
                simp only [Act.put, nzA, nzB, nzC]
                refine gsem 6 (some 97) (.agg q.k.cs.toArray) rfl (by kernel_rfl) (by kernel_rfl) (by kernel_rfl) (fun _ _ _ h => h) (by kernel_rfl) (by kernel_rfl) (fun X hX => ex_loadR (vs := q.k.cs) 38 2 rwK szK rfl rfl (range_left (a := q.k.cs) (c := q.d.cs) (rangeAt_fr hrga hba hX)) rfl) hf0 ?_
                simp only [Act.put, nzA, nzB, nzC]
                refine gsem 7 (some 98) (.slice AA a.length ac) rfl (by kernel_rfl) (by kernel_rfl) (by kernel_rfl) (fun _ _ _ h => h) (by kernel_rfl) (by kernel_rfl) (fun _ _ => by kernel_rfl) hf0 ?_
                simp only [Act.put, nzA, nzB, nzC]
                refine gsem 8 (some 99) (.int .i64 (i : Nat)) rfl (by kernel_rfl) (by kernel_rfl) (by kernel_rfl) (fun _ _ _ h => h) (by kernel_rfl) (by kernel_rfl) (fun _ _ => by kernel_rfl) hf0 ?_
                simp only [Act.put, nzA, nzB, nzC]
                refine gsem 9 (some 100) (.pointer (some ⟨ba, offa + i * 20, none⟩)) rfl (by kernel_rfl) (by kernel_rfl) (by kernel_rfl) (fun _ _ _ h => h) (by kernel_rfl) (by kernel_rfl) (fun X hX => ex_indexA 48 20 i unPs idPs rfl rfl hAA rfl hlt3) hf0 ?_
                simp only [Act.put, nzA, nzB, nzC]
                refine gsem 10 (some 101) (.pointer (some ⟨ba, offa + i * 20 + 2, none⟩)) rfl (by kernel_rfl) (by kernel_rfl) (by kernel_rfl) (fun _ _ _ h => h) (by kernel_rfl) (by kernel_rfl) (fun _ _ => by kernel_rfl) hf0 ?_
                simp only [Act.put, nzA, nzB, nzC]
                refine gsem 11 (some 102) (.agg q.d.cs.toArray) rfl (by kernel_rfl) (by kernel_rfl) (by kernel_rfl) (fun _ _ _ h => h) (by kernel_rfl) (by kernel_rfl) (fun X hX => ex_loadR (vs := q.d.cs) 41 18 rwD szD rfl rfl (range_right (a := q.k.cs) (c := q.d.cs) (rangeAt_fr hrga hba hX)) rfl) hf0 ?_
                simp only [Act.put, nzA, nzB, nzC]
                refine gsem 12 (some 103) (.agg (DL.cs (putL o q)).toArray) rfl (by kernel_rfl) (by kernel_rfl) (by kernel_rfl) (fun _ _ _ h => h) (by kernel_rfl) (by kernel_rfl) (fun X hX => ex_bPutO o q rfl rfl rfl rfl rfl) hf0 ?_
                simp only [Act.put, nzA, nzB, nzC]
                refine wpAnyH_ready (rs := [13]) (by kernel_rfl) (by simp) (gval 13 (some 104) rfl (by kernel_rfl) (by kernel_rfl) (ex_buildS (cs := DL.cs (putL o q)) rfl rfl Tryd.underlying25 infL (by decide) rfl rfl (by decide)) (hr0.on ((Below.refl _ _).alloc (Nat.le_refl _) _)).2 ?_ AllReadyH.nil)
                simp only [Act.put, nzA, nzB, nzC]
                have hr1 := hr0.on ((Below.refl _ _).alloc (Nat.le_refl _) (Obj.cells (DL.cs (putL o q)).toArray 43))
                refine wpAnyH_ready (rs := [14]) (by kernel_rfl) (by simp) (gappF (base := w.heap.size) (size := 29) (bytes := 272) (k := xs.length) (m := 1) (news := DL.cs (putL o q)) (xs := flatL xs) (v := ov) 14 (some 105) rfl (by kernel_rfl) (by kernel_rfl) rfl rfl rfl Tryd.underlying25 infL rfl (by decide) hr1.1 (Holds.new _ (DL.cs (putL o q)) 43) rfl (dlcs_one _) (by have := unhide HXS; omega) (by decide) hr1.2.size (fun Z hZ => hr1.2.trans (Fr.grown hZ) (fun b hb => .inr (World.ownsRow.lt hr1.1 b (by simpa using hb)).1)) ?_ AllReadyH.nil)
                intro A7 c7 X7 hO7 hg7 hF7
                simp only [Act.put, nzA, nzB, nzC]
                have hr7 := hr1.grow1 hg7 hO7
                refine gsem 15 (some 9) (.slice A7 (xs.length + 1) c7) rfl (by kernel_rfl) (by kernel_rfl) (by kernel_rfl) (fun _ _ _ h => h) (by kernel_rfl) (by kernel_rfl) (fun _ _ => by kernel_rfl) hr7.2 ?_
                simp only [Act.put, nzA, nzB, nzC]
                refine wpAnyH_done (by kernel_rfl) ?_ _
                try simp only [Act.put, nzA, nzB, nzC]
                have LN : Hid (RW w X7 (.slice A7 (xs.length + 1) c7) (gl ++ puR o b a n (i + 1))) := hide (by rw [unhide HNX]; exact hr7)
                clear hr0 hf0 hr1 hr7 hO7 hg7 hF7 hS0 RR hAA hba hrga hlt3
                go_wp2
                go_roundg (a.length - (i + 1))
                case measure => have := unhide HLT3; omega
                case rel => exact ⟨i + 1, _, by go_num, rfl, by have := unhide HLT3; omega, by omega, LN⟩
              · have hge : decide ((n : Int) ≤ (i : Int)) = false := decide_eq_false (by omega)
                obtain ⟨m, e1, _⟩ := (unhide HK).all i (by omega)
                have hfo : fO b q.k = some m := by simpa [Pj, hq] using e1
                obtain ⟨p, hp, hpk⟩ := fO_get hfo
                have hmb : m < b.length := (List.getElem?_eq_some_iff.1 hp).1
                obtain ⟨hokp, bb, off, hBA, hb, hrg⟩ := (unhide HB) m p hp
                have hFB : ∀ Z, Fr w Z [] → Calls Tryd.prog 19 #[.slice BA b.length bc, .agg q.k.cs.toArray] Z fun e X' => e = .returned (.int .i64 (m : Nat)) ∧ Below Z.heap.size Z X' := fun Z hZ => by have := find_any BA bc b q.k Z ((unhide HB).fr hZ) (by have := unhide HZB; omega); rw [fI_fO, hfo, kagg] at this; exact this
                have hED := refEqDesc_any q.d p.d hokq.1 hokp.1
                have hea : eqAt b q = eqD q.d p.d := by unfold eqAt; rw [hfo]; simp only [hp]
                simp only [dagg] at hED
                cases hev : eqD q.d p.d
                · rw [hev] at hED
                  have hnx := puR_put (o := o) (b := b) (n := n) hq (by rw [hea, hev]; simp)
                  have HNX : Hid (gl ++ puR o b a n (i + 1) = (gl ++ puR o b a n i) ++ [putL o q]) := hide (by rw [hnx, List.append_assoc])
                  generalize hxs : gl ++ puR o b a n i = xs at *
                  clear hnx hq hni hil hpl hokq hokp hxs hea hev e1 hfo hp hpk
                  have HH := hide (And.intro hAA (And.intro hba (And.intro hrga (And.intro hlt3 (And.intro hge (And.intro hBA (And.intro hb (And.intro hrg (And.intro hmb (And.intro hFB hED))))))))))
                  clear hAA hba hrga hlt3 hge hBA hb hrg hmb hFB hED
                  go_wp2_with (first | go_skip | ((with_reducible show wpList _ _ _ _ _ _); first | ((refine rd (by rfl) (ex_lenG 48 55 Tryd.underlying48 rfl rfl) ?_); simp only [Act.put, nzA, nzB, nzC])))
                  obtain ⟨hAA, hba, hrga, hlt3, hge, hBA, hb, hrg, hmb, hFB, hED⟩ := unhide HH
                  have hf0 : Fr w _ [] := (unhide RR).drew.2
                  refine wp_region_held_drew (P := Tryd.prog) (S := fun Z => Fr w Z []) (by kernel_rfl) hf0 (fun hS0 => ?_)
                  refine gsem 0 (some 68) (.int .i64 (i : Nat)) rfl (by kernel_rfl) (by kernel_rfl) (by kernel_rfl) (fun _ _ _ h => h) (by kernel_rfl) (by kernel_rfl) (fun _ _ => by kernel_rfl) hf0 ?_
                  simp only [Act.put, nzA, nzB, nzC]
                  refine gsem 1 (some 69) (.int .i64 (n : Nat)) rfl (by kernel_rfl) (by kernel_rfl) (by kernel_rfl) (fun _ _ _ h => h) (by kernel_rfl) (by kernel_rfl) (fun _ _ => by kernel_rfl) hf0 ?_
                  simp only [Act.put, nzA, nzB, nzC]
                  refine gsem 2 (some 70) (.bool false) rfl (by kernel_rfl) (by kernel_rfl) (by kernel_rfl) (fun _ _ _ h => h) (by kernel_rfl) (by kernel_rfl) (fun X hX => ex_geI rfl rfl rfl hge) hf0 ?_
                  simp only [Act.put, nzA, nzB, nzC]
                  refine gsem 3 (some 71) (.bool false) rfl (by kernel_rfl) (by kernel_rfl) (by kernel_rfl) (fun _ _ _ h => h) (by kernel_rfl) (by kernel_rfl) (fun _ _ => by kernel_rfl) hf0 ?_
                  simp only [Act.put, nzA, nzB, nzC]
                  refine gsem 4 (some 72) (.slice AA a.length ac) rfl (by kernel_rfl) (by kernel_rfl) (by kernel_rfl) (fun _ _ _ h => h) (by kernel_rfl) (by kernel_rfl) (fun _ _ => by kernel_rfl) hf0 ?_
                  simp only [Act.put, nzA, nzB, nzC]
                  refine gsem 5 (some 73) (.int .i64 (i : Nat)) rfl (by kernel_rfl) (by kernel_rfl) (by kernel_rfl) (fun _ _ _ h => h) (by kernel_rfl) (by kernel_rfl) (fun _ _ => by kernel_rfl) hf0 ?_
                  simp only [Act.put, nzA, nzB, nzC]
                  refine gsem 6 (some 74) (.pointer (some ⟨ba, offa + i * 20, none⟩)) rfl (by kernel_rfl) (by kernel_rfl) (by kernel_rfl) (fun _ _ _ h => h) (by kernel_rfl) (by kernel_rfl) (fun X hX => ex_indexA 48 20 i unPs idPs rfl rfl hAA rfl hlt3) hf0 ?_
                  simp only [Act.put, nzA, nzB, nzC]
                  refine gsem 7 (some 75) (.pointer (some ⟨ba, offa + i * 20 + 2, none⟩)) rfl (by kernel_rfl) (by kernel_rfl) (by kernel_rfl) (fun _ _ _ h => h) (by kernel_rfl) (by kernel_rfl) (fun _ _ => by kernel_rfl) hf0 ?_
                  simp only [Act.put, nzA, nzB, nzC]
                  refine gsem 8 (some 76) (.agg q.d.cs.toArray) rfl (by kernel_rfl) (by kernel_rfl) (by kernel_rfl) (fun _ _ _ h => h) (by kernel_rfl) (by kernel_rfl) (fun X hX => ex_loadR (vs := q.d.cs) 41 18 rwD szD rfl rfl (range_right (a := q.k.cs) (c := q.d.cs) (rangeAt_fr hrga hba hX)) rfl) hf0 ?_
                  simp only [Act.put, nzA, nzB, nzC]
                  refine gsem 9 (some 77) (.slice BA b.length bc) rfl (by kernel_rfl) (by kernel_rfl) (by kernel_rfl) (fun _ _ _ h => h) (by kernel_rfl) (by kernel_rfl) (fun _ _ => by kernel_rfl) hf0 ?_
                  simp only [Act.put, nzA, nzB, nzC]
                  refine gsem 10 (some 78) (.slice BA b.length bc) rfl (by kernel_rfl) (by kernel_rfl) (by kernel_rfl) (fun _ _ _ h => h) (by kernel_rfl) (by kernel_rfl) (fun _ _ => by kernel_rfl) hf0 ?_
                  simp only [Act.put, nzA, nzB, nzC]
                  refine gsem 11 (some 79) (.slice AA a.length ac) rfl (by kernel_rfl) (by kernel_rfl) (by kernel_rfl) (fun _ _ _ h => h) (by kernel_rfl) (by kernel_rfl) (fun _ _ => by kernel_rfl) hf0 ?_
                  simp only [Act.put, nzA, nzB, nzC]
                  refine gsem 12 (some 80) (.int .i64 (i : Nat)) rfl (by kernel_rfl) (by kernel_rfl) (by kernel_rfl) (fun _ _ _ h => h) (by kernel_rfl) (by kernel_rfl) (fun _ _ => by kernel_rfl) hf0 ?_
                  simp only [Act.put, nzA, nzB, nzC]
                  refine gsem 13 (some 81) (.pointer (some ⟨ba, offa + i * 20, none⟩)) rfl (by kernel_rfl) (by kernel_rfl) (by kernel_rfl) (fun _ _ _ h => h) (by kernel_rfl) (by kernel_rfl) (fun X hX => ex_indexA 48 20 i unPs idPs rfl rfl hAA rfl hlt3) hf0 ?_
                  simp only [Act.put, nzA, nzB, nzC]
                  refine gsem 14 (some 82) (.pointer (some ⟨ba, offa + i * 20, none⟩)) rfl (by kernel_rfl) (by kernel_rfl) (by kernel_rfl) (fun _ _ _ h => h) (by kernel_rfl) (by kernel_rfl) (fun _ _ => by kernel_rfl) hf0 ?_
                  simp only [Act.put, nzA, nzB, nzC]
                  refine gsem 15 (some 83) (.agg q.k.cs.toArray) rfl (by kernel_rfl) (by kernel_rfl) (by kernel_rfl) (fun _ _ _ h => h) (by kernel_rfl) (by kernel_rfl) (fun X hX => ex_loadR (vs := q.k.cs) 38 2 rwK szK rfl rfl (range_left (a := q.k.cs) (c := q.d.cs) (rangeAt_fr hrga hba hX)) rfl) hf0 ?_
                  simp only [Act.put, nzA, nzB, nzC]
                  refine wpAnyH_ready (rs := [16]) (by kernel_rfl) (by simp) (gcallR 16 (some 84) rfl (by kernel_rfl) (by kernel_rfl) (by kernel_rfl) (hFB _ hf0) ?_ AllReadyH.nil)
                  rintro e Y6 ⟨rfl, hY6⟩
                  have hf6 := hf0.on hY6
                  refine ⟨_, rfl, hf6, ?_⟩
                  simp only [Act.put, nzA, nzB, nzC]
                  refine gsem 17 (some 85) (.pointer (some ⟨bb, off + m * 20, none⟩)) rfl (by kernel_rfl) (by kernel_rfl) (by kernel_rfl) (fun _ _ _ h => h) (by kernel_rfl) (by kernel_rfl) (fun X hX => ex_indexA 48 20 m unPs idPs rfl rfl hBA rfl hmb) hf6 ?_
                  simp only [Act.put, nzA, nzB, nzC]
                  refine gsem 18 (some 86) (.pointer (some ⟨bb, off + m * 20 + 2, none⟩)) rfl (by kernel_rfl) (by kernel_rfl) (by kernel_rfl) (fun _ _ _ h => h) (by kernel_rfl) (by kernel_rfl) (fun _ _ => by kernel_rfl) hf6 ?_
                  simp only [Act.put, nzA, nzB, nzC]
                  refine gsem 19 (some 87) (.agg p.d.cs.toArray) rfl (by kernel_rfl) (by kernel_rfl) (by kernel_rfl) (fun _ _ _ h => h) (by kernel_rfl) (by kernel_rfl) (fun X hX => ex_loadR (vs := p.d.cs) 41 18 rwD szD rfl rfl (range_right (a := p.k.cs) (c := p.d.cs) (rangeAt_fr hrg hb hX)) rfl) hf6 ?_
                  simp only [Act.put, nzA, nzB, nzC]
                  refine wpAnyH_ready (rs := [20]) (by kernel_rfl) (by simp) (gcallR 20 (some 88) rfl (by kernel_rfl) (by kernel_rfl) (by kernel_rfl) (hED _) ?_ AllReadyH.nil)
                  rintro e Y7 ⟨rfl, hY7⟩
                  have hf7 := hf6.on hY7
                  refine ⟨_, rfl, hf7, ?_⟩
                  simp only [Act.put, nzA, nzB, nzC]
                  refine gsem 21 (some 89) (.bool true) rfl (by kernel_rfl) (by kernel_rfl) (by kernel_rfl) (fun _ _ _ h => h) (by kernel_rfl) (by kernel_rfl) (fun _ _ => by kernel_rfl) hf7 ?_
                  simp only [Act.put, nzA, nzB, nzC]
                  refine gsem 22 (some 90) (.bool true) rfl (by kernel_rfl) (by kernel_rfl) (by kernel_rfl) (fun _ _ _ h => h) (by kernel_rfl) (by kernel_rfl) (fun _ _ => by kernel_rfl) hf7 ?_
                  simp only [Act.put, nzA, nzB, nzC]
                  refine wpAnyH_done (by kernel_rfl) ?_ _
                  try simp only [Act.put, nzA, nzB, nzC]
                  replace RR := hide (((unhide RR).drew.on hY6).on hY7)
                  clear hf0 hf6 hf7 hY6 hY7 hS0 hge HH hBA hb hrg hmb hFB hED
                  go_wp2_with fail
                  have hr0 := (unhide RR).drew
                  have hf0 : Fr w _ [] := hr0.2
                  refine wp_region_held_drew (P := Tryd.prog) (S := fun Z => Fr w Z []) (by kernel_rfl) hf0 (fun hS0 => ?_)
                  refine gsem 0 (some 91) (ov) rfl (by kernel_rfl) (by kernel_rfl) (by kernel_rfl) (fun _ _ _ h => h) (by kernel_rfl) (by kernel_rfl) (fun _ _ => by kernel_rfl) hf0 ?_
                  simp only [Act.put, nzA, nzB, nzC]
                  refine gsem 1 (some 92) (.int .i64 o) rfl (by kernel_rfl) (by kernel_rfl) (by kernel_rfl) (fun _ _ _ h => h) (by kernel_rfl) (by kernel_rfl) (fun _ _ => by kernel_rfl) hf0 ?_
                  simp only [Act.put, nzA, nzB, nzC]
                  refine gsem 2 (some 93) (.slice AA a.length ac) rfl (by kernel_rfl) (by kernel_rfl) (by kernel_rfl) (fun _ _ _ h => h) (by kernel_rfl) (by kernel_rfl) (fun _ _ => by kernel_rfl) hf0 ?_
                  simp only [Act.put, nzA, nzB, nzC]
                  refine gsem 3 (some 94) (.int .i64 (i : Nat)) rfl (by kernel_rfl) (by kernel_rfl) (by kernel_rfl) (fun _ _ _ h => h) (by kernel_rfl) (by kernel_rfl) (fun _ _ => by kernel_rfl) hf0 ?_
                  simp only [Act.put, nzA, nzB, nzC]
                  refine gsem 4 (some 95) (.pointer (some ⟨ba, offa + i * 20, none⟩)) rfl (by kernel_rfl) (by kernel_rfl) (by kernel_rfl) (fun _ _ _ h => h) (by kernel_rfl) (by kernel_rfl) (fun X hX => ex_indexA 48 20 i unPs idPs rfl rfl hAA rfl hlt3) hf0 ?_
                  simp only [Act.put, nzA, nzB, nzC]
                  refine gsem 5 (some 96) (.pointer (some ⟨ba, offa + i * 20, none⟩)) rfl (by kernel_rfl) (by kernel_rfl) (by kernel_rfl) (fun _ _ _ h => h) (by kernel_rfl) (by kernel_rfl) (fun _ _ => by kernel_rfl) hf0 ?_
                  simp only [Act.put, nzA, nzB, nzC]
                  refine gsem 6 (some 97) (.agg q.k.cs.toArray) rfl (by kernel_rfl) (by kernel_rfl) (by kernel_rfl) (fun _ _ _ h => h) (by kernel_rfl) (by kernel_rfl) (fun X hX => ex_loadR (vs := q.k.cs) 38 2 rwK szK rfl rfl (range_left (a := q.k.cs) (c := q.d.cs) (rangeAt_fr hrga hba hX)) rfl) hf0 ?_
                  simp only [Act.put, nzA, nzB, nzC]
                  refine gsem 7 (some 98) (.slice AA a.length ac) rfl (by kernel_rfl) (by kernel_rfl) (by kernel_rfl) (fun _ _ _ h => h) (by kernel_rfl) (by kernel_rfl) (fun _ _ => by kernel_rfl) hf0 ?_
                  simp only [Act.put, nzA, nzB, nzC]
                  refine gsem 8 (some 99) (.int .i64 (i : Nat)) rfl (by kernel_rfl) (by kernel_rfl) (by kernel_rfl) (fun _ _ _ h => h) (by kernel_rfl) (by kernel_rfl) (fun _ _ => by kernel_rfl) hf0 ?_
                  simp only [Act.put, nzA, nzB, nzC]
                  refine gsem 9 (some 100) (.pointer (some ⟨ba, offa + i * 20, none⟩)) rfl (by kernel_rfl) (by kernel_rfl) (by kernel_rfl) (fun _ _ _ h => h) (by kernel_rfl) (by kernel_rfl) (fun X hX => ex_indexA 48 20 i unPs idPs rfl rfl hAA rfl hlt3) hf0 ?_
                  simp only [Act.put, nzA, nzB, nzC]
                  refine gsem 10 (some 101) (.pointer (some ⟨ba, offa + i * 20 + 2, none⟩)) rfl (by kernel_rfl) (by kernel_rfl) (by kernel_rfl) (fun _ _ _ h => h) (by kernel_rfl) (by kernel_rfl) (fun _ _ => by kernel_rfl) hf0 ?_
                  simp only [Act.put, nzA, nzB, nzC]
                  refine gsem 11 (some 102) (.agg q.d.cs.toArray) rfl (by kernel_rfl) (by kernel_rfl) (by kernel_rfl) (fun _ _ _ h => h) (by kernel_rfl) (by kernel_rfl) (fun X hX => ex_loadR (vs := q.d.cs) 41 18 rwD szD rfl rfl (range_right (a := q.k.cs) (c := q.d.cs) (rangeAt_fr hrga hba hX)) rfl) hf0 ?_
                  simp only [Act.put, nzA, nzB, nzC]
                  refine gsem 12 (some 103) (.agg (DL.cs (putL o q)).toArray) rfl (by kernel_rfl) (by kernel_rfl) (by kernel_rfl) (fun _ _ _ h => h) (by kernel_rfl) (by kernel_rfl) (fun X hX => ex_bPutO o q rfl rfl rfl rfl rfl) hf0 ?_
                  simp only [Act.put, nzA, nzB, nzC]
                  refine wpAnyH_ready (rs := [13]) (by kernel_rfl) (by simp) (gval 13 (some 104) rfl (by kernel_rfl) (by kernel_rfl) (ex_buildS (cs := DL.cs (putL o q)) rfl rfl Tryd.underlying25 infL (by decide) rfl rfl (by decide)) (hr0.on ((Below.refl _ _).alloc (Nat.le_refl _) _)).2 ?_ AllReadyH.nil)
                  simp only [Act.put, nzA, nzB, nzC]
                  have hr1 := hr0.on ((Below.refl _ _).alloc (Nat.le_refl _) (Obj.cells (DL.cs (putL o q)).toArray 43))
                  refine wpAnyH_ready (rs := [14]) (by kernel_rfl) (by simp) (gappF (base := w.heap.size) (size := 29) (bytes := 272) (k := xs.length) (m := 1) (news := DL.cs (putL o q)) (xs := flatL xs) (v := ov) 14 (some 105) rfl (by kernel_rfl) (by kernel_rfl) rfl rfl rfl Tryd.underlying25 infL rfl (by decide) hr1.1 (Holds.new _ (DL.cs (putL o q)) 43) rfl (dlcs_one _) (by have := unhide HXS; omega) (by decide) hr1.2.size (fun Z hZ => hr1.2.trans (Fr.grown hZ) (fun b hb => .inr (World.ownsRow.lt hr1.1 b (by simpa using hb)).1)) ?_ AllReadyH.nil)
                  intro A7 c7 X7 hO7 hg7 hF7
                  simp only [Act.put, nzA, nzB, nzC]
                  have hr7 := hr1.grow1 hg7 hO7
                  refine gsem 15 (some 9) (.slice A7 (xs.length + 1) c7) rfl (by kernel_rfl) (by kernel_rfl) (by kernel_rfl) (fun _ _ _ h => h) (by kernel_rfl) (by kernel_rfl) (fun _ _ => by kernel_rfl) hr7.2 ?_
                  simp only [Act.put, nzA, nzB, nzC]
                  refine wpAnyH_done (by kernel_rfl) ?_ _
                  try simp only [Act.put, nzA, nzB, nzC]
                  have LN : Hid (RW w X7 (.slice A7 (xs.length + 1) c7) (gl ++ puR o b a n (i + 1))) := hide (by rw [unhide HNX]; exact hr7)
                  clear hr0 hf0 hr1 hr7 hO7 hg7 hF7 hS0 RR hAA hba hrga hlt3
                  go_wp2
                  go_roundg (a.length - (i + 1))
                  case measure => have := unhide HLT3; omega
                  case rel => exact ⟨i + 1, _, by go_num, rfl, by have := unhide HLT3; omega, by omega, LN⟩
                · rw [hev] at hED
                  have hnx := puR_not (o := o) (b := b) (n := n) hq (by rw [hea, hev]; simp [hni])
                  have HNX : Hid (gl ++ puR o b a n (i + 1) = gl ++ puR o b a n i) := hide (by rw [hnx])
                  generalize hxs : gl ++ puR o b a n i = xs at *
                  clear hnx hq hni hil hpl hokq hokp hxs hea hev e1 hfo hp hpk
                  have HH := hide (And.intro hAA (And.intro hba (And.intro hrga (And.intro hlt3 (And.intro hge (And.intro hBA (And.intro hb (And.intro hrg (And.intro hmb (And.intro hFB hED))))))))))
                  clear hAA hba hrga hlt3 hge hBA hb hrg hmb hFB hED
                  go_wp2_with (first | go_skip | ((with_reducible show wpList _ _ _ _ _ _); first | ((refine rd (by rfl) (ex_lenG 48 55 Tryd.underlying48 rfl rfl) ?_); simp only [Act.put, nzA, nzB, nzC])))
                  obtain ⟨hAA, hba, hrga, hlt3, hge, hBA, hb, hrg, hmb, hFB, hED⟩ := unhide HH
                  have hf0 : Fr w _ [] := (unhide RR).drew.2
                  refine wp_region_held_drew (P := Tryd.prog) (S := fun Z => Fr w Z []) (by kernel_rfl) hf0 (fun hS0 => ?_)
                  refine gsem 0 (some 68) (.int .i64 (i : Nat)) rfl (by kernel_rfl) (by kernel_rfl) (by kernel_rfl) (fun _ _ _ h => h) (by kernel_rfl) (by kernel_rfl) (fun _ _ => by kernel_rfl) hf0 ?_
                  simp only [Act.put, nzA, nzB, nzC]
                  refine gsem 1 (some 69) (.int .i64 (n : Nat)) rfl (by kernel_rfl) (by kernel_rfl) (by kernel_rfl) (fun _ _ _ h => h) (by kernel_rfl) (by kernel_rfl) (fun _ _ => by kernel_rfl) hf0 ?_
                  simp only [Act.put, nzA, nzB, nzC]
                  refine gsem 2 (some 70) (.bool false) rfl (by kernel_rfl) (by kernel_rfl) (by kernel_rfl) (fun _ _ _ h => h) (by kernel_rfl) (by kernel_rfl) (fun X hX => ex_geI rfl rfl rfl hge) hf0 ?_
                  simp only [Act.put, nzA, nzB, nzC]
                  refine gsem 3 (some 71) (.bool false) rfl (by kernel_rfl) (by kernel_rfl) (by kernel_rfl) (fun _ _ _ h => h) (by kernel_rfl) (by kernel_rfl) (fun _ _ => by kernel_rfl) hf0 ?_
                  simp only [Act.put, nzA, nzB, nzC]
                  refine gsem 4 (some 72) (.slice AA a.length ac) rfl (by kernel_rfl) (by kernel_rfl) (by kernel_rfl) (fun _ _ _ h => h) (by kernel_rfl) (by kernel_rfl) (fun _ _ => by kernel_rfl) hf0 ?_
                  simp only [Act.put, nzA, nzB, nzC]
                  refine gsem 5 (some 73) (.int .i64 (i : Nat)) rfl (by kernel_rfl) (by kernel_rfl) (by kernel_rfl) (fun _ _ _ h => h) (by kernel_rfl) (by kernel_rfl) (fun _ _ => by kernel_rfl) hf0 ?_
                  simp only [Act.put, nzA, nzB, nzC]
                  refine gsem 6 (some 74) (.pointer (some ⟨ba, offa + i * 20, none⟩)) rfl (by kernel_rfl) (by kernel_rfl) (by kernel_rfl) (fun _ _ _ h => h) (by kernel_rfl) (by kernel_rfl) (fun X hX => ex_indexA 48 20 i unPs idPs rfl rfl hAA rfl hlt3) hf0 ?_
                  simp only [Act.put, nzA, nzB, nzC]
                  refine gsem 7 (some 75) (.pointer (some ⟨ba, offa + i * 20 + 2, none⟩)) rfl (by kernel_rfl) (by kernel_rfl) (by kernel_rfl) (fun _ _ _ h => h) (by kernel_rfl) (by kernel_rfl) (fun _ _ => by kernel_rfl) hf0 ?_
                  simp only [Act.put, nzA, nzB, nzC]
                  refine gsem 8 (some 76) (.agg q.d.cs.toArray) rfl (by kernel_rfl) (by kernel_rfl) (by kernel_rfl) (fun _ _ _ h => h) (by kernel_rfl) (by kernel_rfl) (fun X hX => ex_loadR (vs := q.d.cs) 41 18 rwD szD rfl rfl (range_right (a := q.k.cs) (c := q.d.cs) (rangeAt_fr hrga hba hX)) rfl) hf0 ?_
                  simp only [Act.put, nzA, nzB, nzC]
                  refine gsem 9 (some 77) (.slice BA b.length bc) rfl (by kernel_rfl) (by kernel_rfl) (by kernel_rfl) (fun _ _ _ h => h) (by kernel_rfl) (by kernel_rfl) (fun _ _ => by kernel_rfl) hf0 ?_
                  simp only [Act.put, nzA, nzB, nzC]
                  refine gsem 10 (some 78) (.slice BA b.length bc) rfl (by kernel_rfl) (by kernel_rfl) (by kernel_rfl) (fun _ _ _ h => h) (by kernel_rfl) (by kernel_rfl) (fun _ _ => by kernel_rfl) hf0 ?_
                  simp only [Act.put, nzA, nzB, nzC]
                  refine gsem 11 (some 79) (.slice AA a.length ac) rfl (by kernel_rfl) (by kernel_rfl) (by kernel_rfl) (fun _ _ _ h => h) (by kernel_rfl) (by kernel_rfl) (fun _ _ => by kernel_rfl) hf0 ?_
                  simp only [Act.put, nzA, nzB, nzC]
                  refine gsem 12 (some 80) (.int .i64 (i : Nat)) rfl (by kernel_rfl) (by kernel_rfl) (by kernel_rfl) (fun _ _ _ h => h) (by kernel_rfl) (by kernel_rfl) (fun _ _ => by kernel_rfl) hf0 ?_
                  simp only [Act.put, nzA, nzB, nzC]
                  refine gsem 13 (some 81) (.pointer (some ⟨ba, offa + i * 20, none⟩)) rfl (by kernel_rfl) (by kernel_rfl) (by kernel_rfl) (fun _ _ _ h => h) (by kernel_rfl) (by kernel_rfl) (fun X hX => ex_indexA 48 20 i unPs idPs rfl rfl hAA rfl hlt3) hf0 ?_
                  simp only [Act.put, nzA, nzB, nzC]
                  refine gsem 14 (some 82) (.pointer (some ⟨ba, offa + i * 20, none⟩)) rfl (by kernel_rfl) (by kernel_rfl) (by kernel_rfl) (fun _ _ _ h => h) (by kernel_rfl) (by kernel_rfl) (fun _ _ => by kernel_rfl) hf0 ?_
                  simp only [Act.put, nzA, nzB, nzC]
                  refine gsem 15 (some 83) (.agg q.k.cs.toArray) rfl (by kernel_rfl) (by kernel_rfl) (by kernel_rfl) (fun _ _ _ h => h) (by kernel_rfl) (by kernel_rfl) (fun X hX => ex_loadR (vs := q.k.cs) 38 2 rwK szK rfl rfl (range_left (a := q.k.cs) (c := q.d.cs) (rangeAt_fr hrga hba hX)) rfl) hf0 ?_
                  simp only [Act.put, nzA, nzB, nzC]
                  refine wpAnyH_ready (rs := [16]) (by kernel_rfl) (by simp) (gcallR 16 (some 84) rfl (by kernel_rfl) (by kernel_rfl) (by kernel_rfl) (hFB _ hf0) ?_ AllReadyH.nil)
                  rintro e Y6 ⟨rfl, hY6⟩
                  have hf6 := hf0.on hY6
                  refine ⟨_, rfl, hf6, ?_⟩
                  simp only [Act.put, nzA, nzB, nzC]
                  refine gsem 17 (some 85) (.pointer (some ⟨bb, off + m * 20, none⟩)) rfl (by kernel_rfl) (by kernel_rfl) (by kernel_rfl) (fun _ _ _ h => h) (by kernel_rfl) (by kernel_rfl) (fun X hX => ex_indexA 48 20 m unPs idPs rfl rfl hBA rfl hmb) hf6 ?_
                  simp only [Act.put, nzA, nzB, nzC]
                  refine gsem 18 (some 86) (.pointer (some ⟨bb, off + m * 20 + 2, none⟩)) rfl (by kernel_rfl) (by kernel_rfl) (by kernel_rfl) (fun _ _ _ h => h) (by kernel_rfl) (by kernel_rfl) (fun _ _ => by kernel_rfl) hf6 ?_
                  simp only [Act.put, nzA, nzB, nzC]
                  refine gsem 19 (some 87) (.agg p.d.cs.toArray) rfl (by kernel_rfl) (by kernel_rfl) (by kernel_rfl) (fun _ _ _ h => h) (by kernel_rfl) (by kernel_rfl) (fun X hX => ex_loadR (vs := p.d.cs) 41 18 rwD szD rfl rfl (range_right (a := p.k.cs) (c := p.d.cs) (rangeAt_fr hrg hb hX)) rfl) hf6 ?_
                  simp only [Act.put, nzA, nzB, nzC]
                  refine wpAnyH_ready (rs := [20]) (by kernel_rfl) (by simp) (gcallR 20 (some 88) rfl (by kernel_rfl) (by kernel_rfl) (by kernel_rfl) (hED _) ?_ AllReadyH.nil)
                  rintro e Y7 ⟨rfl, hY7⟩
                  have hf7 := hf6.on hY7
                  refine ⟨_, rfl, hf7, ?_⟩
                  simp only [Act.put, nzA, nzB, nzC]
                  refine gsem 21 (some 89) (.bool false) rfl (by kernel_rfl) (by kernel_rfl) (by kernel_rfl) (fun _ _ _ h => h) (by kernel_rfl) (by kernel_rfl) (fun _ _ => by kernel_rfl) hf7 ?_
                  simp only [Act.put, nzA, nzB, nzC]
                  refine gsem 22 (some 90) (.bool false) rfl (by kernel_rfl) (by kernel_rfl) (by kernel_rfl) (fun _ _ _ h => h) (by kernel_rfl) (by kernel_rfl) (fun _ _ => by kernel_rfl) hf7 ?_
                  simp only [Act.put, nzA, nzB, nzC]
                  refine wpAnyH_done (by kernel_rfl) ?_ _
                  try simp only [Act.put, nzA, nzB, nzC]
                  replace RR := hide (((unhide RR).drew.on hY6).on hY7)
                  clear hf0 hf6 hf7 hY6 hY7 hS0 hge HH hBA hb hrg hmb hFB hED
                  clear hAA hba hrga hlt3
                  go_wp2
                  have LN : Hid (RW w _ ov (gl ++ puR o b a n (i + 1))) := hide (by rw [unhide HNX]; exact unhide RR)
                  clear RR
                  go_roundg (a.length - (i + 1))
                  case measure => have := unhide HLT3; omega
                  case rel => exact ⟨i + 1, ov, by go_num, rfl, by have := unhide HLT3; omega, by omega, LN⟩
            · obtain rfl : i = a.length := by omega
              clear hlt3 hil
              go_wp2_with (first | go_skip | ((with_reducible show wpList _ _ _ _ _ _); first | ((refine rd (by rfl) (ex_lenG 48 55 Tryd.underlying48 rfl rfl) ?_); simp only [Act.put, nzA, nzB, nzC])))
              go_ret
              exact ⟨ov, n, at_, rfl, unhide HK, unhide HST, by rw [unhide HPR]; exact unhide RR⟩
end Go.Proofs.YtcflglloopgieaaDoor
