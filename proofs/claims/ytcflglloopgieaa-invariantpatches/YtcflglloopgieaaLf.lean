import Derived.Test.YtcflglloopgieaaLe
namespace Go.Proofs.Ytcflglloopgieaa
open Go Go.Proofs Go.Maps Go.RowKit FM
set_option linter.unusedSimpArgs false
set_option linter.unusedVariables false
set_option maxHeartbeats 1000000

def bsAll (L : List Ob) : List Nat := L.flatMap Ob.bs
theorem Sy.open {w X : World} {L : List Ob} (h : Sy w X [] L) : Sy X X (bsAll L) L :=
  ⟨Fr.refl _ _, h.ok, h.ho, fun o ho b hb => .inl (List.mem_flatMap.2 ⟨o, ho, hb⟩), h.dis⟩
def nineP : PR := ⟨⟨⟨#[]⟩, -9⟩, zeroD⟩
def eightP : PR := ⟨⟨⟨#[]⟩, -8⟩, zeroD⟩
theorem ex_bKs {o : Oper} {a : Act} {w : World} {x : Operand} (n : Int) (ho : o.op = .build 30 #[(1, x)]) (hx : a.eval x = .int .i64 n) : (execOp a.eval o).run Try.prog w = .ok (.value (.agg (KK.cs ⟨⟨#[]⟩, n⟩).toArray)) w := by
  have e : (Instr.build 30 #[(1, .int .i64 n)]).run Try.prog w = .ok (.agg (KK.cs ⟨⟨#[]⟩, n⟩).toArray) w := by kernel_rfl
  unfold execOp
  simp only [ho, List.map_toArray, List.map_cons, List.map_nil, hx]
  simp [e]
theorem ex_bPs {o : Oper} {a : Act} {w : World} {x : Operand} (n : Int) (ho : o.op = .build 56 #[(0, x)]) (hx : a.eval x = .agg (KK.cs ⟨⟨#[]⟩, n⟩).toArray) : (execOp a.eval o).run Try.prog w = .ok (.value (.agg (PR.cs ⟨⟨⟨#[]⟩, n⟩, zeroD⟩).toArray)) w := by
  have e : (Instr.build 56 #[(0, .agg (KK.cs ⟨⟨#[]⟩, n⟩).toArray)]).run Try.prog w = .ok (.agg (PR.cs ⟨⟨⟨#[]⟩, n⟩, zeroD⟩).toArray) w := by kernel_rfl
  unfold execOp
  simp only [ho, List.map_toArray, List.map_cons, List.map_nil, hx]
  simp [e]
/-- A store into a row, whatever it holds. -/
theorem stA {ops : Array Oper} {rest : List Oper} {Q : Exit → Act → World → Prop} {w w0 : World} {a : Act} {o : Oper} {E : List Nat} {L : List Ob} {base ety k g c n p : Nat} {xs vs : List Value} {v : Value} {x y : Operand} (i : Nat) (ty : TypeId) (hw : Region.wanted o (yielded ops a.tmps) = true) (ho : o.op = .store ty x y) (hx : a.eval x = .pointer (some ⟨g, p, none⟩)) (hy : a.eval y = v)
    (hv : v.cells.toList = vs) (h1 : ∀ u ∈ vs, u.oneCell' = true) (hi : (Try.prog.info? ty).map (·.size) = some vs.length) (hL : Sy w0 w E L) (hg : L[i]? = some (rowO base ety k (.slice (some ⟨g, 0, none⟩) n c) n xs)) (hp : p + vs.length ≤ xs.length)
    (h : ∀ X, Sy w0 X E (L.set i (rowO base ety k (.slice (some ⟨g, 0, none⟩) n c) n (cput xs p vs))) → wpList Try.prog ops Q rest (a.put o.dst undef) X) : wpList Try.prog ops Q (o :: rest) a w := by
  refine BigFrame.wpList_want hw fun K hK => ?_
  have hP := hK _ _ (h _ (hL.cell i hg hp))
  unfold Oper.wp execOp
  simp only [ho, hx, hy, Instr.storeAt, Instr.sureAddr, Sem.run_bind, Sem.run_pure, Result.andThen_ok, run_storeVar_any w g p ty v vs hv (own_there (hL.get i hg) hp) hi h1]
  exact hP
theorem cell7 {w Z : World} {E : List Nat} {R : List Ob} {base g cc j q : Nat} {cl : List CE} {e : CE} {n : Nat} (h : Sy w Z E (rowO base 48 8 (.slice (some ⟨g, 0, none⟩) n cc) n (cl.flatMap CE.cs) :: R)) (hn : cl.length = n) (he : cl[j]? = some e) (hq : q = 0 + j * 8) : Z.cell? ⟨g, q + 7, none⟩ = some (.slice e.A e.s.ps.length e.cap) := by
  obtain ⟨hj, rfl⟩ := List.getElem?_eq_some_iff.1 he
  obtain ⟨g', c', h1, _, _, h4⟩ := own_row ce_length (h.get 0 rfl) hn j hj
  cases h1
  subst hq
  exact h4 7 _ rfl
theorem ex_indexAQ {o : Oper} {a : Act} {w : World} {x ix : Operand} {A : Option Addr} {g n cap q : Nat} (t : TypeId) (sz j : Nat) (hk : Try.prog.underlying t = some (.slice (Try.prog.elem t))) (he : ∀ w, (sizeOf (Try.prog.elem t)).run Try.prog w = .ok sz w) (ho : o.op = .indexAddr t x ix) (hx : a.eval x = .slice A n cap) (hA : A = some ⟨g, 0, none⟩) (hix : a.eval ix = .int .i64 (j : Nat)) (hj : j < n) (hq : q = 0 + j * sz) : (execOp a.eval o).run Try.prog w = .ok (.value (.pointer (some ⟨g, q, none⟩))) w := by
  subst hA
  exact hq ▸ ex_indexG t sz j hk he ho hx hix hj
set_option maxHeartbeats 4000000 in
set_option maxRecDepth 100000 in
theorem spoil_any (w X : World) (base : Nat) (v : Value) (cl : List CE) (hS : Sy w X [] (shO base v cl)) (hb : base ≤ X.heap.size) (hn : cl.length ≤ 1000) (hg : ∀ e ∈ cl, e.s.ps.length ≤ 100000) : Calls Try.prog 11 #[v] X fun e Y => e = .returned (.tuple #[]) ∧ Fr X Y (bsAll (shO base v cl)) := by
  have HB := hide hb
  have HN := hide hn
  have HG := hide hg
  obtain ⟨AA, cc, rfl⟩ := own_form (hS.get 0 rfl)
  have LL0 := hide hS.open
  clear hS hb hn hg
  go_enter Try.func11, Try.ntmps11
  go_wp2_with (first | go_skip | ((with_reducible show wpList _ _ _ _ _ _); first | ((with_reducible show wpList _ _ _ (Oper.mk _ (Op.call _) _ _ _ _ :: _) _ _); ((refine rd (by rfl) (ex_lenG 22 48 Try.underlying22 rfl rfl) ?_); simp only [Act.put, List.setIfInBounds_toArray, List.set_cons_succ, List.set_cons_zero]))))
  obtain ⟨EE, hEE⟩ : ∃ EE, EE = (bsAll (shO base (.slice AA cl.length cc) cl)) := ⟨_, rfl⟩
  have LL1 : Hid (Sy X X EE (shO base (.slice AA cl.length cc) cl)) := hide (by rw [hEE]; exact unhide LL0)
  have HEE := hide hEE
  clear LL0 hEE
  go_loopg [2] cl.length (fun gm s2 wr => ∃ (i : Nat) (cl1 : List CE), s2 = .int .i64 (i : Nat) ∧ i ≤ cl.length ∧ cl.length - i ≤ gm ∧ Hid (cl1.length = cl.length ∧ ∀ j, i ≤ j → cl1[j]? = cl[j]?) ∧ Hid (Sy X wr EE (rowO base 48 8 (.slice AA cl.length cc) cl.length (cl1.flatMap CE.cs) :: (cl.drop i).map (rowP base))))
  case atStart => exact ⟨0, cl, rfl, by omega, by omega, hide ⟨rfl, fun _ _ => rfl⟩, LL1⟩
  case round =>
    clear LL1
    obtain ⟨i, cl1, rfl, hil, hgm, HC, LL⟩ := hrel
    by_cases hlt : i < cl.length
    · have dlt : decide ((i : Int) < (cl.length : Int)) = true := decide_eq_true (by omega)
      have hw1 : IntKind.i64.wrap ((i : Int) + 1) = (i : Int) + 1 := by have := unhide HN; rw [IntKind.wrap_i64]; omega
      obtain ⟨e, he⟩ : ∃ e, cl[i]? = some e := ⟨_, List.getElem?_eq_getElem hlt⟩
      have he1 : cl1[i]? = some e := ((unhide HC).2 i (Nat.le_refl _)).trans he
      have hdr : (cl.drop i).map (rowP base) = rowP base e :: (cl.drop (i + 1)).map (rowP base) := by rw [List.drop_eq_getElem_cons hlt, List.map_cons]; obtain ⟨_, h2⟩ := List.getElem?_eq_some_iff.1 he; rw [h2]
      rw [hdr] at LL
      obtain ⟨g, c9, hv9, -, -, -⟩ := own_row ce_length ((unhide LL).get 0 rfl) (unhide HC).1 i (by rw [(unhide HC).1]; exact hlt)
      obtain ⟨hAg, hcg⟩ : AA = some ⟨g, 0, none⟩ ∧ cc = c9 := by simpa using hv9
      subst hAg
      subst hcg
      obtain ⟨q0, hq0⟩ : ∃ q0 : Nat, q0 = 0 + i * 8 := ⟨_, rfl⟩
      have HQ0 := hide hq0
      have HE1 := hide he1
      have HLT := hide hlt
      have HGE := hide ((unhide HG) e (List.mem_of_getElem? he))
      have HC7 : Hid (∀ (Z : World) (R : List Ob), Sy X Z EE (rowO base 48 8 (.slice (some ⟨g, 0, none⟩) cl.length cc) cl.length (cl1.flatMap CE.cs) :: R) → Z.cell? ⟨g, q0 + 7, none⟩ = some (.slice e.A e.s.ps.length e.cap)) := hide (fun Z R hZ => cell7 hZ (unhide HC).1 he1 hq0)
      clear hv9 hdr he he1 hq0 hil hlt
      go_wp2_with (first | go_skip | ((with_reducible show wpList _ _ _ _ _ _); first | ((with_reducible show wpList _ _ _ (Oper.mk _ (Op.call _) _ _ _ _ :: _) _ _); ((refine rd (by rfl) (ex_lenG 22 48 Try.underlying22 rfl rfl) ?_); simp only [Act.put, List.setIfInBounds_toArray, List.set_cons_succ, List.set_cons_zero])) | ((with_reducible show wpList _ _ _ (Oper.mk _ (Op.call _) _ _ _ _ :: _) _ _); ((refine rd (by rfl) (ex_lenG 46 56 Try.underlying46 rfl rfl) ?_); simp only [Act.put, List.setIfInBounds_toArray, List.set_cons_succ, List.set_cons_zero])) | ((with_reducible show wpList _ _ _ (Oper.mk _ (Op.indexAddr _ _ _) _ _ _ _ :: _) _ _); ((refine rd (by rfl) (ex_indexQ (q := q0) 22 8 i unSs idSs rfl rfl rfl (unhide HLT) (unhide HQ0)) ?_); simp only [Act.put, List.setIfInBounds_toArray, List.set_cons_succ, List.set_cons_zero])) | ((with_reducible show wpList _ _ _ (Oper.mk _ (Op.load _ _) _ _ _ _ :: _) _ _); ((refine rd (by rfl) (ex_loadC 46 Try.isAgg46 rfl rfl (unhide HC7 _ _ (unhide LL))) ?_); simp only [Act.put, List.setIfInBounds_toArray, List.set_cons_succ, List.set_cons_zero]))))
      obtain ⟨w2, hw2⟩ : ∃ w2, w2 = wr := ⟨_, rfl⟩
      subst hw2
      go_loopg [3] e.s.ps.length (fun gm s3 wr => ∃ (k : Nat) (xs : List Value), s3 = .int .i64 (k : Nat) ∧ k ≤ e.s.ps.length ∧ e.s.ps.length - k ≤ gm ∧ Hid (xs.length = e.s.ps.length * 20) ∧ Hid (Sy X wr EE (rowO base 48 8 (.slice (some ⟨g, 0, none⟩) cl.length cc) cl.length (cl1.flatMap CE.cs) :: rowO base 56 20 (.slice e.A e.s.ps.length e.cap) e.s.ps.length xs :: (cl.drop (i + 1)).map (rowP base))))
      case atStart => exact ⟨0, flatP e.s.ps, rfl, by omega, by omega, hide (by unfold flatP; rw [flat_len PR.cs 20 pcs_length]), LL⟩
      case round =>
        clear LL
        obtain ⟨k, xs, rfl, hkl, hgm2, HX, LL⟩ := hrel
        by_cases hlk : k < e.s.ps.length
        · have dlk : decide ((k : Int) < (e.s.ps.length : Int)) = true := decide_eq_true (by omega)
          have hw2 : IntKind.i64.wrap ((k : Int) + 1) = (k : Int) + 1 := by have := unhide HGE; rw [IntKind.wrap_i64]; omega
          obtain ⟨g2, c2, hv2⟩ : ∃ g2 c2, (Value.slice e.A e.s.ps.length e.cap) = .slice (some ⟨g2, 0, none⟩) e.s.ps.length c2 := by rcases ((unhide LL).get 1 rfl).2 with ⟨_, h0⟩ | ⟨g2, c2, cur, h1, _⟩ <;> first | exact ⟨g2, c2, h1⟩ | omega
          obtain ⟨hA2, hc2⟩ : e.A = some ⟨g2, 0, none⟩ ∧ e.cap = c2 := by simpa using hv2
          have HA2 := hide hA2
          obtain ⟨q2, hq2⟩ : ∃ q2 : Nat, q2 = 0 + k * 20 := ⟨_, rfl⟩
          have HQ2 := hide hq2
          have HLK := hide hlk
          have HP2 : Hid (q2 + 20 ≤ xs.length) := hide (by rw [unhide HX]; omega)
          have HX2 : Hid ((cput xs q2 nineP.cs).length = e.s.ps.length * 20) := hide (by rw [cput_length _ _ _ (unhide HP2)]; exact unhide HX)
          clear hv2 hA2 hc2 hq2 hkl hlk
          go_wp2_with (first | go_skip | ((with_reducible show wpList _ _ _ _ _ _); first | ((with_reducible show wpList _ _ _ (Oper.mk _ (Op.call _) _ _ _ _ :: _) _ _); ((refine rd (by rfl) (ex_lenG 46 56 Try.underlying46 rfl rfl) ?_); simp only [Act.put, List.setIfInBounds_toArray, List.set_cons_succ, List.set_cons_zero])) | ((with_reducible show wpList _ _ _ (Oper.mk _ (Op.indexAddr _ _ _) _ _ _ _ :: _) _ _); ((refine rd (by rfl) (ex_indexQ (q := q0) 22 8 i unSs idSs rfl rfl rfl (unhide HLT) (unhide HQ0)) ?_); simp only [Act.put, List.setIfInBounds_toArray, List.set_cons_succ, List.set_cons_zero])) | ((with_reducible show wpList _ _ _ (Oper.mk _ (Op.load _ _) _ _ _ _ :: _) _ _); ((refine rd (by rfl) (ex_loadC 46 Try.isAgg46 rfl rfl (unhide HC7 _ _ (unhide LL))) ?_); simp only [Act.put, List.setIfInBounds_toArray, List.set_cons_succ, List.set_cons_zero])) | ((with_reducible show wpList _ _ _ (Oper.mk _ (Op.build _ _) _ _ _ _ :: _) _ _); ((refine rd (by rfl) (ex_bKs (-9) rfl rfl) ?_); simp only [Act.put, List.setIfInBounds_toArray, List.set_cons_succ, List.set_cons_zero])) | ((with_reducible show wpList _ _ _ (Oper.mk _ (Op.build _ _) _ _ _ _ :: _) _ _); ((refine rd (by rfl) (ex_bPs (-9) rfl rfl) ?_); simp only [Act.put, List.setIfInBounds_toArray, List.set_cons_succ, List.set_cons_zero])) | ((with_reducible show wpList _ _ _ (Oper.mk _ (Op.indexAddr _ _ _) _ _ _ _ :: _) _ _); ((refine rd (by rfl) (ex_indexAQ (q := q2) 46 20 k unPs idPs rfl rfl (unhide HA2) rfl (unhide HLK) (unhide HQ2)) ?_); simp only [Act.put, List.setIfInBounds_toArray, List.set_cons_succ, List.set_cons_zero])) | ((with_reducible show wpList _ _ _ (Oper.mk _ (Op.store _ _ _) _ _ _ _ :: _) _ _); ((refine stA (vs := nineP.cs) (k := 20) (n := e.s.ps.length) (c := e.cap) (base := base) 1 56 (by rfl) rfl rfl rfl rfl (pcs_one _) szP (unhide LL) (by rw [← unhide HA2]; rfl) (unhide HP2) ?_); intro X9 L9; rw [← unhide HA2] at L9; replace LL := hide L9; clear L9; simp only [Act.put, List.setIfInBounds_toArray, List.set_cons_succ, List.set_cons_zero]))))
          go_roundg (e.s.ps.length - (k + 1))
          case measure => have := unhide HLK; omega
          case rel => exact ⟨k + 1, cput xs q2 nineP.cs, by go_num, by have := unhide HLK; omega, by omega, HX2, LL⟩
        · obtain rfl : k = e.s.ps.length := by omega
          clear hlk hkl hgm2 HX
          go_wp2_with (first | go_skip | ((with_reducible show wpList _ _ _ _ _ _); first | ((with_reducible show wpList _ _ _ (Oper.mk _ (Op.call _) _ _ _ _ :: _) _ _); ((refine rd (by rfl) (ex_lenG 46 56 Try.underlying46 rfl rfl) ?_); simp only [Act.put, List.setIfInBounds_toArray, List.set_cons_succ, List.set_cons_zero])) | ((with_reducible show wpList _ _ _ (Oper.mk _ (Op.indexAddr _ _ _) _ _ _ _ :: _) _ _); ((refine rd (by rfl) (ex_indexQ (q := q0) 22 8 i unSs idSs rfl rfl rfl (unhide HLT) (unhide HQ0)) ?_); simp only [Act.put, List.setIfInBounds_toArray, List.set_cons_succ, List.set_cons_zero])) | ((with_reducible show wpList _ _ _ (Oper.mk _ (Op.load _ _) _ _ _ _ :: _) _ _); ((refine rd (by rfl) (ex_loadC 46 Try.isAgg46 rfl rfl (unhide HC7 _ _ (unhide LL))) ?_); simp only [Act.put, List.setIfInBounds_toArray, List.set_cons_succ, List.set_cons_zero]))))
          obtain ⟨w3, hw3⟩ : ∃ w3, w3 = wr := ⟨_, rfl⟩
          subst hw3
          go_loopg [4, 5] 8 (fun gm s4 s5 wr => ∃ (k m : Nat) (A : Option Addr) (c : Nat) (xs : List Value), s5 = .int .i64 (k : Nat) ∧ k ≤ 8 ∧ 8 - k ≤ gm ∧ s4 = .slice A m c ∧ Hid (m ≤ e.s.ps.length + k) ∧ Hid (Sy X wr EE (rowO base 48 8 (.slice (some ⟨g, 0, none⟩) cl.length cc) cl.length (cl1.flatMap CE.cs) :: rowO base 56 20 (.slice A m c) m xs :: (cl.drop (i + 1)).map (rowP base))))
          case atStart => exact ⟨0, _, _, _, _, rfl, by omega, by omega, rfl, hide (Nat.le_refl _), LL⟩
          case round =>
            clear LL
            obtain ⟨k, m, A, c, xs, rfl, hkl, hgm3, rfl, HM, LL⟩ := hrel
            by_cases hlk : k < 8
            · have dlk : decide ((k : Int) < 8) = true := decide_eq_true (by omega)
              have hw3 : IntKind.i64.wrap ((k : Int) + 1) = (k : Int) + 1 := by rw [IntKind.wrap_i64]; omega
              have HLK := hide hlk
              clear hkl hlk
              go_wp2_with (first | go_skip | ((with_reducible show wpList _ _ _ _ _ _); first | ((with_reducible show wpList _ _ _ (Oper.mk _ (Op.binOp _ _ _ _ _) _ _ _ _ :: _) _ _); ((refine rd (by rfl) (ex_ltI (n := (k : Int)) (m := 8) rfl rfl rfl dlk) ?_); simp only [Act.put, List.setIfInBounds_toArray, List.set_cons_succ, List.set_cons_zero])) | ((with_reducible show wpList _ _ _ (Oper.mk _ (Op.build _ _) _ _ _ _ :: _) _ _); ((refine rd (by rfl) (ex_bKs (-8) rfl rfl) ?_); simp only [Act.put, List.setIfInBounds_toArray, List.set_cons_succ, List.set_cons_zero])) | ((with_reducible show wpList _ _ _ (Oper.mk _ (Op.build _ _) _ _ _ _ :: _) _ _); ((refine rd (by rfl) (ex_bPs (-8) rfl rfl) ?_); simp only [Act.put, List.setIfInBounds_toArray, List.set_cons_succ, List.set_cons_zero])) | ((with_reducible show wpList _ _ _ (Oper.mk _ (Op.buildSlice _ _ _) _ _ _ _ :: _) _ _); ((refine bsP (cs := eightP.cs) (by rfl) rfl rfl Try.underlying46 inf46 (by decide) rfl rfl (by decide) (unhide LL) ?_); intro X10 B10 hE10 L10 hb10; replace LL := hide L10; clear L10 hb10 hE10; simp only [Act.put, List.setIfInBounds_toArray, List.set_cons_succ, List.set_cons_zero])) | ((with_reducible show wpList _ _ _ (Oper.mk _ (Op.call _) _ _ _ _ :: _) _ _); ((refine apS (size := 20) (bytes := 192) (base := base) (k := m) (xs := xs) (news := eightP.cs) (v := .slice A m c) 2 0 rfl rfl rfl rfl Try.underlying46 inf46 rfl (by decide) (unhide LL) rfl rfl rfl (pcs_one _) (by have := unhide HM; have := unhide HGE; have := unhide HLK; omega) (by decide) (Nat.le_trans (unhide HB) (unhide LL).fr.size) ?_); intro A11 c11 X11 L11; replace LL := hide L11; clear L11; simp only [Act.put, List.setIfInBounds_toArray, List.set_cons_succ, List.set_cons_zero]))))
              replace LL := hide (unhide LL).tail
              go_roundg (8 - (k + 1))
              case measure => have := unhide HLK; omega
              case rel => exact ⟨k + 1, m + 1, A11, c11, _, by go_num, by have := unhide HLK; omega, by omega, rfl, hide (by have := unhide HM; omega), LL⟩
            · obtain rfl : k = 8 := by omega
              have d8 : decide ((8 : Int) < 8) = false := by decide
              clear hlk hkl hgm3
              go_wp2_with (first | go_skip | ((with_reducible show wpList _ _ _ _ _ _); first | ((with_reducible show wpList _ _ _ (Oper.mk _ (Op.binOp _ _ _ _ _) _ _ _ _ :: _) _ _); ((refine rd (by rfl) (ex_ltI (n := ((8 : Nat) : Int)) (m := 8) rfl rfl rfl d8) ?_); simp only [Act.put, List.setIfInBounds_toArray, List.set_cons_succ, List.set_cons_zero])) | ((with_reducible show wpList _ _ _ (Oper.mk _ (Op.indexAddr _ _ _) _ _ _ _ :: _) _ _); ((refine rd (by rfl) (ex_indexQ (q := q0) 22 8 i unSs idSs rfl rfl rfl (unhide HLT) (unhide HQ0)) ?_); simp only [Act.put, List.setIfInBounds_toArray, List.set_cons_succ, List.set_cons_zero])) | ((with_reducible show wpList _ _ _ (Oper.mk _ (Op.store _ _ _) _ _ _ _ :: _) _ _); ((refine stE (vs := [.int .i64 (-9)]) (x' := (⟨{ e.s with c := -9 }, e.A, e.cap⟩ : CE)) (x0 := e) (l := cl1) (p := 0) (j := i) CE.cs 8 ce_length 0 3 (by rfl) rfl rfl rfl rfl (by simp [Value.oneCell']) szI (unhide LL) rfl (unhide HC).1 (unhide HE1) (by simp) rfl (by have := unhide HQ0; omega) ?_); intro X20 L20; replace LL := hide L20; clear L20; simp only [Act.put, List.setIfInBounds_toArray, List.set_cons_succ, List.set_cons_zero]))))
              have LN : Hid (Sy X X20 EE (rowO base 48 8 (.slice (some ⟨g, 0, none⟩) cl.length cc) cl.length ((cl1.set i (⟨{ e.s with c := -9 }, e.A, e.cap⟩ : CE)).flatMap CE.cs) :: (cl.drop (i + 1)).map (rowP base))) := hide (unhide LL).second
              have HCN : Hid ((cl1.set i (⟨{ e.s with c := -9 }, e.A, e.cap⟩ : CE)).length = cl.length ∧ ∀ j, i + 1 ≤ j → (cl1.set i (⟨{ e.s with c := -9 }, e.A, e.cap⟩ : CE))[j]? = cl[j]?) := hide ⟨by rw [List.length_set]; exact (unhide HC).1, fun j hj => by rw [List.getElem?_set_ne (by omega)]; exact (unhide HC).2 j (by omega)⟩
              clear LL
              go_roundg (cl.length - (i + 1))
              case measure => have := unhide HLT; omega
              case rel => exact ⟨i + 1, cl1.set i (⟨{ e.s with c := -9 }, e.A, e.cap⟩ : CE), by go_num, by have := unhide HLT; omega, by omega, HCN, LN⟩
    · obtain rfl : i = cl.length := by omega
      clear hlt hil
      go_wp2_with (first | go_skip | ((with_reducible show wpList _ _ _ _ _ _); first | ((with_reducible show wpList _ _ _ (Oper.mk _ (Op.call _) _ _ _ _ :: _) _ _); ((refine rd (by rfl) (ex_lenG 22 48 Try.underlying22 rfl rfl) ?_); simp only [Act.put, List.setIfInBounds_toArray, List.set_cons_succ, List.set_cons_zero]))))
      go_end0
      exact ⟨rfl, by have h := (unhide LL).fr; rw [unhide HEE] at h; exact h⟩
end Go.Proofs.Ytcflglloopgieaa
