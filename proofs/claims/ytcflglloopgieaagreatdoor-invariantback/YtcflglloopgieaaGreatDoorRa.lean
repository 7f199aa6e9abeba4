import Derived.Test.YtcflglloopgieaaGreatDoorQz

/-! It -/
namespace Go.Proofs.YtcflglloopgieaaGreatDoor
open Go Go.Proofs Go.Maps Go.RowKit FM
set_option linter.unusedSimpArgs false
set_option linter.unusedVariables false
set_option maxHeartbeats 1000000
/-- A slice of shapes with few properties and strings that can be copied. -/
def ReadsU (w : World) (A : Option Addr) (l : List SH) : Prop := ∀ j s, l[j]? = some s → SS s ∧ s.p.x < 2 ^ 64 ∧ s.ps.length ≤ 400 ∧ ∃ b off SA cap, A = some ⟨b, off, none⟩ ∧ b < w.heap.size ∧ ReadsP w SA s.ps ∧ w.rangeAt b (off + j * 8) (s.cs SA cap) ∧ s.ps.length ≤ cap
theorem ReadsU.s {w : World} {A : Option Addr} {l : List SH} (h : ReadsU w A l) : ReadsS w A l := fun j s hs => by
  obtain ⟨_, h1, h2, b, off, SA, cap, h3, h4, h5, h6, _⟩ := h j s hs
  exact ⟨h1, by omega, b, off, SA, cap, h3, h4, h5, h6⟩
theorem ReadsU.fr {w X : World} {A : Option Addr} {l : List SH} (h : ReadsU w A l) (hf : Fr w X []) : ReadsU X A l := fun j s hs => by
  obtain ⟨h0, h1, h2, b, off, SA, cap, h3, h4, h5, h6, h7⟩ := h j s hs
  exact ⟨h0, h1, h2, b, off, SA, cap, h3, Nat.lt_of_lt_of_le h4 hf.size, h5.fr hf, rangeAt_fr h6 h4 hf, h7⟩
def diffT (bs ns : List SH) : Nat → List DL
  | 0 => []
  | i + 1 => diffT bs ns i ++ (match ns[i]? with
    | none => []
    | some a => match bs[i]? with
      | some b => chgL ((i : Int) + 1) b a
      | none => madeL ((i : Int) + 1) a)
theorem diffT_chg {bs ns : List SH} {i : Nat} {a b : SH} (ha : ns[i]? = some a) (hb : bs[i]? = some b) : diffT bs ns (i + 1) = diffT bs ns i ++ chgL ((i : Int) + 1) b a := by simp [diffT, ha, hb]
theorem diffT_made {bs ns : List SH} {i : Nat} {a : SH} (ha : ns[i]? = some a) (hb : bs[i]? = none) : diffT bs ns (i + 1) = diffT bs ns i ++ madeL ((i : Int) + 1) a := by simp [diffT, ha, hb]
theorem propsL_len (o : Int) (was is : List PR) : (propsL o was is).length ≤ was.length + 2 * is.length := by
  obtain ⟨h1, h2, h3⟩ := stayT_len o is was was.length
  have h4 := chT_len o is (stayT is was was.length) (stayT is was was.length).length
  simp only [propsL, List.length_append, List.length_map, List.length_drop]
  omega
theorem chgL_len (o : Int) (b a : SH) : (chgL o b a).length ≤ 3 + b.ps.length + 2 * a.ps.length := by
  have h := propsL_len o b.ps a.ps
  unfold chgL
  cases (a.c != b.c) <;> cases (eqB b.p a.p) <;> cases (a.x != b.x) <;> simp <;> omega
def dblA (l : List SH) : Bool := l.any (fun s => dblV s.ps)
def DiffPost (w : World) (bs ns : List SH) (e : Ending) (X : World) : Prop :=
  ∃ (lv : Value) (er : Int) (r : List DL), e = .returned (.tuple #[lv, .int .i64 er]) ∧ X.ownsRow w.heap.size 65 29 lv r.length (flatL r) ∧ Below w.heap.size w X ∧
    ((ns.length < bs.length ∧ er = 7 ∧ r = [] ∧ lv = .slice none 0 0) ∨ (¬ ns.length < bs.length ∧ (dblA bs || dblA ns) = true ∧ er = 5 ∧ r = [] ∧ lv = .slice none 0 0) ∨ (¬ ns.length < bs.length ∧ (dblA bs || dblA ns) = false ∧ er = 0 ∧ r = diffT bs ns ns.length))
theorem TS.setO {w Z : World} {E : List Nat} {b0 t : Nat} {o o' : Int} {xs : List DL} {lv : Value} {L : List (Nat × List Value)} (h : TS w Z E b0 t o xs lv L) : TS w (Z.setCells t 1 [.int .i64 o']) E b0 t o' xs lv L := by
  have hne : ∀ g, g ≠ t → (Z.setCells t 1 [.int .i64 o']).heap[g]? = Z.heap[g]? := fun g hg => heap_setCells t _ 1 Z g hg
  refine ⟨⟨h.ti.hold.put 1 [.int .i64 o'] (by simp), own_blk h.ti.own (fun g hg => hne g (fun e => h.ti.apart (e ▸ hg))), h.ti.apart⟩, ?_, h.sep, h.ct, h.cl⟩
  refine h.hq.step (Fr.setCells Z t 1 _) (fun b hb => ?_) (fun q hq hb => ?_)
  · obtain rfl : b = t := by simpa using hb
    exact h.ct
  · exact (h.sep q hq).1 (by simpa using hb)
theorem stO {ops : Array Oper} {rest : List Oper} {Q : Exit → Act → World → Prop} {w w0 : World} {a : Act} {o : Oper} {E : List Nat} {L : List (Nat × List Value)} {b0 t : Nat} {ob n : Int} {xs : List DL} {lv : Value} {x y : Operand} (hw : Region.wanted o (yielded ops a.tmps) = true) (ho : o.op = .store 3 x y) (hx : a.eval x = .pointer (some ⟨t, 1, none⟩)) (hy : a.eval y = .int .i64 n) (hL : TS w0 w E b0 t ob xs lv L)
    (h : ∀ X, TS w0 X E b0 t n xs lv L → wpList Tryz.prog ops Q rest (a.put o.dst undef) X) : wpList Tryz.prog ops Q (o :: rest) a w := by
  refine BigFrame.wpList_want hw fun K hK => ?_
  have hP := hK _ _ (h _ (hL.setO (o' := n)))
  unfold Oper.wp execOp
  simp only [ho, hx, hy, Instr.storeAt, Instr.sureAddr, Sem.run_bind, Sem.run_pure, Result.andThen_ok, run_storeVar_any w t 1 3 (.int .i64 n) [.int .i64 n] rfl (hL.ti.hold.there 1 1 (by simp)) szI (by simp [Value.oneCell'])]
  exact hP
theorem TS.first (w : World) (T : TypeId) {Z : World} (h : Hq w Z [] []) : TS w (Z.alloc (Obj.cells #[.slice none 0 0, .int .i64 0] T)) [] w.heap.size Z.heap.size 0 [] (.slice none 0 0) [] := by
  have hn := Holds.new Z [.slice none 0 0, .int .i64 0] T
  exact ⟨⟨hn, ⟨rfl, .inl ⟨rfl, rfl⟩⟩, by simp [Value.ownBlock]⟩, h.on ((Below.refl _ _).alloc (Nat.le_refl _) _), (fun q hq => by cases hq), .inr h.fr.size, by simp [Value.ownBlock]⟩
theorem alTale {ops : Array Oper} {rest : List Oper} {Q : Exit → Act → World → Prop} {w w0 : World} {a : Act} {o : Oper} (hw : Region.wanted o (yielded ops a.tmps) = true) (ho : o.op = .alloc 68) (hL : Hq w0 w [] [])
    (h : ∀ X B, B = w.heap.size → TS w0 X [] w0.heap.size B 0 [] (.slice none 0 0) [] → wpList Tryz.prog ops Q rest (a.put o.dst (.pointer (some ⟨B, 0, none⟩))) X) : wpList Tryz.prog ops Q (o :: rest) a w := by
  refine BigFrame.wpList_want hw fun K hK => ?_
  have hz : ∀ w, (zeroValue 68).run Tryz.prog w = .ok (.agg #[.slice none 0 0, .int .i64 0]) w := fun w => by kernel_rfl
  have hP := hK _ _ (h _ _ rfl (TS.first w0 68 hL))
  unfold Oper.wp execOp
  simp only [ho]
  simp [go_sem, hz, Value.cells]
  exact hP
set_option maxHeartbeats 4000000 in
set_option maxRecDepth 100000 in
theorem diff_any (A B : Option Addr) (cap cap2 : Nat) (bs ns : List SH) (w : World) (hB : ReadsU w A bs) (hC : ReadsU w B ns) (hz : bs.length ≤ 60) (hz2 : ns.length ≤ 60) (hT : Lib.Utf8Tabs 1 2 w) : Calls Tryz.prog 16 #[.slice A bs.length cap, .slice B ns.length cap2] w (DiffPost w bs ns) := by
  have LL := hide (Hq.nil w [])
  have HB := hide hB
  have HC := hide hC
  have HZ := hide hz
  have HZ2 := hide hz2
  have HT := hide hT
  clear hB hC hz hz2 hT
  by_cases hlen : ns.length < bs.length
  · have dl : decide ((ns.length : Int) < (bs.length : Int)) = true := decide_eq_true (by omega)
    have HLE := hide hlen
    clear hlen
    go_enter Tryz.func16, Tryz.ntmps16
    go_wp2_with (first | go_skip | ((with_reducible show wpList _ _ _ _ _ _); first | ((refine rd (by rfl) (ex_lenG 22 34 Tryz.underlying22 rfl rfl) ?_); simp only [Act.put, List.setIfInBounds_toArray, List.set_cons_succ, List.set_cons_zero])))
    go_ret2
    exact ⟨.slice none 0 0, 7, [], rfl, ⟨rfl, .inl ⟨rfl, rfl⟩⟩, (unhide LL).fr.below, .inl ⟨unhide HLE, rfl, rfl, rfl⟩⟩
  · have dl : decide ((ns.length : Int) < (bs.length : Int)) = false := decide_eq_false (by omega)
    have HLE := hide hlen
    clear hlen
    have HDB := hide (fun (X : World) (hX : Fr w X []) => hasIxD A cap bs (fun s => dblV s.ps) X ((unhide HB).s.fr hX) (by have := unhide HZ; omega) (fun j p SA sc hp hR Y hY => doubled_any p SA sc Y (hR.fr hY) (by have := ((unhide HB) j p hp).2.2.1; omega)))
    have HDN := hide (fun (X : World) (hX : Fr w X []) => hasIxD B cap2 ns (fun s => dblV s.ps) X ((unhide HC).s.fr hX) (by have := unhide HZ2; omega) (fun j p SA sc hp hR Y hY => doubled_any p SA sc Y (hR.fr hY) (by have := ((unhide HC) j p hp).2.2.1; omega)))
    have hd1 : bs.any (fun s => dblV s.ps) = dblA bs := rfl
    have hd2 : ns.any (fun s => dblV s.ps) = dblA ns := rfl
    rw [hd1] at HDB
    rw [hd2] at HDN
    generalize hdb : dblA bs = db at *
    generalize hdn : dblA ns = dn at *
    have HDD := hide (And.intro hdb hdn)
    clear hd1 hd2 hdb hdn
    go_enter Tryz.func16, Tryz.ntmps16
    go_wp2_with (first | go_skip | ((with_reducible show wpList _ _ _ _ _ _); first | ((refine rd (by rfl) (ex_lenG 22 34 Tryz.underlying22 rfl rfl) ?_); simp only [Act.put, List.setIfInBounds_toArray, List.set_cons_succ, List.set_cons_zero])))
    refine (unhide HDB _ (unhide LL).fr).mono ?_
    rintro e Y1 ⟨rfl, hY1⟩
    replace LL := hide ((unhide LL).on hY1)
    clear hY1
    cases db
    · go_wp2_with (first | go_skip | ((with_reducible show wpList _ _ _ _ _ _); first | ((refine rd (by rfl) (ex_lenG 22 34 Tryz.underlying22 rfl rfl) ?_); simp only [Act.put, List.setIfInBounds_toArray, List.set_cons_succ, List.set_cons_zero])))
      refine (unhide HDN _ (unhide LL).fr).mono ?_
      rintro e Y2 ⟨rfl, hY2⟩
      replace LL := hide ((unhide LL).on hY2)
      clear hY2
      cases dn
      · go_wp2_with (first | go_skip | ((with_reducible show wpList _ _ _ _ _ _); first | ((refine rd (by rfl) (ex_lenG 22 34 Tryz.underlying22 rfl rfl) ?_); simp only [Act.put, List.setIfInBounds_toArray, List.set_cons_succ, List.set_cons_zero]) | ((refine alTale (by rfl) rfl (unhide LL) ?_); intro X6 t hE6 L6; have ht6 := hide (Nat.le_trans (unhide LL).fr.size (Nat.le_of_eq hE6.symm)); have LT := hide L6; clear L6 hE6 LL; simp only [Act.put, List.setIfInBounds_toArray, List.set_cons_succ, List.set_cons_zero])))
        go_loopg [22] ns.length (fun gm s22 wr => ∃ i : Nat, s22 = .int .i64 (i : Nat) ∧ i ≤ ns.length ∧ ns.length - i ≤ gm ∧ (diffT bs ns i).length ≤ 1203 * i ∧ ∃ (o : Int) (lw : Value), Hid (TS w wr [] w.heap.size t o (diffT bs ns i) lw []))
        case atStart => exact ⟨0, rfl, by omega, by omega, by simp [diffT], 0, _, LT⟩
        case round =>
          clear LT
          obtain ⟨i, rfl, hil, hgm, hdl, ob, lw, LT⟩ := hrel
          by_cases hlt : i < ns.length
          · have dlt : decide ((i : Int) < (ns.length : Int)) = true := decide_eq_true (by omega)
            have hw1 : IntKind.i64.wrap ((i : Int) + 1) = (i : Int) + 1 := by have := unhide HZ2; rw [IntKind.wrap_i64]; omega
            obtain ⟨a, ha⟩ : ∃ a, ns[i]? = some a := ⟨_, List.getElem?_eq_getElem hlt⟩
            obtain ⟨hss, _, hpl, b, off, AA, ac, hA, hb, hrp, hrg, hcap⟩ := (unhide HC) i a ha
            have HA := hide hA
            have HA2 : Hid (∀ X, Fr w X [] → X.rangeAt b (off + i * 8) (a.cs AA ac)) := hide (fun X hX => rangeAt_fr hrg hb hX)
            have HLT := hide hlt
            have HAX := hide (And.intro hss (And.intro hpl (And.intro hrp hcap)))
            have HDL := hide hdl
            clear hA hb hrg hss hpl hrp hcap hil hlt
            by_cases hib : i < bs.length
            · obtain ⟨bb, hbi⟩ : ∃ bb, bs[i]? = some bb := ⟨_, List.getElem?_eq_getElem hib⟩
              have HDT := hide (diffT_chg ha hbi)
              have dib : decide ((i : Int) < (bs.length : Int)) = true := decide_eq_true (by omega)
              obtain ⟨hssb0, _, hplb0, b20, off20, BA, bc, hAb0, hbb0, hrpb0, hrgb0, _⟩ := (unhide HB) i bb hbi
              have HBX := hide (And.intro hssb0 (And.intro hplb0 (And.intro hAb0 (And.intro hbb0 (And.intro hrpb0 hrgb0)))))
              have HIB := hide hib
              clear hssb0 hplb0 hAb0 hbb0 hrpb0 hrgb0 hib hbi ha
              go_wp2_with (first | go_skip | ((with_reducible show wpList _ _ _ _ _ _); first | ((refine rd (by rfl) (ex_lenG 22 34 Tryz.underlying22 rfl rfl) ?_); simp only [Act.put, List.setIfInBounds_toArray, List.set_cons_succ, List.set_cons_zero]) | ((refine rd (by rfl) (ex_indexA 22 8 i unSs idSs rfl rfl (unhide HA) rfl (unhide HLT)) ?_); simp only [Act.put, List.setIfInBounds_toArray, List.set_cons_succ, List.set_cons_zero]) | ((refine rd (by rfl) (ex_loadR (vs := a.cs AA ac) 34 8 rwS szS rfl rfl (unhide HA2 _ (unhide LT).hq.fr) rfl) ?_); simp only [Act.put, List.setIfInBounds_toArray, List.set_cons_succ, List.set_cons_zero]) | ((refine alT 34 (zeroS.cs none 0) (by rfl) rfl (fun w => by kernel_rfl) (Nat.succ_pos _) (unhide LT) ?_); intro X8 B8 hE8 L8 hb8; have hB8 := hide (Nat.le_trans (unhide LT).hq.fr.size (Nat.le_of_eq hE8.symm)); replace LT := hide L8; clear L8 hb8 hE8; simp only [Act.put, List.setIfInBounds_toArray, List.set_cons_succ, List.set_cons_zero]) | ((refine stT (vs := a.cs AA ac) 0 34 (by rfl) rfl rfl rfl rfl (shcs_one _ _ _) szS (unhide LT) rfl (by simp [cput, SH.cs, VV.cs, zeroS, zeroV]) (Or.inr (unhide hB8)) ?_); intro X9 L9 hf9; replace LT := hide L9; clear L9 hf9; simp only [Act.put, List.setIfInBounds_toArray, List.set_cons_succ, List.set_cons_zero]) | ((refine rd (by rfl) (ex_addI rfl rfl rfl hw1) ?_); simp only [Act.put, List.setIfInBounds_toArray, List.set_cons_succ, List.set_cons_zero]) | ((refine rd (by rfl) (ex_ltI rfl rfl rfl dib) ?_); simp only [Act.put, List.setIfInBounds_toArray, List.set_cons_succ, List.set_cons_zero]) | ((refine stO (by rfl) rfl rfl rfl (unhide LT) ?_); intro X10 L10; replace LT := hide L10; clear L10; simp only [Act.put, List.setIfInBounds_toArray, List.set_cons_succ, List.set_cons_zero]) | ((refine rd (by rfl) (ex_loadN (vs := a.cs AA ac) 34 8 rwS szS rfl rfl ((unhide LT).hq.get 0 rfl) rfl rfl) ?_); simp only [Act.put, List.setIfInBounds_toArray, List.set_cons_succ, List.set_cons_zero])))
              obtain ⟨hssb, hplb, hAb, hbb, hrpb, hrgb⟩ := unhide HBX
              obtain ⟨hss, hpl, hrp, hcap⟩ := unhide HAX
              have hib := unhide HIB
              have hdl2 := unhide HDL
              have ht0 : TS w _ [] w.heap.size t ((i : Int) + 1) (diffT bs ns i) lw [(B8, a.cs AA ac)] := (unhide LT).drew
              have hb1 := hrpb.ts (fun j p hp b off hb => by simp) ht0
              have ha1 := hrp.ts (fun j p hp b off hb => by simp) ht0
              have hz60 := unhide HZ2
              have hlt60 := unhide HLT
              have hcc := changed_any bb a BA AA bc ac w.heap.size t ((i : Int) + 1) _ lw _ ht0.ti hb1.1 ha1.1 hb1.2 ha1.2 hcap (by omega) ht0.hq.fr.size hssb hss (fun Z hZ => tabs_below (unhide HT) (fr_trans ht0 hZ).below)
              unfold SH.agg at hcc
              have hq0 : ∃ ys lw, TS w _ [] w.heap.size t ((i : Int) + 1) ys lw [(B8, a.cs AA ac)] := ⟨_, _, ht0⟩
              refine wp_region_held_drew (P := Tryz.prog) (S := fun Z => ∃ ys lw, TS w Z [] w.heap.size t ((i : Int) + 1) ys lw [(B8, a.cs AA ac)]) (by kernel_rfl) hq0 (fun hS0 => ?_)
              refine gsem 0 (some 34) (.slice A bs.length cap) rfl (by kernel_rfl) (by kernel_rfl) (by kernel_rfl) (fun _ _ _ h => h) (by kernel_rfl) (by kernel_rfl) (fun _ _ => by kernel_rfl) hq0 ?_
              simp only [Act.put, List.setIfInBounds_toArray, List.set_cons_succ, List.set_cons_zero]
              refine gsem 1 (some 35) (.int .i64 (i : Nat)) rfl (by kernel_rfl) (by kernel_rfl) (by kernel_rfl) (fun _ _ _ h => h) (by kernel_rfl) (by kernel_rfl) (fun _ _ => by kernel_rfl) hq0 ?_
              simp only [Act.put, List.setIfInBounds_toArray, List.set_cons_succ, List.set_cons_zero]
              refine gsem 2 (some 36) (.pointer (some ⟨b20, off20 + i * 8, none⟩)) rfl (by kernel_rfl) (by kernel_rfl) (by kernel_rfl) (fun _ _ _ h => h) (by kernel_rfl) (by kernel_rfl) (fun X hX => ex_indexA 22 8 i unSs idSs rfl rfl hAb rfl hib) hq0 ?_
              simp only [Act.put, List.setIfInBounds_toArray, List.set_cons_succ, List.set_cons_zero]
              refine gsem 3 (some 37) (.agg (bb.cs BA bc).toArray) rfl (by kernel_rfl) (by kernel_rfl) (by kernel_rfl) (fun _ _ _ h => h) (by kernel_rfl) (by kernel_rfl) (fun X hX => by obtain ⟨ys, lw, hZ⟩ := hX; exact ex_loadR (vs := bb.cs BA bc) 34 8 rwS szS rfl rfl (rangeAt_fr hrgb hbb hZ.hq.fr) rfl) hq0 ?_
              simp only [Act.put, List.setIfInBounds_toArray, List.set_cons_succ, List.set_cons_zero]
              refine gsem 4 (some 38) (.agg (a.cs AA ac).toArray) rfl (by kernel_rfl) (by kernel_rfl) (by kernel_rfl) (fun _ _ _ h => h) (by kernel_rfl) (by kernel_rfl) (fun X hX => by obtain ⟨ys, lw, hZ⟩ := hX; exact ex_loadN (vs := a.cs AA ac) 34 8 rwS szS rfl rfl (hZ.hq.get 0 rfl) rfl rfl) hq0 ?_
              simp only [Act.put, List.setIfInBounds_toArray, List.set_cons_succ, List.set_cons_zero]
              refine wpAnyH_ready (rs := [5]) (by kernel_rfl) (by simp) (gcallR 5 (some 39) rfl (by kernel_rfl) (by kernel_rfl) (by kernel_rfl) (hcc) ?_ AllReadyH.nil)
              rintro e Y5 ⟨lv5, rfl, hY5⟩
              have ht5 := ht0.tell hY5
              have hq5 : ∃ ys lw, TS w Y5 [] w.heap.size t ((i : Int) + 1) ys lw [(B8, a.cs AA ac)] := ⟨_, _, ht5⟩
              refine ⟨_, rfl, hq5, ?_⟩
              simp only [Act.put, List.setIfInBounds_toArray, List.set_cons_succ, List.set_cons_zero]
              refine wpAnyH_done (by kernel_rfl) ?_ _
              try simp only [Act.put, List.setIfInBounds_toArray, List.set_cons_succ, List.set_cons_zero]
              have LN : Hid (TS w Y5 [] w.heap.size t ((i : Int) + 1) (diffT bs ns (i + 1)) lv5 []) := hide (by rw [unhide HDT]; exact TS.left (L := []) ht5)
              have hcl := chgL_len ((i : Int) + 1) bb a
              have HDL2 : Hid ((diffT bs ns (i + 1)).length ≤ 1203 * (i + 1)) := hide (by rw [unhide HDT, List.length_append]; omega)
              clear hssb hplb hAb hbb hrpb hrgb hss hpl hrp hcap hib hdl2 ht0 hb1 ha1 hz60 hlt60 hcc hq0 hS0 ht5 hq5 hY5 hcl LT
              go_wp2_with (first | go_skip | ((with_reducible show wpList _ _ _ _ _ _); first | ((refine rd (by rfl) (ex_lenG 22 34 Tryz.underlying22 rfl rfl) ?_); simp only [Act.put, List.setIfInBounds_toArray, List.set_cons_succ, List.set_cons_zero])))
              go_roundg (ns.length - (i + 1))
              case measure => have := unhide HLT; omega
              case rel => exact ⟨i + 1, by go_num, by have := unhide HLT; omega, by omega, unhide HDL2, _, _, LN⟩
            · have HDT := hide (diffT_made ha (List.getElem?_eq_none (show bs.length ≤ i by omega)))
              have dib : decide ((i : Int) < (bs.length : Int)) = false := decide_eq_false (by omega)
              clear hib ha
              go_wp2_with (first | go_skip | ((with_reducible show wpList _ _ _ _ _ _); first | ((refine rd (by rfl) (ex_lenG 22 34 Tryz.underlying22 rfl rfl) ?_); simp only [Act.put, List.setIfInBounds_toArray, List.set_cons_succ, List.set_cons_zero]) | ((refine rd (by rfl) (ex_indexA 22 8 i unSs idSs rfl rfl (unhide HA) rfl (unhide HLT)) ?_); simp only [Act.put, List.setIfInBounds_toArray, List.set_cons_succ, List.set_cons_zero]) | ((refine rd (by rfl) (ex_loadR (vs := a.cs AA ac) 34 8 rwS szS rfl rfl (unhide HA2 _ (unhide LT).hq.fr) rfl) ?_); simp only [Act.put, List.setIfInBounds_toArray, List.set_cons_succ, List.set_cons_zero]) | ((refine alT 34 (zeroS.cs none 0) (by rfl) rfl (fun w => by kernel_rfl) (Nat.succ_pos _) (unhide LT) ?_); intro X8 B8 hE8 L8 hb8; have hB8 := hide (Nat.le_trans (unhide LT).hq.fr.size (Nat.le_of_eq hE8.symm)); replace LT := hide L8; clear L8 hb8 hE8; simp only [Act.put, List.setIfInBounds_toArray, List.set_cons_succ, List.set_cons_zero]) | ((refine stT (vs := a.cs AA ac) 0 34 (by rfl) rfl rfl rfl rfl (shcs_one _ _ _) szS (unhide LT) rfl (by simp [cput, SH.cs, VV.cs, zeroS, zeroV]) (Or.inr (unhide hB8)) ?_); intro X9 L9 hf9; replace LT := hide L9; clear L9 hf9; simp only [Act.put, List.setIfInBounds_toArray, List.set_cons_succ, List.set_cons_zero]) | ((refine rd (by rfl) (ex_addI rfl rfl rfl hw1) ?_); simp only [Act.put, List.setIfInBounds_toArray, List.set_cons_succ, List.set_cons_zero]) | ((refine rd (by rfl) (ex_ltI rfl rfl rfl dib) ?_); simp only [Act.put, List.setIfInBounds_toArray, List.set_cons_succ, List.set_cons_zero]) | ((refine stO (by rfl) rfl rfl rfl (unhide LT) ?_); intro X10 L10; replace LT := hide L10; clear L10; simp only [Act.put, List.setIfInBounds_toArray, List.set_cons_succ, List.set_cons_zero]) | ((refine rd (by rfl) (ex_loadN (vs := a.cs AA ac) 34 8 rwS szS rfl rfl ((unhide LT).hq.get 0 rfl) rfl rfl) ?_); simp only [Act.put, List.setIfInBounds_toArray, List.set_cons_succ, List.set_cons_zero])))
              have ha1 := (unhide HAX).2.2.1.ts (fun j p hp b off hb => by simp) (unhide LT)
              have hcc := made_any a AA ac w.heap.size t ((i : Int) + 1) _ lw _ (unhide LT).ti ha1.1 ha1.2 (by have := (unhide HAX).2.1; have := unhide HDL; have := unhide HZ2; have := unhide HLT; omega) (unhide LT).hq.fr.size (unhide HAX).1
              unfold SH.agg at hcc
              refine hcc.mono ?_
              clear hcc ha1
              rintro e Y5 ⟨lv5, rfl, hY5⟩
              replace LT := hide ((unhide LT).tell hY5)
              clear hY5
              have LN : Hid (TS w Y5 [] w.heap.size t ((i : Int) + 1) (diffT bs ns (i + 1)) lv5 []) := hide (by rw [unhide HDT]; exact TS.left (L := []) (unhide LT))
              have HDL2 : Hid ((diffT bs ns (i + 1)).length ≤ 1203 * (i + 1)) := hide (by rw [unhide HDT, List.length_append]; have := (unhide HAX).2.1; have := unhide HDL; simp [madeL]; omega)
              clear LT
              go_wp2_with (first | go_skip | ((with_reducible show wpList _ _ _ _ _ _); first | ((refine rd (by rfl) (ex_lenG 22 34 Tryz.underlying22 rfl rfl) ?_); simp only [Act.put, List.setIfInBounds_toArray, List.set_cons_succ, List.set_cons_zero])))
              go_roundg (ns.length - (i + 1))
              case measure => have := unhide HLT; omega
              case rel => exact ⟨i + 1, by go_num, by have := unhide HLT; omega, by omega, unhide HDL2, _, _, LN⟩
          · obtain rfl : i = ns.length := by omega
            clear hlt hil hgm hdl
            go_wp2_with (first | go_skip | ((with_reducible show wpList _ _ _ _ _ _); first | ((refine rd (by rfl) (ex_lenG 22 34 Tryz.underlying22 rfl rfl) ?_); simp only [Act.put, List.setIfInBounds_toArray, List.set_cons_succ, List.set_cons_zero]) | ((refine rd (by rfl) (ex_load1 36 Tryz.isAgg36 rfl rfl ((unhide LT).ti.hold) rfl) ?_); simp only [Act.put, List.setIfInBounds_toArray, List.set_cons_succ, List.set_cons_zero])))
            go_ret2
            exact ⟨lw, 0, _, rfl, (unhide LT).ti.own, (unhide LT).hq.fr.below, .inr (.inr ⟨unhide HLE, by rw [(unhide HDD).1, (unhide HDD).2]; rfl, rfl, rfl⟩)⟩
      · go_wp2_with (first | go_skip | ((with_reducible show wpList _ _ _ _ _ _); first | ((refine rd (by rfl) (ex_lenG 22 34 Tryz.underlying22 rfl rfl) ?_); simp only [Act.put, List.setIfInBounds_toArray, List.set_cons_succ, List.set_cons_zero])))
        go_ret2
        exact ⟨.slice none 0 0, 5, [], rfl, ⟨rfl, .inl ⟨rfl, rfl⟩⟩, (unhide LL).fr.below, .inr (.inl ⟨unhide HLE, by rw [(unhide HDD).1, (unhide HDD).2]; rfl, rfl, rfl, rfl⟩)⟩
    · go_wp2_with (first | go_skip | ((with_reducible show wpList _ _ _ _ _ _); first | ((refine rd (by rfl) (ex_lenG 22 34 Tryz.underlying22 rfl rfl) ?_); simp only [Act.put, List.setIfInBounds_toArray, List.set_cons_succ, List.set_cons_zero])))
      go_ret2
      exact ⟨.slice none 0 0, 5, [], rfl, ⟨rfl, .inl ⟨rfl, rfl⟩⟩, (unhide LL).fr.below, .inr (.inl ⟨unhide HLE, by rw [(unhide HDD).1, (unhide HDD).2]; rfl, rfl, rfl, rfl⟩)⟩
end Go.Proofs.YtcflglloopgieaaGreatDoor
