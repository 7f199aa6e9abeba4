import Derived.Test.YtcflglloopgieaaGreatDoorQw

/-! Ip -/
namespace Go.Proofs.YtcflglloopgieaaGreatDoor
open Go Go.Proofs Go.Maps Go.RowKit FM
set_option linter.unusedSimpArgs false
set_option linter.unusedVariables false
set_option maxHeartbeats 1000000
def madeL (o : Int) (s : SH) : List DL := makeL o s :: s.ps.map (putL o)
theorem take_map (o : Int) {l : List PR} {i : Nat} {p : PR} (hp : l[i]? = some p) : (l.take (i + 1)).map (putL o) = (l.take i).map (putL o) ++ [putL o p] := by
  obtain ⟨hi, rfl⟩ := List.getElem?_eq_some_iff.1 hp
  rw [List.take_succ_eq_append_getElem hi, List.map_append]
  rfl
theorem rangeAt_far {w X : World} {b p : Nat} {cs : List Value} {E : List Nat} (h : w.rangeAt b p cs) (hb : b < w.heap.size) (hf : Fr w X E) (hE : b ∉ E) : X.rangeAt b p cs := fun j v hv => by
  have e := h j v hv
  have h1 := hf.block b hb hE
  unfold World.cell? at e ⊢
  dsimp only at e ⊢
  rw [h1]
  exact e
/-- A row's block is none of these. -/
def Out (A : Option Addr) (l : List PR) (E : List Nat) : Prop := ∀ (j : Nat) (p : PR), l[j]? = some p → ∀ b off, A = some ⟨b, off, none⟩ → b ∉ E
set_option maxHeartbeats 2000000 in
set_option maxRecDepth 100000 in
theorem made_any (s : SH) (SA : Option Addr) (sc : Nat) (b0 t : Nat) (o : Int) (xs : List DL) (lv : Value) (X : World) (hT : TI b0 X t o xs lv) (hW : ReadsP X SA s.ps) (hN : Out SA s.ps (t :: lv.ownBlock.toList)) (hx : xs.length + 1 + s.ps.length ≤ 100000) (h0 : b0 ≤ X.heap.size) (hs : SS s) : Calls Tryz.prog 32 #[.pointer (some ⟨t, 0, none⟩), s.agg SA sc] X (TPost X b0 t o xs (madeL o s) lv) := by
  have HN := hide hN
  clear hN
  have LL := hide (TS.start hT)
  have hv := fun w => newValue_any s.p w hs.1
  simp only [vagg] at hv
  unfold SH.agg
  clear hT
  go_enter Tryz.func32, Tryz.ntmps32
  go_wp2_with (first | go_skip | ((with_reducible show wpList _ _ _ _ _ _); first | ((refine bxT 34 (s.cs SA sc) (by rfl) rfl rfl rfl (Nat.succ_pos _) (unhide LL) ?_); intro X3 B3 hE3 L3 hb3; have hB3 := hide (Nat.le_trans (unhide LL).hq.fr.size (Nat.le_of_eq hE3.symm)); replace LL := hide L3; clear L3 hb3 hE3; simp only [Act.put, List.setIfInBounds_toArray, List.set_cons_succ, List.set_cons_zero])))
  have ht0 : TS X _ (t :: lv.ownBlock.toList) b0 t o xs lv [(B3, s.cs SA sc)] := (unhide LL).drew
  have hq0 : ∃ ys lw, TS X _ (t :: lv.ownBlock.toList) b0 t o ys lw [(B3, s.cs SA sc)] := ⟨_, _, ht0⟩
  refine wp_region_held_drew (P := Tryz.prog) (S := fun Z => ∃ ys lw, TS X Z (t :: lv.ownBlock.toList) b0 t o ys lw [(B3, s.cs SA sc)]) (by kernel_rfl) hq0 (fun hS0 => ?_)
  refine gsem 0 (some 6) (.pointer (some ⟨t, 0, none⟩)) rfl (by kernel_rfl) (by kernel_rfl) (by kernel_rfl) (fun _ _ _ h => h) (by kernel_rfl) (by kernel_rfl) (fun _ _ => by kernel_rfl) hq0 ?_
  simp only [Act.put, List.setIfInBounds_toArray, List.set_cons_succ, List.set_cons_zero]
  refine gsem 1 (some 7) (.pointer (some ⟨B3, 0, none⟩)) rfl (by kernel_rfl) (by kernel_rfl) (by kernel_rfl) (fun _ _ _ h => h) (by kernel_rfl) (by kernel_rfl) (fun _ _ => by kernel_rfl) hq0 ?_
  simp only [Act.put, List.setIfInBounds_toArray, List.set_cons_succ, List.set_cons_zero]
  refine gsem 2 (some 8) (.int .i64 s.c) rfl (by kernel_rfl) (by kernel_rfl) (by kernel_rfl) (fun _ _ _ h => h) (by kernel_rfl) (by kernel_rfl) (fun X hX => by obtain ⟨ys, lw, hZ⟩ := hX; exact ex_load1 3 Tryz.isAgg3 rfl rfl (hZ.hq.get 0 rfl) rfl) hq0 ?_
  simp only [Act.put, List.setIfInBounds_toArray, List.set_cons_succ, List.set_cons_zero]
  refine gsem 3 (some 9) (.pointer (some ⟨B3, 1, none⟩)) rfl (by kernel_rfl) (by kernel_rfl) (by kernel_rfl) (fun _ _ _ h => h) (by kernel_rfl) (by kernel_rfl) (fun _ _ => by kernel_rfl) hq0 ?_
  simp only [Act.put, List.setIfInBounds_toArray, List.set_cons_succ, List.set_cons_zero]
  refine gsem 4 (some 10) (.agg s.p.cs.toArray) rfl (by kernel_rfl) (by kernel_rfl) (by kernel_rfl) (fun _ _ _ h => h) (by kernel_rfl) (by kernel_rfl) (fun X hX => by obtain ⟨ys, lw, hZ⟩ := hX; exact ex_loadN (vs := s.p.cs) 31 5 rwV szV rfl rfl (hZ.hq.get 0 rfl) rfl rfl) hq0 ?_
  simp only [Act.put, List.setIfInBounds_toArray, List.set_cons_succ, List.set_cons_zero]
  refine gsem 6 (some 12) (.pointer (some ⟨B3, 6, none⟩)) rfl (by kernel_rfl) (by kernel_rfl) (by kernel_rfl) (fun _ _ _ h => h) (by kernel_rfl) (by kernel_rfl) (fun _ _ => by kernel_rfl) hq0 ?_
  simp only [Act.put, List.setIfInBounds_toArray, List.set_cons_succ, List.set_cons_zero]
  refine gsem 7 (some 13) (.bool s.x) rfl (by kernel_rfl) (by kernel_rfl) (by kernel_rfl) (fun _ _ _ h => h) (by kernel_rfl) (by kernel_rfl) (fun X hX => by obtain ⟨ys, lw, hZ⟩ := hX; exact ex_load1 4 Tryz.isAgg4 rfl rfl (hZ.hq.get 0 rfl) rfl) hq0 ?_
  simp only [Act.put, List.setIfInBounds_toArray, List.set_cons_succ, List.set_cons_zero]
  refine wpAnyH_ready (rs := [5]) (by kernel_rfl) (by simp) (gcallR 5 (some 11) rfl (by kernel_rfl) (by kernel_rfl) (by kernel_rfl) (hv _) ?_ AllReadyH.nil)
  rintro e Y5 ⟨rfl, hY5⟩
  have ht5 := ht0.on hY5
  have hq5 : ∃ ys lw, TS X Y5 (t :: lv.ownBlock.toList) b0 t o ys lw [(B3, s.cs SA sc)] := ⟨_, _, ht5⟩
  refine ⟨_, rfl, hq5, ?_⟩
  simp only [Act.put, List.setIfInBounds_toArray, List.set_cons_succ, List.set_cons_zero]
  refine gsem 8 (some 14) (.agg (DL.cs ⟨0, 1, s.c, s.x, s.p, zeroK, zeroD⟩).toArray) rfl (by kernel_rfl) (by kernel_rfl) (by kernel_rfl) (fun _ _ _ h => h) (by kernel_rfl) (by kernel_rfl) (fun X hX => ex_bMake s.c s.p s.x rfl rfl rfl rfl rfl) hq5 ?_
  simp only [Act.put, List.setIfInBounds_toArray, List.set_cons_succ, List.set_cons_zero]
  refine wpAnyH_ready (rs := [9]) (by kernel_rfl) (by simp) (gcallR 9 (some 15) rfl (by kernel_rfl) (by kernel_rfl) (by kernel_rfl) (tell_any ⟨0, 1, s.c, s.x, s.p, zeroK, zeroD⟩ b0 t o xs lv _ ht5.ti (by omega) (Nat.le_trans h0 ht5.hq.fr.size)) ?_ AllReadyH.nil)
  rintro e Y9 ⟨lv9, rfl, hY9⟩
  have ht9 := ht5.tell hY9
  have hq9 : ∃ ys lw, TS X Y9 (t :: lv.ownBlock.toList) b0 t o ys lw [(B3, s.cs SA sc)] := ⟨_, _, ht9⟩
  refine ⟨_, rfl, hq9, ?_⟩
  simp only [Act.put, List.setIfInBounds_toArray, List.set_cons_succ, List.set_cons_zero]
  refine wpAnyH_done (by kernel_rfl) ?_ _
  try simp only [Act.put, List.setIfInBounds_toArray, List.set_cons_succ, List.set_cons_zero]
  have LM : Hid (∃ lw, TS X Y9 (t :: lv.ownBlock.toList) b0 t o (xs ++ ([makeL o s] ++ (s.ps.take 0).map (putL o))) lw [(B3, s.cs SA sc)]) := hide ⟨_, by simpa [makeL] using ht9⟩
  have HW := hide hW
  have HX := hide hx
  have H0 := hide h0
  have HS := hide hs.2
  clear LL hq0 ht0 hS0 hq5 ht5 hY5 hq9 ht9 hY9 hv hW hx h0 hs
  obtain ⟨lw9, hlw9⟩ := unhide LM
  have LL := hide hlw9
  clear LM hlw9
  go_wp2_with (first | go_skip | ((with_reducible show wpList _ _ _ _ _ _); first | ((refine rd (by rfl) (ex_load1 32 Tryz.isAgg32 rfl rfl ((unhide LL).hq.get 0 rfl) rfl) ?_); simp only [Act.put, List.setIfInBounds_toArray, List.set_cons_succ, List.set_cons_zero]) | ((refine rd (by rfl) (ex_lenG 32 61 Tryz.underlying32 rfl rfl) ?_); simp only [Act.put, List.setIfInBounds_toArray, List.set_cons_succ, List.set_cons_zero])))
  go_loopg [19] s.ps.length (fun gm s19 wr => ∃ i : Nat, s19 = .int .i64 (i : Nat) ∧ i ≤ s.ps.length ∧ s.ps.length - i ≤ gm ∧ Hid (∃ lw, TS X wr (t :: lv.ownBlock.toList) b0 t o (xs ++ ([makeL o s] ++ (s.ps.take i).map (putL o))) lw [(B3, s.cs SA sc)]))
  case atStart => exact ⟨0, rfl, by omega, by omega, hide ⟨_, unhide LL⟩⟩
  case round =>
    clear LL
    obtain ⟨i, rfl, hil, hgm, LM⟩ := hrel
    obtain ⟨lw, hlw⟩ := unhide LM
    have LL := hide hlw
    clear LM hlw
    by_cases hlt : i < s.ps.length
    · have dlt : decide ((i : Int) < (s.ps.length : Int)) = true := decide_eq_true (by omega)
      have hw1 : IntKind.i64.wrap ((i : Int) + 1) = (i : Int) + 1 := by have := unhide HX; rw [IntKind.wrap_i64]; omega
      obtain ⟨p, hp⟩ : ∃ p, s.ps[i]? = some p := ⟨_, List.getElem?_eq_getElem hlt⟩
      obtain ⟨_, b, off, hA, hb, hrg⟩ := (unhide HW) i p hp
      have HA := hide hA
      have HA2 : Hid (∀ Z, Fr X Z (t :: lv.ownBlock.toList) → Z.rangeAt b (off + i * 20) p.cs) := hide (fun Z hZ => rangeAt_far hrg hb hZ ((unhide HN) i p hp b off hA))
      have HLT := hide hlt
      have HSP := hide ((unhide HS) p (List.mem_of_getElem? hp))
      have HTM := hide (take_map o hp)
      have HXL : Hid ((xs ++ ([makeL o s] ++ (s.ps.take i).map (putL o))).length ≤ 100000) := hide (by have := unhide HX; simp; omega)
      clear hA hb hrg hlt hil hp
      go_wp2_with (first | go_skip | ((with_reducible show wpList _ _ _ _ _ _); first | ((refine rd (by rfl) (ex_indexA 32 20 i unPs idPs rfl rfl (unhide HA) rfl (unhide HLT)) ?_); simp only [Act.put, List.setIfInBounds_toArray, List.set_cons_succ, List.set_cons_zero]) | ((refine rd (by rfl) (ex_loadR (vs := p.cs) 61 20 rwP szP rfl rfl (unhide HA2 _ (unhide LL).hq.fr) rfl) ?_); simp only [Act.put, List.setIfInBounds_toArray, List.set_cons_succ, List.set_cons_zero]) | ((refine alT 61 (zeroP.cs) (by rfl) rfl (fun w => by kernel_rfl) (Nat.succ_pos _) (unhide LL) ?_); intro X5 B5 hE5 L5 hb5; have hB5 := hide (Nat.le_trans (unhide LL).hq.fr.size (Nat.le_of_eq hE5.symm)); replace LL := hide L5; clear L5 hb5 hE5; simp only [Act.put, List.setIfInBounds_toArray, List.set_cons_succ, List.set_cons_zero]) | ((refine stT (vs := p.cs) 1 61 (by rfl) rfl rfl rfl rfl (pcs_one p) szP (unhide LL) rfl (by simp [cput, PR.cs, SH.cs, VV.cs, KK.cs, DD.cs, CO.cs, DL.cs, zeroP, zeroS, zeroD, zeroV]) (Or.inr (unhide hB5)) ?_); intro X6 L6 hf6; replace LL := hide L6; clear L6 hf6; simp only [Act.put, List.setIfInBounds_toArray, List.set_cons_succ, List.set_cons_zero]) | ((refine rd (by rfl) (ex_loadN (vs := p.cs) 61 20 rwP szP rfl rfl ((unhide LL).hq.get 1 rfl) rfl rfl) ?_); simp only [Act.put, List.setIfInBounds_toArray, List.set_cons_succ, List.set_cons_zero]) | ((refine rd (by rfl) (ex_load1 32 Tryz.isAgg32 rfl rfl ((unhide LL).hq.get 0 rfl) rfl) ?_); simp only [Act.put, List.setIfInBounds_toArray, List.set_cons_succ, List.set_cons_zero]) | ((refine rd (by rfl) (ex_lenG 32 61 Tryz.underlying32 rfl rfl) ?_); simp only [Act.put, List.setIfInBounds_toArray, List.set_cons_succ, List.set_cons_zero])))
      have hpu := put_anyT p b0 t o _ lw _ (unhide LL).ti (unhide HXL) (Nat.le_trans (unhide H0) (unhide LL).hq.fr.size) (unhide HSP)
      rw [pagg] at hpu
      refine hpu.mono ?_
      clear hpu
      rintro e Y4 ⟨lv4, rfl, hY4⟩
      replace LL := hide ((unhide LL).tell hY4)
      clear hY4
      have LN : Hid (∃ lw, TS X Y4 (t :: lv.ownBlock.toList) b0 t o (xs ++ ([makeL o s] ++ (s.ps.take (i + 1)).map (putL o))) lw [(B3, s.cs SA sc)]) := hide ⟨lv4, by rw [unhide HTM]; have := TS.left (L := [(B3, s.cs SA sc)]) (unhide LL); simpa using this⟩
      clear LL
      go_wp2_with (first | go_skip | ((with_reducible show wpList _ _ _ _ _ _); first | ((refine rd (by rfl) (ex_indexA 32 20 i unPs idPs rfl rfl (unhide HA) rfl (unhide HLT)) ?_); simp only [Act.put, List.setIfInBounds_toArray, List.set_cons_succ, List.set_cons_zero]) | ((refine rd (by rfl) (ex_loadR (vs := p.cs) 61 20 rwP szP rfl rfl (unhide HA2 _ (unhide LL).hq.fr) rfl) ?_); simp only [Act.put, List.setIfInBounds_toArray, List.set_cons_succ, List.set_cons_zero]) | ((refine alT 61 (zeroP.cs) (by rfl) rfl (fun w => by kernel_rfl) (Nat.succ_pos _) (unhide LL) ?_); intro X5 B5 hE5 L5 hb5; have hB5 := hide (Nat.le_trans (unhide LL).hq.fr.size (Nat.le_of_eq hE5.symm)); replace LL := hide L5; clear L5 hb5 hE5; simp only [Act.put, List.setIfInBounds_toArray, List.set_cons_succ, List.set_cons_zero]) | ((refine stT (vs := p.cs) 1 61 (by rfl) rfl rfl rfl rfl (pcs_one p) szP (unhide LL) rfl (by simp [cput, PR.cs, SH.cs, VV.cs, KK.cs, DD.cs, CO.cs, DL.cs, zeroP, zeroS, zeroD, zeroV]) (Or.inr (unhide hB5)) ?_); intro X6 L6 hf6; replace LL := hide L6; clear L6 hf6; simp only [Act.put, List.setIfInBounds_toArray, List.set_cons_succ, List.set_cons_zero]) | ((refine rd (by rfl) (ex_loadN (vs := p.cs) 61 20 rwP szP rfl rfl ((unhide LL).hq.get 1 rfl) rfl rfl) ?_); simp only [Act.put, List.setIfInBounds_toArray, List.set_cons_succ, List.set_cons_zero]) | ((refine rd (by rfl) (ex_load1 32 Tryz.isAgg32 rfl rfl ((unhide LL).hq.get 0 rfl) rfl) ?_); simp only [Act.put, List.setIfInBounds_toArray, List.set_cons_succ, List.set_cons_zero]) | ((refine rd (by rfl) (ex_lenG 32 61 Tryz.underlying32 rfl rfl) ?_); simp only [Act.put, List.setIfInBounds_toArray, List.set_cons_succ, List.set_cons_zero])))
      go_roundg (s.ps.length - (i + 1))
      case measure => have := unhide HLT; omega
      case rel => exact ⟨i + 1, by go_num, by have := unhide HLT; omega, by omega, LN⟩
    · obtain rfl : i = s.ps.length := by omega
      clear hlt hil
      have LF : Hid (TP X b0 t o xs (madeL o s) lv lw wr) := hide (by have := (unhide LL).post; rw [List.take_length] at this; exact this)
      clear LL
      go_wp2
      go_end0
      exact ⟨_, rfl, unhide LF⟩
end Go.Proofs.YtcflglloopgieaaGreatDoor

/-! Iq -/
namespace Go.Proofs.YtcflglloopgieaaGreatDoor
open Go Go.Proofs Go.Maps Go.RowKit FM
set_option linter.unusedSimpArgs false
set_option linter.unusedVariables false
set_option maxHeartbeats 1000000
def hit (is st : List PR) (p : PR) : Bool := match is[st.length]? with
  | none => false
  | some q => decide (q.k = p.k)
def stayT (is was : List PR) : Nat → List PR
  | 0 => []
  | i + 1 => match was[i]? with
    | none => stayT is was i
    | some p => if hit is (stayT is was i) p then stayT is was i ++ [p] else stayT is was i
def goT (o : Int) (is was : List PR) : Nat → List DL
  | 0 => []
  | i + 1 => match was[i]? with
    | none => goT o is was i
    | some p => if hit is (stayT is was i) p then goT o is was i else goT o is was i ++ [goneL o p.k]
theorem stayT_yes {o : Int} {is was : List PR} {i : Nat} {p : PR} (hp : was[i]? = some p) (h : hit is (stayT is was i) p = true) : stayT is was (i + 1) = stayT is was i ++ [p] ∧ goT o is was (i + 1) = goT o is was i := by
  simp [stayT, goT, hp, h]
theorem stayT_no {o : Int} {is was : List PR} {i : Nat} {p : PR} (hp : was[i]? = some p) (h : hit is (stayT is was i) p = false) : stayT is was (i + 1) = stayT is was i ∧ goT o is was (i + 1) = goT o is was i ++ [goneL o p.k] := by
  simp [stayT, goT, hp, h]
theorem stayT_len (o : Int) (is was : List PR) : ∀ i, (stayT is was i).length ≤ is.length ∧ (stayT is was i).length ≤ i ∧ (goT o is was i).length ≤ i
  | 0 => by simp [stayT, goT]
  | i + 1 => by
    obtain ⟨h1, h2, h3⟩ := stayT_len o is was i
    cases hp : was[i]? with
    | none =>
      simp [stayT, goT, hp]
      omega
    | some p =>
      cases hh : hit is (stayT is was i) p with
      | false =>
        simp [stayT, goT, hp, hh]
        omega
      | true =>
        simp only [stayT, goT, hp, hh, if_true, List.length_append, List.length_singleton]
        have : (stayT is was i).length < is.length := by
          unfold hit at hh
          cases hq : is[(stayT is was i).length]? with
          | none => simp [hq] at hh
          | some q => exact (List.getElem?_eq_some_iff.1 hq).1
        omega
def chT (o : Int) (is st : List PR) : Nat → List DL
  | 0 => []
  | i + 1 => match st[i]?, is[i]? with
    | some p, some q => if eqDD p.d q.d then chT o is st i else chT o is st i ++ [putL o q]
    | _, _ => chT o is st i
theorem chT_yes {o : Int} {is st : List PR} {i : Nat} {p q : PR} (hp : st[i]? = some p) (hq : is[i]? = some q) (h : eqDD p.d q.d = true) : chT o is st (i + 1) = chT o is st i := by simp [chT, hp, hq, h]
theorem chT_no {o : Int} {is st : List PR} {i : Nat} {p q : PR} (hp : st[i]? = some p) (hq : is[i]? = some q) (h : eqDD p.d q.d = false) : chT o is st (i + 1) = chT o is st i ++ [putL o q] := by simp [chT, hp, hq, h]
theorem chT_len (o : Int) (is st : List PR) : ∀ i, (chT o is st i).length ≤ i
  | 0 => by simp [chT]
  | i + 1 => by
    have h1 := chT_len o is st i
    unfold chT
    split
    · split
      · omega
      · simp
        omega
    · omega
def propsL (o : Int) (was is : List PR) : List DL := goT o is was was.length ++ (chT o is (stayT is was was.length) (stayT is was was.length).length ++ (is.drop (stayT is was was.length).length).map (putL o))
/-- A row of properties of our own, beside the tale and our boxes. -/
structure SRow (X Z : World) (t : Nat) (lw : Value) (Bs : List Nat) (st : List PR) (sv : Value) : Prop where
  own : Z.ownsRow X.heap.size 61 20 sv st.length (flatP st)
  nt : sv.ownBlock ≠ some t
  nl : ∀ g, sv.ownBlock = some g → lw.ownBlock ≠ some g
  nb : ∀ b ∈ Bs, sv.ownBlock ≠ some b
theorem SRow.on {X Z Y : World} {t : Nat} {lw sv : Value} {Bs : List Nat} {st : List PR} (h : SRow X Z t lw Bs st sv) (k : Below Z.heap.size Z Y) : SRow X Y t lw Bs st sv := ⟨own_blk h.own (fun g hg => k.block g (World.ownsRow.lt h.own g hg).2), h.nt, h.nl, h.nb⟩
theorem SRow.add {X Z Y : World} {t b : Nat} {lw sv : Value} {Bs : List Nat} {st : List PR} (h : SRow X Z t lw Bs st sv) (k : Below Z.heap.size Z Y) (hb : b = Z.heap.size) : SRow X Y t lw (b :: Bs) st sv := ⟨own_blk h.own (fun g hg => k.block g (World.ownsRow.lt h.own g hg).2), h.nt, h.nl, fun c hc => by
  rcases List.mem_cons.1 hc with rfl | hc
  · intro e
    have := (World.ownsRow.lt h.own _ e).2
    omega
  · exact h.nb c hc⟩
theorem SRow.far {X Z Y : World} {t b : Nat} {lw sv : Value} {Bs : List Nat} {st : List PR} (h : SRow X Z t lw Bs st sv) (k : Fr Z Y [b]) (hb : b ∈ Bs) : SRow X Y t lw Bs st sv := ⟨own_blk h.own (fun g hg => k.block g (World.ownsRow.lt h.own g hg).2 (by
  intro e
  obtain rfl : g = b := by simpa using e
  exact h.nb g hb hg)), h.nt, h.nl, h.nb⟩
theorem SRow.drop {X Z : World} {t : Nat} {lw sv : Value} {Bs : List Nat} {st : List PR} (h : SRow X Z t lw Bs st sv) : SRow X Z t lw [] st sv := ⟨h.own, h.nt, h.nl, by simp⟩
theorem SRow.tell {X Z Y : World} {b0 t : Nat} {o : Int} {ys ds : List DL} {lw lw' sv : Value} {Bs : List Nat} {st : List PR} (h : SRow X Z t lw Bs st sv) (k : TP Z b0 t o ys ds lw lw' Y) : SRow X Y t lw' Bs st sv := ⟨own_blk h.own (fun g hg => k.fr.block g (World.ownsRow.lt h.own g hg).2 (by
  intro e
  rcases List.mem_cons.1 e with rfl | e
  · exact h.nt hg
  · exact h.nl g hg (by simpa using e))), h.nt, fun g hg e => by
    rcases k.fre g e with e2 | e2
    · exact h.nl g hg e2
    · have := (World.ownsRow.lt h.own g hg).2
      omega, h.nb⟩
/-- The row of our own grows. -/
theorem SRow.grow {X Z Y : World} {E : List Nat} {b0 t : Nat} {o : Int} {ys : List DL} {lw sv : Value} {Bs : List Nat} {st : List PR} {p : PR} {L : List (Nat × List Value)} {A : Option Addr} {c : Nat} (h : SRow X Z t lw Bs st sv) (hL : TS X Z E b0 t o ys lw L) (hB : ∀ q ∈ L, sv.ownBlock ≠ some q.1) (hO : Y.ownsRow X.heap.size 61 20 (.slice A (st.length + 1) c) (st.length + 1) (flatP st ++ p.cs)) (hg : Z.grownBy Y sv.ownBlock) (hF : Fresh Z sv (.slice A (st.length + 1) c)) (hbs : ∀ b ∈ Bs, b < Z.heap.size) :
    SRow X Y t lw Bs (st ++ [p]) (.slice A (st.length + 1) c) ∧ TS X Y E b0 t o ys lw L := by
  have hne : ∀ g, g < Z.heap.size → sv.ownBlock ≠ some g → (Value.slice A (st.length + 1) c).ownBlock ≠ some g := fun g hg hs e => by
    rcases hF with e2 | e2
    · exact hs (e2 ▸ e)
    · rw [e2] at e
      have := Option.some.inj e
      omega
  have hsz : ∀ g, sv.ownBlock = some g → X.heap.size ≤ g := fun g hg => (World.ownsRow.lt h.own g hg).1
  have hfr : Fr Z Y sv.ownBlock.toList := Fr.grown hg
  refine ⟨⟨?_, hne t hL.ti.lt h.nt, fun g hg e => ?_, fun b hb => hne b (hbs b hb) (h.nb b hb)⟩, ⟨?_, ?_, hL.sep, hL.ct, hL.cl⟩⟩
  · rw [List.length_append, show flatP (st ++ [p]) = flatP st ++ p.cs by simp [flatP]]
    exact hO
  · exact hne g (World.ownsRow.lt hL.ti.own g e).2 (fun e2 => h.nl g e2 e) hg
  · exact hL.ti.far (hfr.block t hL.ti.lt (by simpa using h.nt)) (fun g hg2 => hfr.block g (World.ownsRow.lt hL.ti.own g hg2).2 (by
      intro e
      exact h.nl g (by simpa using e) hg2))
  · exact hL.hq.step hfr (fun b hb => .inr (hsz b (by simpa using hb))) (fun q hq hb => hB q hq (by simpa using hb))
theorem sliceU (A : Option Addr) (n cap p : Nat) (hp : p ≤ n) (hn : n ≤ cap) (hA : n ≠ 0 → ∃ b off, A = some ⟨b, off, none⟩) (w : World) : ∃ A' : Option Addr, (∀ b off, A = some ⟨b, off, none⟩ → n - p ≠ 0 → A' = some ⟨b, off + p * 20, none⟩) ∧ (Instr.sliceAt 32 (.slice A n cap) (some (.int .i64 (p : Nat))) none none).run Tryz.prog w = .ok (.slice A' (n - p) (cap - p)) w := by
  by_cases h0 : p = 0
  · subst h0
    refine ⟨A, fun b off h _ => by simpa using h, ?_⟩
    rw [run_sliceAt_slice (h := by kernel_rfl), run_slice_l (ht := by kernel_rfl) (h0 := by omega) (h1 := by omega)]
    have e : (sizeOf (Tryz.prog.elem 32)).run Tryz.prog w = .ok 20 w := by kernel_rfl
    rw [e]
    cases A <;> simp [sliced, Addr.add, Result.andThen]
  · obtain ⟨b, off, rfl⟩ := hA (by omega)
    refine ⟨if cap = p then some ⟨b, off, none⟩ else some ⟨b, off + p * 20, none⟩, fun b' off' h h2 => ?_, ?_⟩
    · rw [if_neg (by omega)]
      simp only [Option.some.injEq, Addr.mk.injEq] at h ⊢
      obtain ⟨rfl, rfl, -⟩ := h
      exact ⟨rfl, rfl, trivial⟩
    rw [run_sliceAt_slice (h := by kernel_rfl), run_slice_l (ht := by kernel_rfl) (h0 := by omega) (h1 := by omega)]
    have e : (sizeOf (Tryz.prog.elem 32)).run Tryz.prog w = .ok 20 w := by kernel_rfl
    rw [e]
    by_cases h1 : cap = p
    · simp [sliced, Addr.add, Result.andThen, h0, h1]
    · have h2 : ¬ p * 20 = 0 := by omega
      simp [sliced, Addr.add, Result.andThen, h0, h1, h2]
theorem ex_sliceU {o : Oper} {a : Act} {w : World} {x ix : Operand} {v u : Value} {p : Nat} (ho : o.op = .slice 32 x (some ix) none none) (hx : a.eval x = v) (hix : a.eval ix = .int .i64 (p : Nat)) (h : (Instr.sliceAt 32 v (some (.int .i64 (p : Nat))) none none).run Tryz.prog w = .ok u w) : (execOp a.eval o).run Tryz.prog w = .ok (.value u) w := by
  unfold execOp
  simp only [ho, hx, hix, Option.map_some, Option.map_none]
  simp [h]
theorem buildT {ops : Array Oper} {rest : List Oper} {Q : Exit → Act → World → Prop} {w w0 : World} {a : Act} {o : Oper} {E : List Nat} {L : List (Nat × List Value)} {b0 t : Nat} {ob : Int} {xs : List DL} {lv : Value} {x : Operand} (p : PR) (hw : Region.wanted o (yielded ops a.tmps) = true) (ho : o.op = .buildSlice 32 1 #[(0, x)]) (hx : a.eval x = .agg p.cs.toArray) (hL : TS w0 w E b0 t ob xs lv L)
    (h : ∀ X B, B = w.heap.size → TS w0 X E b0 t ob xs lv (L ++ [(B, p.cs)]) → Below w.heap.size w X → wpList Tryz.prog ops Q rest (a.put o.dst (.slice (some ⟨B, 0, none⟩) 1 1)) X) : wpList Tryz.prog ops Q (o :: rest) a w := by
  refine BigFrame.wpList_want hw fun K hK => ?_
  obtain ⟨i0, hi, hz0, hz1, hz2⟩ := info_parts inf46
  refine wp_buildSlice 32 61 1 _ ho p.cs.toArray i0 _ Tryz.underlying32 hi hz0 (by rw [hz1]; omega) (by rw [hz1]; omega) ?_ (hK _ _ (h _ _ rfl (hL.new p.cs 61 (Nat.succ_pos _)) ((Below.refl _ _).alloc (Nat.le_refl _) _)))
  rw [hz1]
  simp only [List.map_toArray, List.map_cons, List.map_nil, hx]
  exact fill_one 20 _ (.agg p.cs.toArray) (by simp) rfl
theorem reads_drop {X : World} {A A' : Option Addr} {l : List PR} {n : Nat} (h : ReadsP X A l) (hA : ∀ b off, A = some ⟨b, off, none⟩ → l.length - n ≠ 0 → A' = some ⟨b, off + n * 20, none⟩) : ReadsP X A' (l.drop n) := fun j p hp => by
  rw [List.getElem?_drop] at hp
  obtain ⟨h1, b, off, h2, h3, h4⟩ := h (n + j) p hp
  have hl := (List.getElem?_eq_some_iff.1 hp).1
  refine ⟨h1, b, off + n * 20, hA b off h2 (by omega), h3, ?_⟩
  rw [show off + n * 20 + j * 20 = off + (n + j) * 20 by omega]
  exact h4
theorem out_drop {A A' : Option Addr} {l : List PR} {n : Nat} {E : List Nat} {X : World} (h : Out A l E) (hR : ReadsP X A l) (hA : ∀ b off, A = some ⟨b, off, none⟩ → l.length - n ≠ 0 → A' = some ⟨b, off + n * 20, none⟩) : Out A' (l.drop n) E := fun j p hp b off hb => by
  rw [List.getElem?_drop] at hp
  obtain ⟨_, b2, off2, h2, _, _⟩ := hR (n + j) p hp
  have hl := (List.getElem?_eq_some_iff.1 hp).1
  have e := hA b2 off2 h2 (by omega)
  rw [hb] at e
  simp only [Option.some.injEq, Addr.mk.injEq] at e
  obtain ⟨rfl, -⟩ := e
  exact h (n + j) p hp _ _ h2
end Go.Proofs.YtcflglloopgieaaGreatDoor
