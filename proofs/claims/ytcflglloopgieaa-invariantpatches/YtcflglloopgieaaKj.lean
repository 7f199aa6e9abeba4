import Derived.Test.YtcflglloopgieaaKi
namespace Go.Proofs.Ytcflglloopgieaa
open Go Go.Proofs Go.Maps Go.RowKit FM
set_option linter.unusedSimpArgs false
set_option linter.unusedVariables false
set_option maxHeartbeats 1000000
section
variable {w X Y : World} {E : List Nat} {L : List Ob}
theorem Sy.apart (h : Sy w X E L) {i j : Nat} {a b : Ob} (hi : L[i]? = some a) (hj : L[j]? = some b) (hne : i ≠ j) : ∀ x ∈ a.bs, x ∉ b.bs := by
  obtain ⟨hil, hi'⟩ := List.getElem?_eq_some_iff.1 hi
  obtain ⟨hjl, hj'⟩ := List.getElem?_eq_some_iff.1 hj
  intro x hx hxb
  rcases Nat.lt_or_gt_of_ne hne with h1 | h1
  · have := List.pairwise_iff_getElem.1 h.dis i j hil hjl h1
    rw [hi', hj'] at this
    exact this x hx hxb
  · have := List.pairwise_iff_getElem.1 h.dis j i hjl hil h1
    rw [hi', hj'] at this
    exact this x hxb hx
theorem Sy.hold_grown (h : Sy w X E L) (i j : Nat) {base e s n B : Nat} {v : Value} {ys cs : List Value} (hi : L[i]? = some (rowO base e s v n ys)) (hj : L[j]? = some (boxO B cs)) (hne : j ≠ i) (hg : X.grownBy Y v.ownBlock) : Holds Y B cs :=
  (h.hold j hj).block (hg.block B (h.lt j hj B (by simp [boxO])) (fun e => h.apart hj hi hne B (by simp [boxO]) (by simp [rowO, ← e])))
end
section
variable {ops : Array Oper} {rest : List Oper} {Q : Exit → Act → World → Prop} {w w0 : World} {a : Act} {o : Oper} {E : List Nat} {L : List Ob}
/-- One more element. -/
theorem apS {t e : TypeId} {size bytes k B base : Nat} {z v : Value} {xs news : List Value} {s x : Operand} (i j : Nat) (hgd : o.guard = none) (ho : o.op = .call { callee := .builtin .append, args := #[s, x], argTypes := #[t, t] }) (hs : a.eval s = v) (hx : a.eval x = .slice (some ⟨B, 0, none⟩) 1 1)
    (ht : Try.prog.underlying t = some (.slice e)) (hi : (Try.prog.info? e).map (fun i => (i.zero, i.size, i.bytes)) = some (some z, size, bytes)) (hz : z.cells.size = size) (hsz : 0 < size) (hL : Sy w0 w E L) (hi1 : L[i]? = some (rowO base e size v k xs)) (hj1 : L[j]? = some (boxO B news)) (hl : news.length = size) (h1 : ∀ u ∈ news, u.oneCell' = true)
    (hn : k + 1 ≤ 1000000) (hby : bytes ≤ 10000) (hbase : base ≤ w.heap.size)
    (h : ∀ A c X, Sy w0 X E (L.set i (rowO base e size (.slice A (k + 1) c) (k + 1) (xs ++ news))) → wpList Try.prog ops Q rest (a.put o.dst (.slice A (k + 1) c)) X) : wpList Try.prog ops Q (o :: rest) a w :=
  append_any (m := 1) hgd ho hs hx ht hi hz hsz (hL.get i hi1) (hL.hold j hj1) (by rw [hl]; omega) h1 hn hby hbase (fun A c X h2 h3 h4 => h A c X (hL.row i hi1 h2 h3 h4))
theorem bsS {t e : TypeId} {size bytes : Nat} {z v : Value} {cs : List Value} {x : Operand} (hw : Region.wanted o (yielded ops a.tmps) = true) (ho : o.op = .buildSlice t 1 #[(0, x)]) (hx : a.eval x = v)
    (ht : Try.prog.underlying t = some (.slice e)) (hi : (Try.prog.info? e).map (fun i => (i.zero, i.size, i.bytes)) = some (some z, size, bytes)) (hs1 : size ≤ 100) (hv : v.cells.toList = cs) (hc : cs.length = size) (h0 : 0 < size) (hL : Sy w0 w E L)
    (h : ∀ X B, B = w.heap.size → Sy w0 X E (L ++ [boxO B cs]) → Below w.heap.size w X → wpList Try.prog ops Q rest (a.put o.dst (.slice (some ⟨B, 0, none⟩) 1 1)) X) : wpList Try.prog ops Q (o :: rest) a w := by
  refine BigFrame.wpList_want hw fun K hK => ?_
  have hP := hK _ _ (h _ _ rfl (hL.box cs e (by omega)) ((Below.refl _ _).alloc (Nat.le_refl _) _))
  unfold Oper.wp
  rw [ex_buildS ho hx ht hi hs1 hv hc h0]
  exact hP
/-- make of a slice of length nought. -/
theorem mkS {t e : TypeId} {size bytes : Nat} {z : Value} {c x : Operand} (base n : Nat) (hw : Region.wanted o (yielded ops a.tmps) = true) (ho : o.op = .makeSlice t c x) (hc : a.eval c = .int .i64 0) (hx : a.eval x = .int .i64 (n : Nat))
    (ht : Try.prog.underlying t = some (.slice e)) (hi : (Try.prog.info? e).map (fun i => (i.zero, i.size, i.bytes)) = some (some z, size, bytes)) (hn : n ≤ 100000) (hs : size ≤ 100) (hby : bytes ≤ 10000) (hL : Sy w0 w E L) (hb : base ≤ w.heap.size)
    (h : ∀ X B, B = w.heap.size → Sy w0 X E (L ++ [rowO base e size (.slice (some ⟨B, 0, none⟩) 0 n) 0 []]) → Below w.heap.size w X → wpList Try.prog ops Q rest (a.put o.dst (.slice (some ⟨B, 0, none⟩) 0 n)) X) : wpList Try.prog ops Q (o :: rest) a w :=
  mk_any n hw ho hc hx ht hi hn hs hby (fun wm h1 h2 => h wm _ rfl (hL.add (rowO_ok _ _ _ _ _ _) (own_mono h1 hb) h2 (fun b hb2 => by
    have : b = w.heap.size := by simpa [rowO, Value.ownBlock, eq_comm] using hb2
    omega)) h2)
end
theorem bPr (k : KK) (d : DD) (w : World) : (Instr.build 56 #[(0, .agg k.cs.toArray), (1, .agg d.cs.toArray)]).run Try.prog w = .ok (.agg (PR.cs ⟨k, d⟩).toArray) w := by kernel_rfl
theorem ex_bPr {o : Oper} {a : Act} {w : World} {x0 x1 : Operand} (k : KK) (d : DD) (ho : o.op = .build 56 #[(0, x0), (1, x1)]) (h0 : a.eval x0 = .agg k.cs.toArray) (h1 : a.eval x1 = .agg d.cs.toArray) : (execOp a.eval o).run Try.prog w = .ok (.value (.agg (PR.cs ⟨k, d⟩).toArray)) w := by
  have e := bPr k d w
  unfold execOp
  simp only [ho, List.map_toArray, List.map_cons, List.map_nil, h0, h1]
  simp [e]
theorem flatP_snoc {l : List PR} {i : Nat} {p : PR} (hp : l[i]? = some p) : flatP (l.take (i + 1)) = flatP (l.take i) ++ p.cs := by
  obtain ⟨hi, rfl⟩ := List.getElem?_eq_some_iff.1 hp
  unfold flatP
  rw [List.take_succ_eq_append_getElem hi, List.flatMap_append, List.flatMap_singleton]
def NpPost (w : World) (ps : List PR) (e : Ending) (X : World) : Prop := ∃ (A : Option Addr) (c : Nat), e = .returned (.slice A ps.length c) ∧ X.ownsRow w.heap.size 56 20 (.slice A ps.length c) ps.length (flatP ps) ∧ Below w.heap.size w X
set_option maxHeartbeats 2000000 in
set_option maxRecDepth 100000 in
theorem newProps_any (B : Option Addr) (cap : Nat) (ps : List PR) (w : World) (hR : ReadsP w B ps) (hs : ∀ p ∈ ps, SP p) (hz : ps.length ≤ 100000) : Calls Try.prog 26 #[.slice B ps.length cap] w (NpPost w ps) := by
  have HR := hide hR
  have HS := hide hs
  have HZ := hide hz
  have LL := hide (Sy.nil w [])
  clear hR hs hz
  go_enter Try.func26, Try.ntmps26
  go_wp2_with (first | go_skip | ((with_reducible show wpList _ _ _ _ _ _); first | ((refine rd (by rfl) (ex_lenG 46 56 Try.underlying46 rfl rfl) ?_); simp only [Act.put, List.setIfInBounds_toArray, List.set_cons_succ, List.set_cons_zero]) | ((refine mkS w.heap.size ps.length (by rfl) rfl rfl rfl Try.underlying46 inf46 (unhide HZ) (by decide) (by decide) (unhide LL) (unhide LL).fr.size ?_); intro X1 B1 hE1 L1 hb1; replace LL := hide L1; clear L1 hb1 hE1; simp only [Act.put, List.setIfInBounds_toArray, List.set_cons_succ, List.set_cons_zero]) | ((refine rd (by rfl) (ex_indexA 46 20 i unPs idPs rfl rfl (unhide HA) rfl (unhide HLT)) ?_); simp only [Act.put, List.setIfInBounds_toArray, List.set_cons_succ, List.set_cons_zero]) | ((refine rd (by rfl) (ex_loadR (vs := p.cs) 56 20 rwP szP rfl rfl (unhide HA2 _ (unhide LL).fr) rfl) ?_); simp only [Act.put, List.setIfInBounds_toArray, List.set_cons_succ, List.set_cons_zero]) | ((refine alS (v := .agg (zeroP.cs).toArray) 56 (zeroP.cs) (by rfl) rfl (fun w => by kernel_rfl) rfl (Nat.succ_pos _) (unhide LL) ?_); intro X5 B5 hE5 L5 hb5; replace LL := hide L5; clear L5 hb5 hE5; simp only [Act.put, List.setIfInBounds_toArray, List.set_cons_succ, List.set_cons_zero]) | ((refine stS (vs := p.cs) 1 56 (by rfl) rfl rfl rfl rfl (pcs_one p) (szP) (unhide LL) rfl (by simp [cput, PR.cs, SH.cs, VV.cs, KK.cs, DD.cs, CO.cs, DL.cs, zeroP, zeroS, zeroD, zeroV]) ?_); intro X6 L6 hf6 hs6; replace LL := hide L6; clear L6 hf6 hs6; simp only [Act.put, List.setIfInBounds_toArray, List.set_cons_succ, List.set_cons_zero])))
  go_loopg [3, 11] ps.length (fun gm s3 s11 wr => ∃ (i : Nat) (A : Option Addr) (c : Nat), s11 = .int .i64 (i : Nat) ∧ i ≤ ps.length ∧ ps.length - i ≤ gm ∧ s3 = .slice A i c ∧ Hid (Sy w wr [] [rowO w.heap.size 56 20 (.slice A i c) i (flatP (ps.take i))]))
  case atStart => exact ⟨0, _, _, rfl, by omega, by omega, rfl, hide (by simpa [flatP] using unhide LL)⟩
  case round =>
    clear LL
    obtain ⟨i, A, c, rfl, hil, hgm, rfl, LL⟩ := hrel
    by_cases hlt : i < ps.length
    · have dlt : decide ((i : Int) < (ps.length : Int)) = true := decide_eq_true (by omega)
      have hw1 : IntKind.i64.wrap ((i : Int) + 1) = (i : Int) + 1 := by have := unhide HZ; rw [IntKind.wrap_i64]; omega
      obtain ⟨p, hp⟩ : ∃ p, ps[i]? = some p := ⟨_, List.getElem?_eq_getElem hlt⟩
      obtain ⟨_, b, off, hA, hb, hrg⟩ := (unhide HR) i p hp
      have HA := hide hA
      have HA2 : Hid (∀ X, Fr w X [] → X.rangeAt b (off + i * 20) p.cs) := hide (fun X hX => rangeAt_fr hrg hb hX)
      have HLT := hide hlt
      have hsp := (unhide HS) p (List.mem_of_getElem? hp)
      have hk := fun w => newKey_any p.k w hsp.1
      have hd := fun w => newDesc_any p.d w hsp.2
      simp only [kagg] at hk
      simp only [dagg] at hd
      have HK := hide (And.intro hk hd)
      have HSN := hide (flatP_snoc hp)
      generalize hfl : flatP (ps.take i) = fl at *
      clear hA hb hrg hlt hil hp hk hd hsp hfl
      go_wp2_with (first | go_skip | ((with_reducible show wpList _ _ _ _ _ _); first | ((refine rd (by rfl) (ex_lenG 46 56 Try.underlying46 rfl rfl) ?_); simp only [Act.put, List.setIfInBounds_toArray, List.set_cons_succ, List.set_cons_zero]) | ((refine mkS w.heap.size ps.length (by rfl) rfl rfl rfl Try.underlying46 inf46 (unhide HZ) (by decide) (by decide) (unhide LL) (unhide LL).fr.size ?_); intro X1 B1 hE1 L1 hb1; replace LL := hide L1; clear L1 hb1 hE1; simp only [Act.put, List.setIfInBounds_toArray, List.set_cons_succ, List.set_cons_zero]) | ((refine rd (by rfl) (ex_indexA 46 20 i unPs idPs rfl rfl (unhide HA) rfl (unhide HLT)) ?_); simp only [Act.put, List.setIfInBounds_toArray, List.set_cons_succ, List.set_cons_zero]) | ((refine rd (by rfl) (ex_loadR (vs := p.cs) 56 20 rwP szP rfl rfl (unhide HA2 _ (unhide LL).fr) rfl) ?_); simp only [Act.put, List.setIfInBounds_toArray, List.set_cons_succ, List.set_cons_zero]) | ((refine alS (v := .agg (zeroP.cs).toArray) 56 (zeroP.cs) (by rfl) rfl (fun w => by kernel_rfl) rfl (Nat.succ_pos _) (unhide LL) ?_); intro X5 B5 hE5 L5 hb5; replace LL := hide L5; clear L5 hb5 hE5; simp only [Act.put, List.setIfInBounds_toArray, List.set_cons_succ, List.set_cons_zero]) | ((refine stS (vs := p.cs) 1 56 (by rfl) rfl rfl rfl rfl (pcs_one p) (szP) (unhide LL) rfl (by simp [cput, PR.cs, SH.cs, VV.cs, KK.cs, DD.cs, CO.cs, DL.cs, zeroP, zeroS, zeroD, zeroV]) ?_); intro X6 L6 hf6 hs6; replace LL := hide L6; clear L6 hf6 hs6; simp only [Act.put, List.setIfInBounds_toArray, List.set_cons_succ, List.set_cons_zero])))
      obtain ⟨hk, hd⟩ := unhide HK
      have ht0 : Sy w _ [] [rowO w.heap.size 56 20 (.slice A i c) i fl, boxO B5 p.cs] := (unhide LL).drew
      have hh0 := ht0.hold 1 rfl
      refine wp_region_held_drew (P := Try.prog) (S := fun Z => Holds Z B5 p.cs) (by kernel_rfl) hh0 (fun hS0 => ?_)
      refine gsem 0 (some 15) (.slice A i c) rfl (by kernel_rfl) (by kernel_rfl) (by kernel_rfl) (fun _ _ _ h => h) (by kernel_rfl) (by kernel_rfl) (fun _ _ => by kernel_rfl) hh0 ?_
      simp only [Act.put, List.setIfInBounds_toArray, List.set_cons_succ, List.set_cons_zero]
      refine gsem 1 (some 16) (.pointer (some ⟨B5, 0, none⟩)) rfl (by kernel_rfl) (by kernel_rfl) (by kernel_rfl) (fun _ _ _ h => h) (by kernel_rfl) (by kernel_rfl) (fun _ _ => by kernel_rfl) hh0 ?_
      simp only [Act.put, List.setIfInBounds_toArray, List.set_cons_succ, List.set_cons_zero]
      refine gsem 2 (some 17) (.agg p.k.cs.toArray) rfl (by kernel_rfl) (by kernel_rfl) (by kernel_rfl) (fun _ _ _ h => h) (by kernel_rfl) (by kernel_rfl) (fun X hX => ex_loadN (vs := p.k.cs) 30 2 rwK szK rfl rfl (hX) rfl rfl) hh0 ?_
      simp only [Act.put, List.setIfInBounds_toArray, List.set_cons_succ, List.set_cons_zero]
      refine gsem 4 (some 19) (.pointer (some ⟨B5, 2, none⟩)) rfl (by kernel_rfl) (by kernel_rfl) (by kernel_rfl) (fun _ _ _ h => h) (by kernel_rfl) (by kernel_rfl) (fun _ _ => by kernel_rfl) hh0 ?_
      simp only [Act.put, List.setIfInBounds_toArray, List.set_cons_succ, List.set_cons_zero]
      refine gsem 5 (some 20) (.agg p.d.cs.toArray) rfl (by kernel_rfl) (by kernel_rfl) (by kernel_rfl) (fun _ _ _ h => h) (by kernel_rfl) (by kernel_rfl) (fun X hX => ex_loadN (vs := p.d.cs) 33 18 rwD szD rfl rfl (hX) rfl rfl) hh0 ?_
      simp only [Act.put, List.setIfInBounds_toArray, List.set_cons_succ, List.set_cons_zero]
      refine wpAnyH_ready (rs := [3]) (by kernel_rfl) (by simp) (gcallR 3 (some 18) rfl (by kernel_rfl) (by kernel_rfl) (by kernel_rfl) (hk _) ?_ AllReadyH.nil)
      rintro e Y3 ⟨rfl, hY3⟩
      have ht3 := ht0.on hY3
      have hh3 := ht3.hold 1 rfl
      refine ⟨_, rfl, hh3, ?_⟩
      simp only [Act.put, List.setIfInBounds_toArray, List.set_cons_succ, List.set_cons_zero]
      refine wpAnyH_ready (rs := [6]) (by kernel_rfl) (by simp) (gcallR 6 (some 21) rfl (by kernel_rfl) (by kernel_rfl) (by kernel_rfl) (hd _) ?_ AllReadyH.nil)
      rintro e Y7 ⟨rfl, hY7⟩
      have ht7 := ht3.on hY7
      have hh7 := ht7.hold 1 rfl
      refine ⟨_, rfl, hh7, ?_⟩
      simp only [Act.put, List.setIfInBounds_toArray, List.set_cons_succ, List.set_cons_zero]
      refine gsem 7 (some 22) (.agg p.cs.toArray) rfl (by kernel_rfl) (by kernel_rfl) (by kernel_rfl) (fun _ _ _ h => h) (by kernel_rfl) (by kernel_rfl) (fun X hX => ex_bPr p.k p.d rfl rfl rfl) hh7 ?_
      simp only [Act.put, List.setIfInBounds_toArray, List.set_cons_succ, List.set_cons_zero]
      have ht8 := ht7.box p.cs 56 (Nat.succ_pos _)
      refine wpAnyH_ready (rs := [8]) (by kernel_rfl) (by simp) (gval 8 (some 23) rfl (by kernel_rfl) (by kernel_rfl) (ex_buildS (cs := p.cs) rfl rfl Try.underlying46 inf46 (by decide) rfl rfl (by decide)) (ht8.hold 1 rfl) ?_ AllReadyH.nil)
      simp only [Act.put, List.setIfInBounds_toArray, List.set_cons_succ, List.set_cons_zero]
      refine wpAnyH_ready (rs := [9]) (by kernel_rfl) (by simp) (gappF (base := w.heap.size) (size := 20) (bytes := 192) (k := i) (m := 1) (news := p.cs) (xs := fl) (v := .slice A i c) 9 (some 24) rfl (by kernel_rfl) (by kernel_rfl) rfl rfl rfl Try.underlying46 inf46 rfl (by decide) (ht8.get 0 rfl) (ht8.hold 2 rfl) rfl (pcs_one p) (by have := unhide HZ; have := unhide HLT; omega) (by decide) ht8.fr.size (fun X hg => ht8.hold_grown 0 1 rfl rfl (by decide) hg) ?_ AllReadyH.nil)
      intro A9 c9 X9 hO9 hg9 hF9
      simp only [Act.put, List.setIfInBounds_toArray, List.set_cons_succ, List.set_cons_zero]
      have ht9 := ht8.row 0 rfl hO9 hg9 hF9
      refine gsem 10 (some 3) (.slice A9 (i + 1) c9) rfl (by kernel_rfl) (by kernel_rfl) (by kernel_rfl) (fun _ _ _ h => h) (by kernel_rfl) (by kernel_rfl) (fun _ _ => by kernel_rfl) (ht9.hold 1 rfl) ?_
      simp only [Act.put, List.setIfInBounds_toArray, List.set_cons_succ, List.set_cons_zero]
      refine wpAnyH_done (by kernel_rfl) ?_ _
      try simp only [Act.put, List.setIfInBounds_toArray, List.set_cons_succ, List.set_cons_zero]
      have LN : Hid (Sy w X9 [] [rowO w.heap.size 56 20 (.slice A9 (i + 1) c9) (i + 1) (flatP (ps.take (i + 1)))]) := hide (by rw [unhide HSN]; exact Sy.left (L := [rowO w.heap.size 56 20 (.slice A9 (i + 1) c9) (i + 1) (fl ++ p.cs)]) ht9)
      clear ht0 hh0 ht3 hh3 ht7 hh7 ht8 ht9 hO9 hg9 hF9 LL hS0 hY3 hY7 hk hd
      go_wp2_with (first | go_skip | ((with_reducible show wpList _ _ _ _ _ _); first | ((refine rd (by rfl) (ex_lenG 46 56 Try.underlying46 rfl rfl) ?_); simp only [Act.put, List.setIfInBounds_toArray, List.set_cons_succ, List.set_cons_zero]) | ((refine mkS w.heap.size ps.length (by rfl) rfl rfl rfl Try.underlying46 inf46 (unhide HZ) (by decide) (by decide) (unhide LL) (unhide LL).fr.size ?_); intro X1 B1 hE1 L1 hb1; replace LL := hide L1; clear L1 hb1 hE1; simp only [Act.put, List.setIfInBounds_toArray, List.set_cons_succ, List.set_cons_zero]) | ((refine rd (by rfl) (ex_indexA 46 20 i unPs idPs rfl rfl (unhide HA) rfl (unhide HLT)) ?_); simp only [Act.put, List.setIfInBounds_toArray, List.set_cons_succ, List.set_cons_zero]) | ((refine rd (by rfl) (ex_loadR (vs := p.cs) 56 20 rwP szP rfl rfl (unhide HA2 _ (unhide LL).fr) rfl) ?_); simp only [Act.put, List.setIfInBounds_toArray, List.set_cons_succ, List.set_cons_zero]) | ((refine alS (v := .agg (zeroP.cs).toArray) 56 (zeroP.cs) (by rfl) rfl (fun w => by kernel_rfl) rfl (Nat.succ_pos _) (unhide LL) ?_); intro X5 B5 hE5 L5 hb5; replace LL := hide L5; clear L5 hb5 hE5; simp only [Act.put, List.setIfInBounds_toArray, List.set_cons_succ, List.set_cons_zero]) | ((refine stS (vs := p.cs) 1 56 (by rfl) rfl rfl rfl rfl (pcs_one p) (szP) (unhide LL) rfl (by simp [cput, PR.cs, SH.cs, VV.cs, KK.cs, DD.cs, CO.cs, DL.cs, zeroP, zeroS, zeroD, zeroV]) ?_); intro X6 L6 hf6 hs6; replace LL := hide L6; clear L6 hf6 hs6; simp only [Act.put, List.setIfInBounds_toArray, List.set_cons_succ, List.set_cons_zero])))
      go_roundg (ps.length - (i + 1))
      case measure => have := unhide HLT; omega
      case rel => exact ⟨i + 1, A9, c9, by go_num, by have := unhide HLT; omega, by omega, rfl, LN⟩
    · obtain rfl : i = ps.length := by omega
      clear hlt hil
      go_wp2_with (first | go_skip | ((with_reducible show wpList _ _ _ _ _ _); first | ((refine rd (by rfl) (ex_lenG 46 56 Try.underlying46 rfl rfl) ?_); simp only [Act.put, List.setIfInBounds_toArray, List.set_cons_succ, List.set_cons_zero]) | ((refine mkS w.heap.size ps.length (by rfl) rfl rfl rfl Try.underlying46 inf46 (unhide HZ) (by decide) (by decide) (unhide LL) (unhide LL).fr.size ?_); intro X1 B1 hE1 L1 hb1; replace LL := hide L1; clear L1 hb1 hE1; simp only [Act.put, List.setIfInBounds_toArray, List.set_cons_succ, List.set_cons_zero]) | ((refine rd (by rfl) (ex_indexA 46 20 i unPs idPs rfl rfl (unhide HA) rfl (unhide HLT)) ?_); simp only [Act.put, List.setIfInBounds_toArray, List.set_cons_succ, List.set_cons_zero]) | ((refine rd (by rfl) (ex_loadR (vs := p.cs) 56 20 rwP szP rfl rfl (unhide HA2 _ (unhide LL).fr) rfl) ?_); simp only [Act.put, List.setIfInBounds_toArray, List.set_cons_succ, List.set_cons_zero]) | ((refine alS (v := .agg (zeroP.cs).toArray) 56 (zeroP.cs) (by rfl) rfl (fun w => by kernel_rfl) rfl (Nat.succ_pos _) (unhide LL) ?_); intro X5 B5 hE5 L5 hb5; replace LL := hide L5; clear L5 hb5 hE5; simp only [Act.put, List.setIfInBounds_toArray, List.set_cons_succ, List.set_cons_zero]) | ((refine stS (vs := p.cs) 1 56 (by rfl) rfl rfl rfl rfl (pcs_one p) (szP) (unhide LL) rfl (by simp [cput, PR.cs, SH.cs, VV.cs, KK.cs, DD.cs, CO.cs, DL.cs, zeroP, zeroS, zeroD, zeroV]) ?_); intro X6 L6 hf6 hs6; replace LL := hide L6; clear L6 hf6 hs6; simp only [Act.put, List.setIfInBounds_toArray, List.set_cons_succ, List.set_cons_zero])))
      go_ret
      exact ⟨A, c, rfl, by have := (unhide LL).get 0 rfl; rw [List.take_length] at this; exact this, (unhide LL).fr.below⟩
end Go.Proofs.Ytcflglloopgieaa
