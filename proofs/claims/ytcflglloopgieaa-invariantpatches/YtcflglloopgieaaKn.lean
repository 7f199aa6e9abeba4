import Derived.Test.YtcflglloopgieaaKm
namespace Go.Proofs.Ytcflglloopgieaa
open Go Go.Proofs Go.Maps Go.RowKit FM
set_option linter.unusedSimpArgs false
set_option linter.unusedVariables false
set_option maxHeartbeats 1000000
/-- A member that can be taken. -/
def GL (d : DL) : Prop := SV d.v ∧ d.v.x < 2 ^ 64 ∧ OkP ⟨d.k, d.d⟩ ∧ SP ⟨d.k, d.d⟩
theorem Sy.field {w0 w X : World} {E : List Nat} {L : List Ob} (h : Sy w0 X E L) (i : Nat) {B k : Nat} {d d' : DR} (hi : L[i]? = some (drO w B k d)) (p : Nat) (vs : List Value) (hp : p + vs.length ≤ 8) (hA : d'.A = d.A) (hps : d'.s.ps = d.s.ps) (hrx : d'.rx = d.rx) (hcs : cput d.cs p vs = d'.cs) (hgd : GS d'.s) : Sy w0 (X.setCells B p vs) E (L.set i (drO w B k d')) := by
  have h1 : DI w X B k d := h.get i hi
  have hl : p + vs.length ≤ d.cs.length := by
    have : d.cs.length = 8 + d.tl.length := by simp [DR.cs, SH.cs, VV.cs]; omega
    omega
  have hbs : d'.bs B = d.bs B := by unfold DR.bs; rw [hrx]
  refine h.set i hi (drO_ok _ _ _ _) ⟨by rw [← hcs]; exact h1.hold.put p vs hl, by rw [hA, hps]; exact h1.rd, hgd, h1.lo, fun x hx => ?_⟩ ((Fr.setCells X B p vs).mono (fun b hb => .inl (by rw [List.mem_singleton.1 hb]; simp [drO, DR.bs]))) (fun b hb => .inl (by simpa [drO, hbs] using hb))
  have r := h1.rows x (hrx ▸ hx)
  have hne : ∀ g, g ≠ B → (X.setCells B p vs).heap[g]? = X.heap[g]? := fun g hg => heap_setCells B vs p X g hg
  exact ⟨own_blk r.own (fun g hg => hne g (fun e => r.a1 (e ▸ hg))), r.map.block (hne _ r.a3), r.ri, r.gr, r.ml, r.a1, r.a2, r.a3, r.len, r.nn⟩
theorem stD {ops : Array Oper} {rest : List Oper} {Q : Exit → Act → World → Prop} {w w0 wb : World} {a : Act} {o : Oper} {E : List Nat} {L : List Ob} {B k p : Nat} {d : DR} (d' : DR) {vs : List Value} {v : Value} {x y : Operand} (i : Nat) (ty : TypeId) (hw : Region.wanted o (yielded ops a.tmps) = true) (ho : o.op = .store ty x y) (hx : a.eval x = .pointer (some ⟨B, p, none⟩)) (hy : a.eval y = v)
    (hv : v.cells.toList = vs) (h1 : ∀ u ∈ vs, u.oneCell' = true) (hi : (Try.prog.info? ty).map (·.size) = some vs.length) (hL : Sy w0 w E L) (hg : L[i]? = some (drO wb B k d)) (hp : p + vs.length ≤ 8) (hA : d'.A = d.A) (hps : d'.s.ps = d.s.ps) (hrx : d'.rx = d.rx) (hcs : cput d.cs p vs = d'.cs) (hgd : GS d'.s)
    (h : ∀ X, Sy w0 X E (L.set i (drO wb B k d')) → wpList Try.prog ops Q rest (a.put o.dst undef) X) : wpList Try.prog ops Q (o :: rest) a w := by
  refine BigFrame.wpList_want hw fun K hK => ?_
  have hP := hK _ _ (h _ (hL.field i hg p vs hp hA hps hrx hcs hgd))
  have hl : p + vs.length ≤ d.cs.length := by
    have : d.cs.length = 8 + d.tl.length := by simp [DR.cs, SH.cs, VV.cs]; omega
    omega
  have hH : Holds w B d.cs := (hL.get i hg : DI wb w B k d).hold
  unfold Oper.wp
  rw [ex_store ho hx hy hv h1 hi hH hl]
  exact hP
theorem DP.of_sy {w X Y : World} {B k : Nat} {d d' : DR} {M : List Ob} (h : Sy X Y (d.bs B) (drO w B k d' :: M)) : DP w X B k d d' Y :=
  ⟨h.get 0 rfl, h.fr, fun b hb => h.lo _ (List.mem_cons_self ..) b hb⟩
set_option maxHeartbeats 2000000 in
set_option maxRecDepth 100000 in
theorem take_class (o n : Int) (y : Bool) (v : VV) (q : KK) (z : DD) (d : DR) (B k : Nat) (w X : World) (hf : Fr w X []) (hd : DI w X B k d) (hk : 400 ≤ k) (hkb : k ≤ 500000) (hg : GL ⟨o, 2, n, y, v, q, z⟩) : Calls Try.prog 19 #[.pointer (some ⟨B, 0, none⟩), (DL.mk o 2 n y v q z).agg] X (TkPost w X B k d (take1 d.abs ⟨o, 2, n, y, v, q, z⟩)) := by
  have HF := hide hf
  have HD := hide hd
  have HK := hide hk
  have HKB := hide hkb
  have HG := hide hg
  have LL := hide hd.sy
  clear hf hd hk hkb hg
  unfold DL.agg
  go_enter Try.func19, Try.ntmps19
  go_wp2_with (first | go_skip | ((with_reducible show wpList _ _ _ _ _ _); first | ((refine bxS 35 ((DL.cs ⟨o, 2, n, y, v, q, z⟩)) (by rfl) rfl rfl rfl (Nat.succ_pos _) (unhide LL) ?_); intro X3 B3 hE3 L3 hb3; replace LL := hide L3; clear L3 hb3 hE3; simp only [Act.put, List.setIfInBounds_toArray, List.set_cons_succ, List.set_cons_zero]) | ((refine rd (by rfl) (ex_load1 3 Try.isAgg3 rfl rfl ((unhide LL).hold 1 rfl) rfl) ?_); simp only [Act.put, List.setIfInBounds_toArray, List.set_cons_succ, List.set_cons_zero]) | ((refine stD (vs := [.int .i64 n]) { d with s := { d.s with c := n } } 0 3 (by rfl) rfl rfl rfl rfl (by simp [Value.oneCell']) szI (unhide LL) rfl (by simp [VV.cs]) rfl rfl rfl rfl ((unhide HD).gd) ?_); intro X4 L4; replace LL := hide L4; clear L4; simp only [Act.put, List.setIfInBounds_toArray, List.set_cons_succ, List.set_cons_zero])))
  go_ret
  exact ⟨true, { d with s := { d.s with c := n } }, rfl, (DP.of_sy (unhide LL)).mono (Nat.le_succ k), fun _ => by simp [take1]; rfl, by simp⟩
set_option maxHeartbeats 2000000 in
set_option maxRecDepth 100000 in
theorem take_proto (o n : Int) (y : Bool) (v : VV) (q : KK) (z : DD) (d : DR) (B k : Nat) (w X : World) (hf : Fr w X []) (hd : DI w X B k d) (hk : 400 ≤ k) (hkb : k ≤ 500000) (hg : GL ⟨o, 3, n, y, v, q, z⟩) : Calls Try.prog 19 #[.pointer (some ⟨B, 0, none⟩), (DL.mk o 3 n y v q z).agg] X (TkPost w X B k d (take1 d.abs ⟨o, 3, n, y, v, q, z⟩)) := by
  have HF := hide hf
  have HD := hide hd
  have HK := hide hk
  have HKB := hide hkb
  have HG := hide hg
  have LL := hide hd.sy
  clear hf hd hk hkb hg
  unfold DL.agg
  go_enter Try.func19, Try.ntmps19
  go_wp2_with (first | go_skip | ((with_reducible show wpList _ _ _ _ _ _); first | ((refine bxS 35 ((DL.cs ⟨o, 3, n, y, v, q, z⟩)) (by rfl) rfl rfl rfl (Nat.succ_pos _) (unhide LL) ?_); intro X3 B3 hE3 L3 hb3; replace LL := hide L3; clear L3 hb3 hE3; simp only [Act.put, List.setIfInBounds_toArray, List.set_cons_succ, List.set_cons_zero]) | ((refine rd (by rfl) (ex_load1 3 Try.isAgg3 rfl rfl ((unhide LL).hold 1 rfl) rfl) ?_); simp only [Act.put, List.setIfInBounds_toArray, List.set_cons_succ, List.set_cons_zero]) | ((refine rd (by rfl) (ex_loadN (vs := v.cs) 28 5 rwV szV rfl rfl ((unhide LL).hold 1 rfl) rfl rfl) ?_); simp only [Act.put, List.setIfInBounds_toArray, List.set_cons_succ, List.set_cons_zero]) | ((refine stD (vs := v.cs) { d with s := { d.s with p := v } } 0 28 (by rfl) rfl rfl rfl rfl (vcs_one v) szV (unhide LL) rfl (by simp [VV.cs]) rfl rfl rfl rfl (⟨(unhide HG).1, (unhide HG).2.1, (unhide HD).gd.2.2⟩) ?_); intro X4 L4; replace LL := hide L4; clear L4; simp only [Act.put, List.setIfInBounds_toArray, List.set_cons_succ, List.set_cons_zero])))
  go_ret
  exact ⟨true, { d with s := { d.s with p := v } }, rfl, (DP.of_sy (unhide LL)).mono (Nat.le_succ k), fun _ => by simp [take1]; rfl, by simp⟩
set_option maxHeartbeats 2000000 in
set_option maxRecDepth 100000 in
theorem take_ext (o n : Int) (y : Bool) (v : VV) (q : KK) (z : DD) (d : DR) (B k : Nat) (w X : World) (hf : Fr w X []) (hd : DI w X B k d) (hk : 400 ≤ k) (hkb : k ≤ 500000) (hg : GL ⟨o, 4, n, y, v, q, z⟩) : Calls Try.prog 19 #[.pointer (some ⟨B, 0, none⟩), (DL.mk o 4 n y v q z).agg] X (TkPost w X B k d (take1 d.abs ⟨o, 4, n, y, v, q, z⟩)) := by
  have HF := hide hf
  have HD := hide hd
  have HK := hide hk
  have HKB := hide hkb
  have HG := hide hg
  have LL := hide hd.sy
  clear hf hd hk hkb hg
  unfold DL.agg
  go_enter Try.func19, Try.ntmps19
  go_wp2_with (first | go_skip | ((with_reducible show wpList _ _ _ _ _ _); first | ((refine bxS 35 ((DL.cs ⟨o, 4, n, y, v, q, z⟩)) (by rfl) rfl rfl rfl (Nat.succ_pos _) (unhide LL) ?_); intro X3 B3 hE3 L3 hb3; replace LL := hide L3; clear L3 hb3 hE3; simp only [Act.put, List.setIfInBounds_toArray, List.set_cons_succ, List.set_cons_zero]) | ((refine rd (by rfl) (ex_load1 3 Try.isAgg3 rfl rfl ((unhide LL).hold 1 rfl) rfl) ?_); simp only [Act.put, List.setIfInBounds_toArray, List.set_cons_succ, List.set_cons_zero]) | ((refine rd (by rfl) (ex_load1 4 Try.isAgg4 rfl rfl ((unhide LL).hold 1 rfl) rfl) ?_); simp only [Act.put, List.setIfInBounds_toArray, List.set_cons_succ, List.set_cons_zero]) | ((refine stD (vs := [.bool y]) { d with s := { d.s with x := y } } 0 4 (by rfl) rfl rfl rfl rfl (by simp [Value.oneCell']) szB (unhide LL) rfl (by simp [VV.cs]) rfl rfl rfl rfl ((unhide HD).gd) ?_); intro X4 L4; replace LL := hide L4; clear L4; simp only [Act.put, List.setIfInBounds_toArray, List.set_cons_succ, List.set_cons_zero])))
  go_ret
  exact ⟨true, { d with s := { d.s with x := y } }, rfl, (DP.of_sy (unhide LL)).mono (Nat.le_succ k), fun _ => by simp [take1]; rfl, by simp⟩
set_option maxHeartbeats 2000000 in
set_option maxRecDepth 100000 in
theorem take_gone (o n : Int) (y : Bool) (v : VV) (q : KK) (z : DD) (d : DR) (B k : Nat) (w X : World) (hf : Fr w X []) (hd : DI w X B k d) (hk : 400 ≤ k) (hkb : k ≤ 500000) (hg : GL ⟨o, 5, n, y, v, q, z⟩) : Calls Try.prog 19 #[.pointer (some ⟨B, 0, none⟩), (DL.mk o 5 n y v q z).agg] X (TkPost w X B k d (take1 d.abs ⟨o, 5, n, y, v, q, z⟩)) := by
  have HF := hide hf
  have HD := hide hd
  have HK := hide hk
  have HKB := hide hkb
  have HG := hide hg
  have LL := hide hd.sy
  clear hf hd hk hkb hg
  unfold DL.agg
  go_enter Try.func19, Try.ntmps19
  go_wp2_with (first | go_skip | ((with_reducible show wpList _ _ _ _ _ _); first | ((refine bxS 35 ((DL.cs ⟨o, 5, n, y, v, q, z⟩)) (by rfl) rfl rfl rfl (Nat.succ_pos _) (unhide LL) ?_); intro X3 B3 hE3 L3 hb3; replace LL := hide L3; clear L3 hb3 hE3; simp only [Act.put, List.setIfInBounds_toArray, List.set_cons_succ, List.set_cons_zero]) | ((refine rd (by rfl) (ex_load1 3 Try.isAgg3 rfl rfl ((unhide LL).hold 1 rfl) rfl) ?_); simp only [Act.put, List.setIfInBounds_toArray, List.set_cons_succ, List.set_cons_zero]) | ((refine rd (by rfl) (ex_loadN (vs := q.cs) 30 2 rwK szK rfl rfl ((unhide LL).hold 1 rfl) rfl rfl) ?_); simp only [Act.put, List.setIfInBounds_toArray, List.set_cons_succ, List.set_cons_zero])))
  have hrm := remove_any q d B k w _ ((unhide HF).trans (unhide LL).fr (fun b hb => .inr ((unhide HD).base b hb))) ((unhide LL).get 0 rfl) (unhide HK) (unhide HKB) ⟨(unhide HG).2.2.1.2, (unhide HG).2.2.2.1⟩
  rw [kagg] at hrm
  refine hrm.mono ?_
  clear hrm
  rintro e Y1 ⟨b, d', rfl, hDP, hT, hFa⟩
  have hDD := (DP.of_sy (unhide LL)).trans hDP
  have HE := hide (And.intro hDD (And.intro hT hFa))
  clear hDP hT hFa hDD LL
  go_wp2_with fail
  go_ret
  refine ⟨b, d', rfl, (unhide HE).1, fun hb => ?_, fun hb => ?_⟩
  · have := (unhide HE).2.1 hb
    simpa [take1] using this
  · have := (unhide HE).2.2 hb
    simpa [take1] using this
set_option maxHeartbeats 2000000 in
set_option maxRecDepth 100000 in
theorem take_put (o n : Int) (y : Bool) (v : VV) (q : KK) (z : DD) (d : DR) (B k : Nat) (w X : World) (hf : Fr w X []) (hd : DI w X B k d) (hk : 400 ≤ k) (hkb : k ≤ 500000) (hg : GL ⟨o, 6, n, y, v, q, z⟩) : Calls Try.prog 19 #[.pointer (some ⟨B, 0, none⟩), (DL.mk o 6 n y v q z).agg] X (TkPost w X B k d (take1 d.abs ⟨o, 6, n, y, v, q, z⟩)) := by
  have HF := hide hf
  have HD := hide hd
  have HK := hide hk
  have HKB := hide hkb
  have HG := hide hg
  have LL := hide hd.sy
  clear hf hd hk hkb hg
  unfold DL.agg
  go_enter Try.func19, Try.ntmps19
  go_wp2_with (first | go_skip | ((with_reducible show wpList _ _ _ _ _ _); first | ((refine bxS 35 ((DL.cs ⟨o, 6, n, y, v, q, z⟩)) (by rfl) rfl rfl rfl (Nat.succ_pos _) (unhide LL) ?_); intro X3 B3 hE3 L3 hb3; replace LL := hide L3; clear L3 hb3 hE3; simp only [Act.put, List.setIfInBounds_toArray, List.set_cons_succ, List.set_cons_zero]) | ((refine rd (by rfl) (ex_load1 3 Try.isAgg3 rfl rfl ((unhide LL).hold 1 rfl) rfl) ?_); simp only [Act.put, List.setIfInBounds_toArray, List.set_cons_succ, List.set_cons_zero]) | ((refine rd (by rfl) (ex_loadN (vs := q.cs) 30 2 rwK szK rfl rfl ((unhide LL).hold 1 rfl) rfl rfl) ?_); simp only [Act.put, List.setIfInBounds_toArray, List.set_cons_succ, List.set_cons_zero]) | ((refine rd (by rfl) (ex_loadN (vs := z.cs) 33 18 rwD szD rfl rfl ((unhide LL).hold 1 rfl) rfl rfl) ?_); simp only [Act.put, List.setIfInBounds_toArray, List.set_cons_succ, List.set_cons_zero])))
  have hrm := putX_any q z d B k w _ ((unhide HF).trans (unhide LL).fr (fun b hb => .inr ((unhide HD).base b hb))) ((unhide LL).get 0 rfl) (unhide HK) (unhide HKB) ⟨(unhide HG).2.2.1.2, (unhide HG).2.2⟩
  rw [kagg, dagg] at hrm
  refine hrm.mono ?_
  clear hrm
  rintro e Y1 ⟨d', rfl, hDP, hT⟩
  have hDD := (DP.of_sy (unhide LL)).trans hDP
  have HE := hide (And.intro hDD hT)
  clear hDP hT hDD LL
  go_wp2_with fail
  go_ret
  refine ⟨true, d', rfl, (unhide HE).1, fun _ => ?_, by simp⟩
  rw [(unhide HE).2]
  simp [take1]
set_option maxHeartbeats 2000000 in
set_option maxRecDepth 100000 in
theorem take_none (o wh n : Int) (y : Bool) (v : VV) (q : KK) (z : DD) (h2 : wh ≠ 2) (h3 : wh ≠ 3) (h4 : wh ≠ 4) (h5 : wh ≠ 5) (h6 : wh ≠ 6) (d : DR) (B k : Nat) (w X : World) (hf : Fr w X []) (hd : DI w X B k d) (hk : 400 ≤ k) (hkb : k ≤ 500000) : Calls Try.prog 19 #[.pointer (some ⟨B, 0, none⟩), (DL.mk o wh n y v q z).agg] X (TkPost w X B k d (take1 d.abs ⟨o, wh, n, y, v, q, z⟩)) := by
  have HF := hide hf
  have HD := hide hd
  have LL := hide hd.sy
  have H2 := hide h2
  have H3 := hide h3
  have H4 := hide h4
  have H5 := hide h5
  have H6 := hide h6
  have ht1 : take1 d.abs ⟨o, wh, n, y, v, q, z⟩ = none := by simp [take1, h2, h3, h4, h5, h6]
  have HT := hide ht1
  clear hf hd h2 h3 h4 h5 h6 ht1
  unfold DL.agg
  go_enter Try.func19, Try.ntmps19
  go_wp2_with (first | go_skip | ((with_reducible show wpList _ _ _ _ _ _); first | ((refine bxS 35 ((DL.cs ⟨o, wh, n, y, v, q, z⟩)) (by rfl) rfl rfl rfl (Nat.succ_pos _) (unhide LL) ?_); intro X3 B3 hE3 L3 hb3; replace LL := hide L3; clear L3 hb3 hE3; simp only [Act.put, List.setIfInBounds_toArray, List.set_cons_succ, List.set_cons_zero]) | ((refine rd (by rfl) (ex_load1 3 Try.isAgg3 rfl rfl ((unhide LL).hold 1 rfl) rfl) ?_); simp only [Act.put, List.setIfInBounds_toArray, List.set_cons_succ, List.set_cons_zero]) | ((refine rd (by rfl) (ex_eqNo rfl rfl rfl (unhide H2)) ?_); simp only [Act.put, List.setIfInBounds_toArray, List.set_cons_succ, List.set_cons_zero]) | ((refine rd (by rfl) (ex_eqNo rfl rfl rfl (unhide H3)) ?_); simp only [Act.put, List.setIfInBounds_toArray, List.set_cons_succ, List.set_cons_zero]) | ((refine rd (by rfl) (ex_eqNo rfl rfl rfl (unhide H4)) ?_); simp only [Act.put, List.setIfInBounds_toArray, List.set_cons_succ, List.set_cons_zero]) | ((refine rd (by rfl) (ex_eqNo rfl rfl rfl (unhide H5)) ?_); simp only [Act.put, List.setIfInBounds_toArray, List.set_cons_succ, List.set_cons_zero]) | ((refine rd (by rfl) (ex_eqNo rfl rfl rfl (unhide H6)) ?_); simp only [Act.put, List.setIfInBounds_toArray, List.set_cons_succ, List.set_cons_zero])))
  go_ret
  exact ⟨false, d, rfl, (DP.of_sy (unhide LL)).mono (Nat.le_succ k), by simp, fun _ => unhide HT⟩
theorem take_any (dl : DL) (d : DR) (B k : Nat) (w X : World) (hf : Fr w X []) (hd : DI w X B k d) (hk : 400 ≤ k) (hkb : k ≤ 500000) (hg : GL dl) : Calls Try.prog 19 #[.pointer (some ⟨B, 0, none⟩), dl.agg] X (TkPost w X B k d (take1 d.abs dl)) := by
  obtain ⟨o, wh, n, y, v, q, z⟩ := dl
  by_cases h2 : wh = 2
  · subst h2; exact take_class o n y v q z d B k w X hf hd hk hkb hg
  · by_cases h3 : wh = 3
    · subst h3; exact take_proto o n y v q z d B k w X hf hd hk hkb hg
    · by_cases h4 : wh = 4
      · subst h4; exact take_ext o n y v q z d B k w X hf hd hk hkb hg
      · by_cases h5 : wh = 5
        · subst h5; exact take_gone o n y v q z d B k w X hf hd hk hkb hg
        · by_cases h6 : wh = 6
          · subst h6; exact take_put o n y v q z d B k w X hf hd hk hkb hg
          · exact take_none o wh n y v q z h2 h3 h4 h5 h6 d B k w X hf hd hk hkb
end Go.Proofs.Ytcflglloopgieaa
