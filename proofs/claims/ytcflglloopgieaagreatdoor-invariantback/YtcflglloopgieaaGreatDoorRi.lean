import Derived.Test.YtcflglloopgieaaGreatDoorRh

/-! Kn -/
namespace Go.Proofs.YtcflglloopgieaaGreatDoor
open Go Go.Proofs Go.Maps Go.RowKit FM
set_option linter.unusedSimpArgs false
set_option linter.unusedVariables false
set_option maxHeartbeats 1000000

/-- A member that can be taken. -/
def GL (d : DL) : Prop := SV d.v ∧ d.v.x < 2 ^ 64 ∧ OkP ⟨d.k, d.d⟩ ∧ SP ⟨d.k, d.d⟩
theorem Sy.field {w0 w X : World} {E : List Nat} {L : List Ob} (h : Sy w0 X E L) (i : Nat) {B k : Nat} {d d' : DR} (hi : L[i]? = some (drO w B k d)) (p : Nat) (vs : List Value) (hp : p + vs.length ≤ 8) (hA : d'.A = d.A) (hps : d'.s.ps = d.s.ps) (hrx : d'.rx = d.rx) (hcs : cput d.cs p vs = d'.cs) (hgd : GS d'.s) : Sy w0 (X.setCells B p vs) E (L.set i (drO w B k d')) := by
  have h1 : DI w X B k d := h.get i hi
  have hl : p + vs.length ≤ d.cs.length := by
    have : d.cs.length = 8 + d.tl.length := by simp [DR.cs, SH.cs, VV.cs]; omega
    omega
  have hbs : d'.bs B = d.bs B := by unfold DR.bs; rw [hrx]
  refine h.set i hi (drO_ok _ _ _ _) ⟨by rw [← hcs]; exact h1.hold.put p vs hl, by rw [hA, hps]; exact h1.rd, hgd, h1.lo, fun x hx => ?_⟩ ((Fr.setCells X B p vs).mono (fun b hb => .inl (by rw [List.mem_singleton.1 hb]; simp [drO, DR.bs]))) (fun b hb => .inl (by simpa [drO, hbs] using hb))
  have r := h1.rows x (hrx ▸ hx)
  have hne : ∀ g, g ≠ B → (X.setCells B p vs).heap[g]? = X.heap[g]? := fun g hg => heap_setCells B vs p X g hg
  exact ⟨own_blk r.own (fun g hg => hne g (fun e => r.a1 (e ▸ hg))), r.map.block (hne _ r.a3), r.ri, r.gr, r.ml, r.a1, r.a2, r.a3, r.len, r.nn⟩
theorem stD {ops : Array Oper} {rest : List Oper} {Q : Exit → Act → World → Prop} {w w0 wb : World} {a : Act} {o : Oper} {E : List Nat} {L : List Ob} {B k p : Nat} {d : DR} (d' : DR) {vs : List Value} {v : Value} {x y : Operand} (i : Nat) (ty : TypeId) (hw : Region.wanted o (yielded ops a.tmps) = true) (ho : o.op = .store ty x y) (hx : a.eval x = .pointer (some ⟨B, p, none⟩)) (hy : a.eval y = v)
    (hv : v.cells.toList = vs) (h1 : ∀ u ∈ vs, u.oneCell' = true) (hi : (Tryz.prog.info? ty).map (·.size) = some vs.length) (hL : Sy w0 w E L) (hg : L[i]? = some (drO wb B k d)) (hp : p + vs.length ≤ 8) (hA : d'.A = d.A) (hps : d'.s.ps = d.s.ps) (hrx : d'.rx = d.rx) (hcs : cput d.cs p vs = d'.cs) (hgd : GS d'.s)
    (h : ∀ X, Sy w0 X E (L.set i (drO wb B k d')) → wpList Tryz.prog ops Q rest (a.put o.dst undef) X) : wpList Tryz.prog ops Q (o :: rest) a w := by
  refine BigFrame.wpList_want hw fun K hK => ?_
  have hP := hK _ _ (h _ (hL.field i hg p vs hp hA hps hrx hcs hgd))
  have hl : p + vs.length ≤ d.cs.length := by
    have : d.cs.length = 8 + d.tl.length := by simp [DR.cs, SH.cs, VV.cs]; omega
    omega
  have hH : Holds w B d.cs := (hL.get i hg : DI wb w B k d).hold
  unfold Oper.wp
  rw [ex_store ho hx hy hv h1 hi hH hl]
  exact hP
theorem DP.of_sy {w X Y : World} {B k : Nat} {d d' : DR} {M : List Ob} (h : Sy X Y (d.bs B) (drO w B k d' :: M)) : DP w X B k d d' Y :=
  ⟨h.get 0 rfl, h.fr, fun b hb => h.lo _ (List.mem_cons_self ..) b hb⟩
set_option maxHeartbeats 2000000 in
set_option maxRecDepth 100000 in
theorem take_class (o n : Int) (y : Bool) (v : VV) (q : KK) (z : DD) (d : DR) (B k : Nat) (w X : World) (hf : Fr w X []) (hd : DI w X B k d) (hk : 400 ≤ k) (hkb : k ≤ 500000) (hg : GL ⟨o, 2, n, y, v, q, z⟩) : Calls Tryz.prog 56 #[.pointer (some ⟨B, 0, none⟩), (DL.mk o 2 n y v q z).agg] X (TkPost w X B k d (take1 d.abs ⟨o, 2, n, y, v, q, z⟩)) := by
  have HF := hide hf
  have HD := hide hd
  have HK := hide hk
  have HKB := hide hkb
  have HG := hide hg
  have LL := hide hd.sy
  clear hf hd hk hkb hg
  unfold DL.agg
  go_enter Tryz.func56, Tryz.ntmps56
  go_wp2_with (first | go_skip | ((with_reducible show wpList _ _ _ _ _ _); first | ((refine bxS 65 ((DL.cs ⟨o, 2, n, y, v, q, z⟩)) (by rfl) rfl rfl rfl (Nat.succ_pos _) (unhide LL) ?_); intro X3 B3 hE3 L3 hb3; replace LL := hide L3; clear L3 hb3 hE3; simp only [Act.put, List.setIfInBounds_toArray, List.set_cons_succ, List.set_cons_zero]) | ((refine rd (by rfl) (ex_load1 3 Tryz.isAgg3 rfl rfl ((unhide LL).hold 1 rfl) rfl) ?_); simp only [Act.put, List.setIfInBounds_toArray, List.set_cons_succ, List.set_cons_zero]) | ((refine stD (vs := [.int .i64 n]) { d with s := { d.s with c := n } } 0 3 (by rfl) rfl rfl rfl rfl (by simp [Value.oneCell']) szI (unhide LL) rfl (by simp [VV.cs]) rfl rfl rfl rfl ((unhide HD).gd) ?_); intro X4 L4; replace LL := hide L4; clear L4; simp only [Act.put, List.setIfInBounds_toArray, List.set_cons_succ, List.set_cons_zero])))
  go_ret
  exact ⟨true, { d with s := { d.s with c := n } }, rfl, (DP.of_sy (unhide LL)).mono (Nat.le_succ k), fun _ => by simp [take1]; rfl, by simp⟩
set_option maxHeartbeats 2000000 in
set_option maxRecDepth 100000 in
theorem take_proto (o n : Int) (y : Bool) (v : VV) (q : KK) (z : DD) (d : DR) (B k : Nat) (w X : World) (hf : Fr w X []) (hd : DI w X B k d) (hk : 400 ≤ k) (hkb : k ≤ 500000) (hg : GL ⟨o, 3, n, y, v, q, z⟩) : Calls Tryz.prog 56 #[.pointer (some ⟨B, 0, none⟩), (DL.mk o 3 n y v q z).agg] X (TkPost w X B k d (take1 d.abs ⟨o, 3, n, y, v, q, z⟩)) := by
  have HF := hide hf
  have HD := hide hd
  have HK := hide hk
  have HKB := hide hkb
  have HG := hide hg
  have LL := hide hd.sy
  clear hf hd hk hkb hg
  unfold DL.agg
  go_enter Tryz.func56, Tryz.ntmps56
  go_wp2_with (first | go_skip | ((with_reducible show wpList _ _ _ _ _ _); first | ((refine bxS 65 ((DL.cs ⟨o, 3, n, y, v, q, z⟩)) (by rfl) rfl rfl rfl (Nat.succ_pos _) (unhide LL) ?_); intro X3 B3 hE3 L3 hb3; replace LL := hide L3; clear L3 hb3 hE3; simp only [Act.put, List.setIfInBounds_toArray, List.set_cons_succ, List.set_cons_zero]) | ((refine rd (by rfl) (ex_load1 3 Tryz.isAgg3 rfl rfl ((unhide LL).hold 1 rfl) rfl) ?_); simp only [Act.put, List.setIfInBounds_toArray, List.set_cons_succ, List.set_cons_zero]) | ((refine rd (by rfl) (ex_loadN (vs := v.cs) 31 5 rwV szV rfl rfl ((unhide LL).hold 1 rfl) rfl rfl) ?_); simp only [Act.put, List.setIfInBounds_toArray, List.set_cons_succ, List.set_cons_zero]) | ((refine stD (vs := v.cs) { d with s := { d.s with p := v } } 0 31 (by rfl) rfl rfl rfl rfl (vcs_one v) szV (unhide LL) rfl (by simp [VV.cs]) rfl rfl rfl rfl (⟨(unhide HG).1, (unhide HG).2.1, (unhide HD).gd.2.2⟩) ?_); intro X4 L4; replace LL := hide L4; clear L4; simp only [Act.put, List.setIfInBounds_toArray, List.set_cons_succ, List.set_cons_zero])))
  go_ret
  exact ⟨true, { d with s := { d.s with p := v } }, rfl, (DP.of_sy (unhide LL)).mono (Nat.le_succ k), fun _ => by simp [take1]; rfl, by simp⟩
set_option maxHeartbeats 2000000 in
set_option maxRecDepth 100000 in
theorem take_ext (o n : Int) (y : Bool) (v : VV) (q : KK) (z : DD) (d : DR) (B k : Nat) (w X : World) (hf : Fr w X []) (hd : DI w X B k d) (hk : 400 ≤ k) (hkb : k ≤ 500000) (hg : GL ⟨o, 4, n, y, v, q, z⟩) : Calls Tryz.prog 56 #[.pointer (some ⟨B, 0, none⟩), (DL.mk o 4 n y v q z).agg] X (TkPost w X B k d (take1 d.abs ⟨o, 4, n, y, v, q, z⟩)) := by
  have HF := hide hf
  have HD := hide hd
  have HK := hide hk
  have HKB := hide hkb
  have HG := hide hg
  have LL := hide hd.sy
  clear hf hd hk hkb hg
  unfold DL.agg
  go_enter Tryz.func56, Tryz.ntmps56
  go_wp2_with (first | go_skip | ((with_reducible show wpList _ _ _ _ _ _); first | ((refine bxS 65 ((DL.cs ⟨o, 4, n, y, v, q, z⟩)) (by rfl) rfl rfl rfl (Nat.succ_pos _) (unhide LL) ?_); intro X3 B3 hE3 L3 hb3; replace LL := hide L3; clear L3 hb3 hE3; simp only [Act.put, List.setIfInBounds_toArray, List.set_cons_succ, List.set_cons_zero]) | ((refine rd (by rfl) (ex_load1 3 Tryz.isAgg3 rfl rfl ((unhide LL).hold 1 rfl) rfl) ?_); simp only [Act.put, List.setIfInBounds_toArray, List.set_cons_succ, List.set_cons_zero]) | ((refine rd (by rfl) (ex_load1 4 Tryz.isAgg4 rfl rfl ((unhide LL).hold 1 rfl) rfl) ?_); simp only [Act.put, List.setIfInBounds_toArray, List.set_cons_succ, List.set_cons_zero]) | ((refine stD (vs := [.bool y]) { d with s := { d.s with x := y } } 0 4 (by rfl) rfl rfl rfl rfl (by simp [Value.oneCell']) szB (unhide LL) rfl (by simp [VV.cs]) rfl rfl rfl rfl ((unhide HD).gd) ?_); intro X4 L4; replace LL := hide L4; clear L4; simp only [Act.put, List.setIfInBounds_toArray, List.set_cons_succ, List.set_cons_zero])))
  go_ret
  exact ⟨true, { d with s := { d.s with x := y } }, rfl, (DP.of_sy (unhide LL)).mono (Nat.le_succ k), fun _ => by simp [take1]; rfl, by simp⟩
set_option maxHeartbeats 2000000 in
set_option maxRecDepth 100000 in
theorem take_gone (o n : Int) (y : Bool) (v : VV) (q : KK) (z : DD) (d : DR) (B k : Nat) (w X : World) (hf : Fr w X []) (hd : DI w X B k d) (hk : 400 ≤ k) (hkb : k ≤ 500000) (hg : GL ⟨o, 5, n, y, v, q, z⟩) : Calls Tryz.prog 56 #[.pointer (some ⟨B, 0, none⟩), (DL.mk o 5 n y v q z).agg] X (TkPost w X B k d (take1 d.abs ⟨o, 5, n, y, v, q, z⟩)) := by
  have HF := hide hf
  have HD := hide hd
  have HK := hide hk
  have HKB := hide hkb
  have HG := hide hg
  have LL := hide hd.sy
  clear hf hd hk hkb hg
  unfold DL.agg
  go_enter Tryz.func56, Tryz.ntmps56
  go_wp2_with (first | go_skip | ((with_reducible show wpList _ _ _ _ _ _); first | ((refine bxS 65 ((DL.cs ⟨o, 5, n, y, v, q, z⟩)) (by rfl) rfl rfl rfl (Nat.succ_pos _) (unhide LL) ?_); intro X3 B3 hE3 L3 hb3; replace LL := hide L3; clear L3 hb3 hE3; simp only [Act.put, List.setIfInBounds_toArray, List.set_cons_succ, List.set_cons_zero]) | ((refine rd (by rfl) (ex_load1 3 Tryz.isAgg3 rfl rfl ((unhide LL).hold 1 rfl) rfl) ?_); simp only [Act.put, List.setIfInBounds_toArray, List.set_cons_succ, List.set_cons_zero]) | ((refine rd (by rfl) (ex_loadN (vs := q.cs) 56 2 rwK szK rfl rfl ((unhide LL).hold 1 rfl) rfl rfl) ?_); simp only [Act.put, List.setIfInBounds_toArray, List.set_cons_succ, List.set_cons_zero])))
  have hrm := remove_any q d B k w _ ((unhide HF).trans (unhide LL).fr (fun b hb => .inr ((unhide HD).base b hb))) ((unhide LL).get 0 rfl) (unhide HK) (unhide HKB) ⟨(unhide HG).2.2.1.2, (unhide HG).2.2.2.1⟩
  rw [kagg] at hrm
  refine hrm.mono ?_
  clear hrm
  rintro e Y1 ⟨b, d', rfl, hDP, hT, hFa⟩
  have hDD := (DP.of_sy (unhide LL)).trans hDP
  have HE := hide (And.intro hDD (And.intro hT hFa))
  clear hDP hT hFa hDD LL
  go_wp2_with fail
  go_ret
  refine ⟨b, d', rfl, (unhide HE).1, fun hb => ?_, fun hb => ?_⟩
  · have := (unhide HE).2.1 hb
    simpa [take1] using this
  · have := (unhide HE).2.2 hb
    simpa [take1] using this
set_option maxHeartbeats 2000000 in
set_option maxRecDepth 100000 in
theorem take_put (o n : Int) (y : Bool) (v : VV) (q : KK) (z : DD) (d : DR) (B k : Nat) (w X : World) (hf : Fr w X []) (hd : DI w X B k d) (hk : 400 ≤ k) (hkb : k ≤ 500000) (hg : GL ⟨o, 6, n, y, v, q, z⟩) : Calls Tryz.prog 56 #[.pointer (some ⟨B, 0, none⟩), (DL.mk o 6 n y v q z).agg] X (TkPost w X B k d (take1 d.abs ⟨o, 6, n, y, v, q, z⟩)) := by
  have HF := hide hf
  have HD := hide hd
  have HK := hide hk
  have HKB := hide hkb
  have HG := hide hg
  have LL := hide hd.sy
  clear hf hd hk hkb hg
  unfold DL.agg
  go_enter Tryz.func56, Tryz.ntmps56
  go_wp2_with (first | go_skip | ((with_reducible show wpList _ _ _ _ _ _); first | ((refine bxS 65 ((DL.cs ⟨o, 6, n, y, v, q, z⟩)) (by rfl) rfl rfl rfl (Nat.succ_pos _) (unhide LL) ?_); intro X3 B3 hE3 L3 hb3; replace LL := hide L3; clear L3 hb3 hE3; simp only [Act.put, List.setIfInBounds_toArray, List.set_cons_succ, List.set_cons_zero]) | ((refine rd (by rfl) (ex_load1 3 Tryz.isAgg3 rfl rfl ((unhide LL).hold 1 rfl) rfl) ?_); simp only [Act.put, List.setIfInBounds_toArray, List.set_cons_succ, List.set_cons_zero]) | ((refine rd (by rfl) (ex_loadN (vs := q.cs) 56 2 rwK szK rfl rfl ((unhide LL).hold 1 rfl) rfl rfl) ?_); simp only [Act.put, List.setIfInBounds_toArray, List.set_cons_succ, List.set_cons_zero]) | ((refine rd (by rfl) (ex_loadN (vs := z.cs) 59 18 rwD szD rfl rfl ((unhide LL).hold 1 rfl) rfl rfl) ?_); simp only [Act.put, List.setIfInBounds_toArray, List.set_cons_succ, List.set_cons_zero])))
  have hrm := putX_any q z d B k w _ ((unhide HF).trans (unhide LL).fr (fun b hb => .inr ((unhide HD).base b hb))) ((unhide LL).get 0 rfl) (unhide HK) (unhide HKB) ⟨(unhide HG).2.2.1.2, (unhide HG).2.2⟩
  rw [kagg, dagg] at hrm
  refine hrm.mono ?_
  clear hrm
  rintro e Y1 ⟨d', rfl, hDP, hT⟩
  have hDD := (DP.of_sy (unhide LL)).trans hDP
  have HE := hide (And.intro hDD hT)
  clear hDP hT hDD LL
  go_wp2_with fail
  go_ret
  refine ⟨true, d', rfl, (unhide HE).1, fun _ => ?_, by simp⟩
  rw [(unhide HE).2]
  simp [take1]
set_option maxHeartbeats 2000000 in
set_option maxRecDepth 100000 in
theorem take_none (o wh n : Int) (y : Bool) (v : VV) (q : KK) (z : DD) (h2 : wh ≠ 2) (h3 : wh ≠ 3) (h4 : wh ≠ 4) (h5 : wh ≠ 5) (h6 : wh ≠ 6) (d : DR) (B k : Nat) (w X : World) (hf : Fr w X []) (hd : DI w X B k d) (hk : 400 ≤ k) (hkb : k ≤ 500000) : Calls Tryz.prog 56 #[.pointer (some ⟨B, 0, none⟩), (DL.mk o wh n y v q z).agg] X (TkPost w X B k d (take1 d.abs ⟨o, wh, n, y, v, q, z⟩)) := by
  have HF := hide hf
  have HD := hide hd
  have LL := hide hd.sy
  have H2 := hide h2
  have H3 := hide h3
  have H4 := hide h4
  have H5 := hide h5
  have H6 := hide h6
  have ht1 : take1 d.abs ⟨o, wh, n, y, v, q, z⟩ = none := by simp [take1, h2, h3, h4, h5, h6]
  have HT := hide ht1
  clear hf hd h2 h3 h4 h5 h6 ht1
  unfold DL.agg
  go_enter Tryz.func56, Tryz.ntmps56
  go_wp2_with (first | go_skip | ((with_reducible show wpList _ _ _ _ _ _); first | ((refine bxS 65 ((DL.cs ⟨o, wh, n, y, v, q, z⟩)) (by rfl) rfl rfl rfl (Nat.succ_pos _) (unhide LL) ?_); intro X3 B3 hE3 L3 hb3; replace LL := hide L3; clear L3 hb3 hE3; simp only [Act.put, List.setIfInBounds_toArray, List.set_cons_succ, List.set_cons_zero]) | ((refine rd (by rfl) (ex_load1 3 Tryz.isAgg3 rfl rfl ((unhide LL).hold 1 rfl) rfl) ?_); simp only [Act.put, List.setIfInBounds_toArray, List.set_cons_succ, List.set_cons_zero]) | ((refine rd (by rfl) (ex_eqNo rfl rfl rfl (unhide H2)) ?_); simp only [Act.put, List.setIfInBounds_toArray, List.set_cons_succ, List.set_cons_zero]) | ((refine rd (by rfl) (ex_eqNo rfl rfl rfl (unhide H3)) ?_); simp only [Act.put, List.setIfInBounds_toArray, List.set_cons_succ, List.set_cons_zero]) | ((refine rd (by rfl) (ex_eqNo rfl rfl rfl (unhide H4)) ?_); simp only [Act.put, List.setIfInBounds_toArray, List.set_cons_succ, List.set_cons_zero]) | ((refine rd (by rfl) (ex_eqNo rfl rfl rfl (unhide H5)) ?_); simp only [Act.put, List.setIfInBounds_toArray, List.set_cons_succ, List.set_cons_zero]) | ((refine rd (by rfl) (ex_eqNo rfl rfl rfl (unhide H6)) ?_); simp only [Act.put, List.setIfInBounds_toArray, List.set_cons_succ, List.set_cons_zero])))
  go_ret
  exact ⟨false, d, rfl, (DP.of_sy (unhide LL)).mono (Nat.le_succ k), by simp, fun _ => unhide HT⟩
theorem take_any (dl : DL) (d : DR) (B k : Nat) (w X : World) (hf : Fr w X []) (hd : DI w X B k d) (hk : 400 ≤ k) (hkb : k ≤ 500000) (hg : GL dl) : Calls Tryz.prog 56 #[.pointer (some ⟨B, 0, none⟩), dl.agg] X (TkPost w X B k d (take1 d.abs dl)) := by
  obtain ⟨o, wh, n, y, v, q, z⟩ := dl
  by_cases h2 : wh = 2
  · subst h2; exact take_class o n y v q z d B k w X hf hd hk hkb hg
  · by_cases h3 : wh = 3
    · subst h3; exact take_proto o n y v q z d B k w X hf hd hk hkb hg
    · by_cases h4 : wh = 4
      · subst h4; exact take_ext o n y v q z d B k w X hf hd hk hkb hg
      · by_cases h5 : wh = 5
        · subst h5; exact take_gone o n y v q z d B k w X hf hd hk hkb hg
        · by_cases h6 : wh = 6
          · subst h6; exact take_put o n y v q z d B k w X hf hd hk hkb hg
          · exact take_none o wh n y v q z h2 h3 h4 h5 h6 d B k w X hf hd hk hkb
end Go.Proofs.YtcflglloopgieaaGreatDoor

/-! Ko -/
namespace Go.Proofs.YtcflglloopgieaaGreatDoor
open Go Go.Proofs Go.Maps Go.RowKit FM
set_option linter.unusedSimpArgs false
set_option linter.unusedVariables false
set_option maxHeartbeats 1000000

theorem Sy.perm {w X : World} {E : List Nat} {L L' : List Ob} (h : Sy w X E L) (hp : L.Perm L') : Sy w X E L' :=
  ⟨h.fr, fun o ho => h.ok o (hp.mem_iff.2 ho), fun o ho => h.ho o (hp.mem_iff.2 ho), fun o ho => h.lo o (hp.mem_iff.2 ho), hp.pairwise h.dis (fun hab x hx hxa => hab x hxa hx)⟩
theorem Sy.front {w X : World} {E : List Nat} {L : List Ob} {o : Ob} (h : Sy w X E (L ++ [o])) : Sy w X E (o :: L) := h.perm (List.perm_append_singleton o L)
theorem Sy.tail {w X : World} {E : List Nat} {L : List Ob} {o : Ob} (h : Sy w X E (o :: L)) : Sy w X E L :=
  ⟨h.fr, fun q hq => h.ok q (List.mem_cons_of_mem _ hq), fun q hq => h.ho q (List.mem_cons_of_mem _ hq), fun q hq => h.lo q (List.mem_cons_of_mem _ hq), (List.pairwise_cons.1 h.dis).2⟩
section
variable {ops : Array Oper} {rest : List Oper} {Q : Exit → Act → World → Prop} {w w0 : World} {a : Act} {o : Oper} {E : List Nat} {L : List Ob}
theorem bxP {v : Value} {x : Operand} (ty : TypeId) (cs : List Value) (hw : Region.wanted o (yielded ops a.tmps) = true) (ho : o.op = .box ty x) (hx : a.eval x = v) (hv : v.cells.toList = cs) (hc : 0 < cs.length) (hL : Sy w0 w E L)
    (h : ∀ X B, B = w.heap.size → Sy w0 X E (boxO B cs :: L) → Below w.heap.size w X → wpList Tryz.prog ops Q rest (a.put o.dst (.pointer (some ⟨B, 0, none⟩))) X) : wpList Tryz.prog ops Q (o :: rest) a w :=
  bxS ty cs hw ho hx hv hc hL (fun X B hB hS hb => h X B hB hS.front hb)
theorem alP {v : Value} (ty : TypeId) (cs : List Value) (hw : Region.wanted o (yielded ops a.tmps) = true) (ho : o.op = .alloc ty) (hz : ∀ w, (zeroValue ty).run Tryz.prog w = .ok v w) (hv : v.cells.toList = cs) (hc : 0 < cs.length) (hL : Sy w0 w E L)
    (h : ∀ X B, B = w.heap.size → Sy w0 X E (boxO B cs :: L) → Below w.heap.size w X → wpList Tryz.prog ops Q rest (a.put o.dst (.pointer (some ⟨B, 0, none⟩))) X) : wpList Tryz.prog ops Q (o :: rest) a w :=
  alS ty cs hw ho hz hv hc hL (fun X B hB hS hb => h X B hB hS.front hb)
theorem bsP {t e : TypeId} {size bytes : Nat} {z v : Value} {cs : List Value} {x : Operand} (hw : Region.wanted o (yielded ops a.tmps) = true) (ho : o.op = .buildSlice t 1 #[(0, x)]) (hx : a.eval x = v)
    (ht : Tryz.prog.underlying t = some (.slice e)) (hi : (Tryz.prog.info? e).map (fun i => (i.zero, i.size, i.bytes)) = some (some z, size, bytes)) (hs1 : size ≤ 100) (hv : v.cells.toList = cs) (hc : cs.length = size) (h0 : 0 < size) (hL : Sy w0 w E L)
    (h : ∀ X B, B = w.heap.size → Sy w0 X E (boxO B cs :: L) → Below w.heap.size w X → wpList Tryz.prog ops Q rest (a.put o.dst (.slice (some ⟨B, 0, none⟩) 1 1)) X) : wpList Tryz.prog ops Q (o :: rest) a w :=
  bsS hw ho hx ht hi hs1 hv hc h0 hL (fun X B hB hS hb => h X B hB hS.front hb)
end
/-- A draft, its block, and how many rows it may have. -/
structure DB where
  b : Nat
  k : Nat
  d : DR
def dbO (w : World) (p : DB) : Ob := drO w p.b p.k p.d
def ptr (p : DB) : Value := .pointer (some ⟨p.b, 0, none⟩)
/-- A draft of a shape that lies somewhere. -/
def fresh (s : SH) (A : Option Addr) (cap : Nat) : DR := ⟨s, A, cap, none⟩
theorem fresh_abs (s : SH) (A : Option Addr) (cap : Nat) : (fresh s A cap).abs = s := rfl
theorem Sy.draft {w0 w X : World} {E : List Nat} {L : List Ob} (h : Sy w0 X E L) (hw : w.heap.size ≤ X.heap.size) (s : SH) (A : Option Addr) (cap : Nat) (hrd : ReadsP w A s.ps) (hgd : GS s) : Sy w0 (X.alloc (Obj.cells (s.cs A cap ++ [Value.slice none 0 0, Value.map none]).toArray 95)) E (L ++ [dbO w ⟨X.heap.size, 400, fresh s A cap⟩]) :=
  h.add (drO_ok _ _ _ _) ⟨Holds.new X _ 95, hrd, hgd, hw, fun x hx => by cases hx⟩ ((Below.refl _ _).alloc (Nat.le_refl _) _) (fun b hb => by
    have : b = X.heap.size := by simpa [dbO, drO, DR.bs, fresh] using hb
    omega)
theorem bDr (s : SH) (A : Option Addr) (c : Nat) (w : World) : (Instr.build 95 #[(0, .agg (s.cs A c).toArray)]).run Tryz.prog w = .ok (.agg (s.cs A c ++ [Value.slice none 0 0, Value.map none]).toArray) w := by kernel_rfl
theorem ex_bDr {o : Oper} {a : Act} {w : World} {x0 : Operand} (s : SH) (A : Option Addr) (c : Nat) (ho : o.op = .build 95 #[(0, x0)]) (h0 : a.eval x0 = .agg (s.cs A c).toArray) : (execOp a.eval o).run Tryz.prog w = .ok (.value (.agg (s.cs A c ++ [Value.slice none 0 0, Value.map none]).toArray)) w := by
  have e := bDr s A c w
  unfold execOp
  simp only [ho, List.map_toArray, List.map_cons, List.map_nil, h0]
  simp [e]
theorem bSh (n : Int) (v : VV) (y : Bool) (w : World) : (Instr.build 34 #[(0, .int .i64 n), (1, .agg v.cs.toArray), (2, .bool y)]).run Tryz.prog w = .ok (.agg (SH.cs ⟨n, v, y, []⟩ none 0).toArray) w := by kernel_rfl
theorem ex_bSh {o : Oper} {a : Act} {w : World} {x0 x1 x2 : Operand} (n : Int) (v : VV) (y : Bool) (ho : o.op = .build 34 #[(0, x0), (1, x1), (2, x2)]) (h0 : a.eval x0 = .int .i64 n) (h1 : a.eval x1 = .agg v.cs.toArray) (h2 : a.eval x2 = .bool y) : (execOp a.eval o).run Tryz.prog w = .ok (.value (.agg (SH.cs ⟨n, v, y, []⟩ none 0).toArray)) w := by
  have e := bSh n v y w
  unfold execOp
  simp only [ho, List.map_toArray, List.map_cons, List.map_nil, h0, h1, h2]
  simp [e]
theorem bxD {ops : Array Oper} {rest : List Oper} {Q : Exit → Act → World → Prop} {w w0 wb : World} {a : Act} {o : Oper} {E : List Nat} {L : List Ob} {x : Operand} (s : SH) (A : Option Addr) (cap : Nat) (hw : Region.wanted o (yielded ops a.tmps) = true) (ho : o.op = .box 95 x) (hx : a.eval x = .agg (s.cs A cap ++ [Value.slice none 0 0, Value.map none]).toArray) (hL : Sy w0 w E L) (hb : wb.heap.size ≤ w.heap.size) (hrd : ReadsP wb A s.ps) (hgd : GS s)
    (h : ∀ X B, B = w.heap.size → Sy w0 X E (L ++ [dbO wb ⟨B, 400, fresh s A cap⟩]) → wpList Tryz.prog ops Q rest (a.put o.dst (.pointer (some ⟨B, 0, none⟩))) X) : wpList Tryz.prog ops Q (o :: rest) a w := by
  refine BigFrame.wpList_want hw fun K hK => ?_
  have hP := hK _ _ (h _ _ rfl (hL.draft hb s A cap hrd hgd))
  unfold Oper.wp
  rw [ex_box 95 (s.cs A cap ++ [Value.slice none 0 0, Value.map none]) ho hx rfl]
  exact hP
def rowD (w : World) (v : Value) (ds : List DB) : Ob := rowO w.heap.size 92 1 v ds.length (ds.map ptr)
/-- The drafts, and the row of their pointers. -/
def core (w : World) (v : Value) (ds : List DB) : List Ob := rowD w v ds :: ds.map (dbO w)
theorem core_snoc (w : World) (v : Value) (ds : List DB) (p : DB) : core w v (ds ++ [p]) = rowO w.heap.size 92 1 v (ds.length + 1) (ds.map ptr ++ [ptr p]) :: (ds.map (dbO w) ++ [dbO w p]) := by
  simp [core, rowD]
def absL (ds : List DB) : List SH := ds.map (fun p => p.d.abs)
def DoPost (w : World) (l : List SH) (e : Ending) (X : World) : Prop := ∃ (v : Value) (ds : List DB), e = .returned v ∧ Sy w X [] (core w v ds) ∧ absL ds = l ∧ ∀ p ∈ ds, p.k = 400
theorem ptr_one (p : DB) : ∀ u ∈ [ptr p], u.oneCell' = true := by simp [ptr, Value.oneCell']
theorem ReadsU.gs {w : World} {A : Option Addr} {l : List SH} (h : ReadsU w A l) {j : Nat} {s : SH} (hs : l[j]? = some s) : GS s := by
  obtain ⟨h0, h1, h2, _⟩ := h j s hs
  exact ⟨h0.1, h1, h2, h0.2⟩
set_option maxHeartbeats 2000000 in
set_option maxRecDepth 100000 in
theorem draftsOf_any (B : Option Addr) (cap : Nat) (l : List SH) (w : World) (hR : ReadsU w B l) (hz : l.length ≤ 100000) : Calls Tryz.prog 33 #[.slice B l.length cap] w (DoPost w l) := by
  have HR := hide hR
  have HZ := hide hz
  have LL := hide (Sy.nil w [])
  clear hR hz
  go_enter Tryz.func33, Tryz.ntmps33
  go_wp2_with (first | go_skip | ((with_reducible show wpList _ _ _ _ _ _); first | ((refine rd (by rfl) (ex_lenG 22 34 Tryz.underlying22 rfl rfl) ?_); simp only [Act.put, List.setIfInBounds_toArray, List.set_cons_succ, List.set_cons_zero]) | ((refine mkS w.heap.size l.length (by rfl) rfl rfl rfl Tryz.underlying72 infXp (unhide HZ) (by decide) (by decide) (unhide LL) (unhide LL).fr.size ?_); intro X1 B1 hE1 L1 hb1; replace LL := hide L1; clear L1 hb1 hE1; simp only [Act.put, List.setIfInBounds_toArray, List.set_cons_succ, List.set_cons_zero]) | ((refine rd (by rfl) (ex_indexA 22 8 i unSs idSs rfl rfl (unhide HA) rfl (unhide HLT)) ?_); simp only [Act.put, List.setIfInBounds_toArray, List.set_cons_succ, List.set_cons_zero]) | ((refine rd (by rfl) (ex_loadR (vs := s.cs SA sc) 34 8 rwS szS rfl rfl (unhide HA2 _ (unhide LL).fr) rfl) ?_); simp only [Act.put, List.setIfInBounds_toArray, List.set_cons_succ, List.set_cons_zero]) | ((refine alP (v := .agg (zeroS.cs none 0).toArray) 34 (zeroS.cs none 0) (by rfl) rfl (fun w => by kernel_rfl) rfl (Nat.succ_pos _) (unhide LL) ?_); intro X5 B5 hE5 L5 hb5; replace LL := hide L5; clear L5 hb5 hE5; simp only [Act.put, List.setIfInBounds_toArray, List.set_cons_succ, List.set_cons_zero]) | ((refine stS (vs := s.cs SA sc) 0 34 (by rfl) rfl rfl rfl rfl (shcs_one s SA sc) szS (unhide LL) rfl (by simp [cput, SH.cs, VV.cs, zeroS, zeroV]) ?_); intro X6 L6 hf6 hs6; replace LL := hide L6; clear L6 hf6 hs6; simp only [Act.put, List.setIfInBounds_toArray, List.set_cons_succ, List.set_cons_zero]) | ((refine rd (by rfl) (ex_loadN (vs := s.cs SA sc) 34 8 rwS szS rfl rfl ((unhide LL).hold 0 rfl) rfl rfl) ?_); simp only [Act.put, List.setIfInBounds_toArray, List.set_cons_succ, List.set_cons_zero]) | ((refine rd (by rfl) (ex_bDr s SA sc rfl rfl) ?_); simp only [Act.put, List.setIfInBounds_toArray, List.set_cons_succ, List.set_cons_zero]) | ((refine bxD (wb := w) s SA sc (by rfl) rfl rfl (unhide LL) (unhide LL).fr.size (unhide HPS) (unhide HGS) ?_); intro X7 B7 hE7 L7; replace LL := hide L7; clear L7 hE7; simp only [Act.put, List.setIfInBounds_toArray, List.set_cons_succ, List.set_cons_zero]) | ((refine bsP (cs := [ptr ⟨B7, 400, fresh s SA sc⟩]) (by rfl) rfl rfl Tryz.underlying72 infXp (by decide) rfl rfl (by decide) (unhide LL) ?_); intro X8 B8 hE8 L8 hb8; replace LL := hide L8; clear L8 hb8 hE8; simp only [Act.put, List.setIfInBounds_toArray, List.set_cons_succ, List.set_cons_zero]) | ((refine apS (size := 1) (bytes := 8) (base := w.heap.size) (k := ds.length) (xs := ds.map ptr) (news := [ptr ⟨B7, 400, fresh s SA sc⟩]) (v := .slice A ds.length c) 2 0 rfl rfl rfl rfl Tryz.underlying72 infXp rfl (by decide) (unhide LL) rfl rfl rfl (ptr_one _) (by have := unhide HDL; have := unhide HZ; have := unhide HLT; omega) (by decide) (unhide LL).fr.size ?_); intro A9 c9 X9 L9; replace LL := hide L9; clear L9; simp only [Act.put, List.setIfInBounds_toArray, List.set_cons_succ, List.set_cons_zero])))
  go_loopg [3, 11] l.length (fun gm s3 s11 wr => ∃ (i : Nat) (A : Option Addr) (c : Nat) (ds : List DB), s11 = .int .i64 (i : Nat) ∧ i ≤ l.length ∧ l.length - i ≤ gm ∧ s3 = .slice A ds.length c ∧ Hid (ds.length = i) ∧ Hid (absL ds = l.take i ∧ ∀ p ∈ ds, p.k = 400) ∧ Hid (Sy w wr [] (core w (.slice A ds.length c) ds)))
  case atStart => exact ⟨0, _, _, [], rfl, by omega, by omega, rfl, hide rfl, hide ⟨rfl, by simp⟩, LL⟩
  case round =>
    clear LL
    obtain ⟨i, A, c, ds, rfl, hil, hgm, rfl, HDL, HAB, LL⟩ := hrel
    by_cases hlt : i < l.length
    · have dlt : decide ((i : Int) < (l.length : Int)) = true := decide_eq_true (by omega)
      have hw1 : IntKind.i64.wrap ((i : Int) + 1) = (i : Int) + 1 := by have := unhide HZ; rw [IntKind.wrap_i64]; omega
      obtain ⟨s, hs⟩ : ∃ s, l[i]? = some s := ⟨_, List.getElem?_eq_getElem hlt⟩
      obtain ⟨_, _, _, b, off, SA, sc, hA, hb, hps, hrg, _⟩ := (unhide HR) i s hs
      have HA := hide hA
      have HA2 : Hid (∀ X, Fr w X [] → X.rangeAt b (off + i * 8) (s.cs SA sc)) := hide (fun X hX => rangeAt_fr hrg hb hX)
      have HPS := hide hps
      have HGS := hide ((unhide HR).gs hs)
      have HLT := hide hlt
      have HS := hide hs
      replace LL : Hid (Sy w wr [] (rowO w.heap.size 92 1 (.slice A ds.length c) ds.length (ds.map ptr) :: ds.map (dbO w))) := LL
      clear hA hb hps hrg hlt hil hs
      go_wp2_with (first | go_skip | ((with_reducible show wpList _ _ _ _ _ _); first | ((refine rd (by rfl) (ex_lenG 22 34 Tryz.underlying22 rfl rfl) ?_); simp only [Act.put, List.setIfInBounds_toArray, List.set_cons_succ, List.set_cons_zero]) | ((refine mkS w.heap.size l.length (by rfl) rfl rfl rfl Tryz.underlying72 infXp (unhide HZ) (by decide) (by decide) (unhide LL) (unhide LL).fr.size ?_); intro X1 B1 hE1 L1 hb1; replace LL := hide L1; clear L1 hb1 hE1; simp only [Act.put, List.setIfInBounds_toArray, List.set_cons_succ, List.set_cons_zero]) | ((refine rd (by rfl) (ex_indexA 22 8 i unSs idSs rfl rfl (unhide HA) rfl (unhide HLT)) ?_); simp only [Act.put, List.setIfInBounds_toArray, List.set_cons_succ, List.set_cons_zero]) | ((refine rd (by rfl) (ex_loadR (vs := s.cs SA sc) 34 8 rwS szS rfl rfl (unhide HA2 _ (unhide LL).fr) rfl) ?_); simp only [Act.put, List.setIfInBounds_toArray, List.set_cons_succ, List.set_cons_zero]) | ((refine alP (v := .agg (zeroS.cs none 0).toArray) 34 (zeroS.cs none 0) (by rfl) rfl (fun w => by kernel_rfl) rfl (Nat.succ_pos _) (unhide LL) ?_); intro X5 B5 hE5 L5 hb5; replace LL := hide L5; clear L5 hb5 hE5; simp only [Act.put, List.setIfInBounds_toArray, List.set_cons_succ, List.set_cons_zero]) | ((refine stS (vs := s.cs SA sc) 0 34 (by rfl) rfl rfl rfl rfl (shcs_one s SA sc) szS (unhide LL) rfl (by simp [cput, SH.cs, VV.cs, zeroS, zeroV]) ?_); intro X6 L6 hf6 hs6; replace LL := hide L6; clear L6 hf6 hs6; simp only [Act.put, List.setIfInBounds_toArray, List.set_cons_succ, List.set_cons_zero]) | ((refine rd (by rfl) (ex_loadN (vs := s.cs SA sc) 34 8 rwS szS rfl rfl ((unhide LL).hold 0 rfl) rfl rfl) ?_); simp only [Act.put, List.setIfInBounds_toArray, List.set_cons_succ, List.set_cons_zero]) | ((refine rd (by rfl) (ex_bDr s SA sc rfl rfl) ?_); simp only [Act.put, List.setIfInBounds_toArray, List.set_cons_succ, List.set_cons_zero]) | ((refine bxD (wb := w) s SA sc (by rfl) rfl rfl (unhide LL) (unhide LL).fr.size (unhide HPS) (unhide HGS) ?_); intro X7 B7 hE7 L7; replace LL := hide L7; clear L7 hE7; simp only [Act.put, List.setIfInBounds_toArray, List.set_cons_succ, List.set_cons_zero]) | ((refine bsP (cs := [ptr ⟨B7, 400, fresh s SA sc⟩]) (by rfl) rfl rfl Tryz.underlying72 infXp (by decide) rfl rfl (by decide) (unhide LL) ?_); intro X8 B8 hE8 L8 hb8; replace LL := hide L8; clear L8 hb8 hE8; simp only [Act.put, List.setIfInBounds_toArray, List.set_cons_succ, List.set_cons_zero]) | ((refine apS (size := 1) (bytes := 8) (base := w.heap.size) (k := ds.length) (xs := ds.map ptr) (news := [ptr ⟨B7, 400, fresh s SA sc⟩]) (v := .slice A ds.length c) 2 0 rfl rfl rfl rfl Tryz.underlying72 infXp rfl (by decide) (unhide LL) rfl rfl rfl (ptr_one _) (by have := unhide HDL; have := unhide HZ; have := unhide HLT; omega) (by decide) (unhide LL).fr.size ?_); intro A9 c9 X9 L9; replace LL := hide L9; clear L9; simp only [Act.put, List.setIfInBounds_toArray, List.set_cons_succ, List.set_cons_zero])))
      have LN : Hid (Sy w X9 [] (core w (.slice A9 (ds ++ [(⟨B7, 400, fresh s SA sc⟩ : DB)]).length c9) (ds ++ [(⟨B7, 400, fresh s SA sc⟩ : DB)]))) := hide (by rw [core_snoc, List.length_append]; exact (unhide LL).tail.tail)
      clear LL
      go_roundg (l.length - (i + 1))
      case measure => have := unhide HLT; omega
      case rel =>
        refine ⟨i + 1, A9, c9, ds ++ [⟨B7, 400, fresh s SA sc⟩], by go_num, by have := unhide HLT; omega, by omega, by simp, hide (by have := unhide HDL; simp; omega), hide ⟨?_, ?_⟩, LN⟩
        · obtain ⟨hi2, he2⟩ := List.getElem?_eq_some_iff.1 (unhide HS)
          rw [List.take_succ_eq_append_getElem hi2, ← (unhide HAB).1, he2]
          simp [absL, fresh_abs]
        · intro p hp
          rcases List.mem_append.1 hp with hp | hp
          · exact (unhide HAB).2 p hp
          · rw [List.mem_singleton.1 hp]
    · obtain rfl : i = l.length := by omega
      clear hlt hil
      go_wp2_with (first | go_skip | ((with_reducible show wpList _ _ _ _ _ _); first | ((refine rd (by rfl) (ex_lenG 22 34 Tryz.underlying22 rfl rfl) ?_); simp only [Act.put, List.setIfInBounds_toArray, List.set_cons_succ, List.set_cons_zero]) | ((refine mkS w.heap.size l.length (by rfl) rfl rfl rfl Tryz.underlying72 infXp (unhide HZ) (by decide) (by decide) (unhide LL) (unhide LL).fr.size ?_); intro X1 B1 hE1 L1 hb1; replace LL := hide L1; clear L1 hb1 hE1; simp only [Act.put, List.setIfInBounds_toArray, List.set_cons_succ, List.set_cons_zero]) | ((refine rd (by rfl) (ex_indexA 22 8 i unSs idSs rfl rfl (unhide HA) rfl (unhide HLT)) ?_); simp only [Act.put, List.setIfInBounds_toArray, List.set_cons_succ, List.set_cons_zero]) | ((refine rd (by rfl) (ex_loadR (vs := s.cs SA sc) 34 8 rwS szS rfl rfl (unhide HA2 _ (unhide LL).fr) rfl) ?_); simp only [Act.put, List.setIfInBounds_toArray, List.set_cons_succ, List.set_cons_zero]) | ((refine alP (v := .agg (zeroS.cs none 0).toArray) 34 (zeroS.cs none 0) (by rfl) rfl (fun w => by kernel_rfl) rfl (Nat.succ_pos _) (unhide LL) ?_); intro X5 B5 hE5 L5 hb5; replace LL := hide L5; clear L5 hb5 hE5; simp only [Act.put, List.setIfInBounds_toArray, List.set_cons_succ, List.set_cons_zero]) | ((refine stS (vs := s.cs SA sc) 0 34 (by rfl) rfl rfl rfl rfl (shcs_one s SA sc) szS (unhide LL) rfl (by simp [cput, SH.cs, VV.cs, zeroS, zeroV]) ?_); intro X6 L6 hf6 hs6; replace LL := hide L6; clear L6 hf6 hs6; simp only [Act.put, List.setIfInBounds_toArray, List.set_cons_succ, List.set_cons_zero]) | ((refine rd (by rfl) (ex_loadN (vs := s.cs SA sc) 34 8 rwS szS rfl rfl ((unhide LL).hold 0 rfl) rfl rfl) ?_); simp only [Act.put, List.setIfInBounds_toArray, List.set_cons_succ, List.set_cons_zero]) | ((refine rd (by rfl) (ex_bDr s SA sc rfl rfl) ?_); simp only [Act.put, List.setIfInBounds_toArray, List.set_cons_succ, List.set_cons_zero]) | ((refine bxD (wb := w) s SA sc (by rfl) rfl rfl (unhide LL) (unhide LL).fr.size (unhide HPS) (unhide HGS) ?_); intro X7 B7 hE7 L7; replace LL := hide L7; clear L7 hE7; simp only [Act.put, List.setIfInBounds_toArray, List.set_cons_succ, List.set_cons_zero]) | ((refine bsP (cs := [ptr ⟨B7, 400, fresh s SA sc⟩]) (by rfl) rfl rfl Tryz.underlying72 infXp (by decide) rfl rfl (by decide) (unhide LL) ?_); intro X8 B8 hE8 L8 hb8; replace LL := hide L8; clear L8 hb8 hE8; simp only [Act.put, List.setIfInBounds_toArray, List.set_cons_succ, List.set_cons_zero]) | ((refine apS (size := 1) (bytes := 8) (base := w.heap.size) (k := ds.length) (xs := ds.map ptr) (news := [ptr ⟨B7, 400, fresh s SA sc⟩]) (v := .slice A ds.length c) 2 0 rfl rfl rfl rfl Tryz.underlying72 infXp rfl (by decide) (unhide LL) rfl rfl rfl (ptr_one _) (by have := unhide HDL; have := unhide HZ; have := unhide HLT; omega) (by decide) (unhide LL).fr.size ?_); intro A9 c9 X9 L9; replace LL := hide L9; clear L9; simp only [Act.put, List.setIfInBounds_toArray, List.set_cons_succ, List.set_cons_zero])))
      go_ret
      exact ⟨_, ds, rfl, unhide LL, by rw [(unhide HAB).1, List.take_length], (unhide HAB).2⟩
end Go.Proofs.YtcflglloopgieaaGreatDoor
