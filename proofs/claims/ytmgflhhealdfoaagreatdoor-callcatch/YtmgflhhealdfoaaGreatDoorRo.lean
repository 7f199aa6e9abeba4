import Derived.Test.YtmgflhhealdfoaaGreatDoorRn
set_option linter.all false
namespace Go.Proofs.YtmgflhhealdfoaaGreatDoor
set_option maxHeartbeats 1000000
section
open Go Go.Proofs Go.Maps Go.RowKit FM
attribute [local go_sem] mm_GetOwnProperty mm_DefineOwnProperty mm_Get ta_caller ta_builder
/-- One heap and one frame become another one. -/
structure FT (h h1 : HP) (B : Nat) (cs1 : List Value) (w w' : World) : Prop where
  is : h1.Is w'
  bx : Holds w' B cs1
  out : B ∉ h1.blocks
  fr : Fr w w' (B :: h.blocks)
  sub : ∀ b ∈ h1.blocks, b ∈ h.blocks ∨ w.heap.size ≤ b
  hb : h1.b = h.b
theorem fs_start {h : HP} {B : Nat} {cs : List Value} {w : World} (H : h.Is w) (hB : Holds w B cs) (hlt : B < w.heap.size) (hc : 0 < cs.length) (hout : B ∉ h.blocks) : Sy w w (B :: h.blocks) [hpO h, boxO B cs] :=
  ⟨Fr.refl _ _, fun o ho => by
    rcases List.mem_cons.1 ho with rfl | ho
    · exact hpO_ok h
    · rw [List.mem_singleton.1 ho]; exact boxO_ok _ _, fun o ho => by
    rcases List.mem_cons.1 ho with rfl | ho
    · exact H
    · rw [List.mem_singleton.1 ho]; exact ⟨hB, hc⟩, fun o ho b hb => by
    rcases List.mem_cons.1 ho with rfl | ho
    · exact .inl (List.mem_cons_of_mem _ hb)
    · rw [List.mem_singleton.1 ho] at hb; rw [List.mem_singleton.1 hb]; exact .inl (List.mem_cons_self ..), by
    simp [hpO, boxO]
    intro x hx he
    exact hout (he ▸ hx)⟩
theorem FT.end {h h1 : HP} {B : Nat} {cs1 : List Value} {w Y : World} {L : List Ob} (S : Sy w Y (B :: h.blocks) (hpO h1 :: boxO B cs1 :: L)) (H : h.Is w) (hlt : B < w.heap.size) (hb : h1.b = h.b) : FT h h1 B cs1 w Y := by
  have hd : B ∉ h1.blocks := fun hm => S.apart (i := 0) (j := 1) rfl rfl (by decide) B hm (List.mem_singleton.2 rfl)
  refine ⟨S.hp 0 rfl, S.hold 1 rfl, hd, S.fr, fun b hb2 => ?_, hb⟩
  rcases S.lo _ (List.mem_cons_self ..) b hb2 with h1 | h1
  · rcases List.mem_cons.1 h1 with rfl | h1
    · exact absurd hb2 hd
    · exact .inl h1
  · exact .inr h1
theorem Sy.ft {w X Y : World} {E : List Nat} {L : List Ob} {h1 h2 : HP} {B : Nat} {c1 c2 : List Value} (S : Sy w X E (hpO h1 :: boxO B c1 :: L)) (T : FT h1 h2 B c2 X Y) (hc : 0 < c2.length) : Sy w Y E (hpO h2 :: boxO B c2 :: L) := by
  have d := S.dis
  rw [List.pairwise_cons, List.pairwise_cons] at d
  have hlo : ∀ b ∈ B :: h1.blocks, b ∈ E ∨ w.heap.size ≤ b := fun b hb => by
    rcases List.mem_cons.1 hb with rfl | hb
    · exact S.lo _ (List.mem_cons_of_mem _ (List.mem_cons_self ..)) _ (List.mem_singleton.2 rfl)
    · exact S.lo _ (List.mem_cons_self ..) b hb
  have hlt : ∀ o ∈ L, ∀ b ∈ o.bs, b < X.heap.size := fun o ho => (S.ok o (List.mem_cons_of_mem _ (List.mem_cons_of_mem _ ho))).lt (S.ho o (List.mem_cons_of_mem _ (List.mem_cons_of_mem _ ho)))
  refine ⟨S.fr.trans T.fr hlo, fun o ho => ?_, fun o ho => ?_, fun o ho b hb => ?_, ?_⟩
  · rcases List.mem_cons.1 ho with rfl | ho
    · exact hpO_ok h2
    rcases List.mem_cons.1 ho with rfl | ho
    · exact boxO_ok _ _
    · exact S.ok o (List.mem_cons_of_mem _ (List.mem_cons_of_mem _ ho))
  · rcases List.mem_cons.1 ho with rfl | ho
    · exact T.is
    rcases List.mem_cons.1 ho with rfl | ho
    · exact ⟨T.bx, hc⟩
    · refine (S.ok o (List.mem_cons_of_mem _ (List.mem_cons_of_mem _ ho))).on (fun b hb => T.fr.block b (hlt o ho b hb) (fun hm => ?_)) (S.ho o (List.mem_cons_of_mem _ (List.mem_cons_of_mem _ ho)))
      rcases List.mem_cons.1 hm with he | hm
      · exact d.2.1 o ho b (List.mem_singleton.2 he) hb
      · exact d.1 o (List.mem_cons_of_mem _ ho) b hm hb
  · rcases List.mem_cons.1 ho with rfl | ho
    · exact (T.sub b hb).elim (fun h => hlo b (List.mem_cons_of_mem _ h)) (fun h => .inr (Nat.le_trans S.fr.size h))
    rcases List.mem_cons.1 ho with rfl | ho
    · exact hlo b (by rw [List.mem_singleton.1 hb]; exact List.mem_cons_self ..)
    · exact S.lo o (List.mem_cons_of_mem _ (List.mem_cons_of_mem _ ho)) b hb
  · rw [List.pairwise_cons, List.pairwise_cons]
    refine ⟨fun o ho x hx hxo => ?_, fun o ho x hx hxo => d.2.1 o ho x hx hxo, d.2.2⟩
    rcases List.mem_cons.1 ho with rfl | ho
    · exact T.out (List.mem_singleton.1 hxo ▸ hx)
    · rcases T.sub x hx with h | h
      · exact d.1 o (List.mem_cons_of_mem _ ho) x h hxo
      · have := hlt o ho x hxo
        omega
theorem thr_lo {h : HP} {B Bt : Nat} {cs c2 : List Value} {w Y : World} {L : List Ob} (S : Sy w Y (B :: h.blocks) (hpO h :: boxO B cs :: L)) (i : Nat) (hi : (hpO h :: boxO B cs :: L)[i]? = some (boxO Bt c2)) (h2 : 2 ≤ i) : w.heap.size ≤ Bt := by
  rcases S.lo _ (List.mem_of_getElem? hi) Bt (List.mem_singleton.2 rfl) with h1 | h1
  · rcases List.mem_cons.1 h1 with rfl | h1
    · exact absurd (List.mem_singleton.2 rfl) (S.apart (i := 1) (j := i) rfl hi (by omega) Bt (List.mem_singleton.2 rfl))
    · exact absurd (List.mem_singleton.2 rfl) (S.apart (i := 0) (j := i) rfl hi (by omega) Bt h1)
  · exact h1
theorem Sy.plusO {w Y : World} {E : List Nat} {L : List Ob} {x : Ob} (S : Sy w Y E L) (hx : x.Ok) (hp : x.P Y) (hlo : ∀ b ∈ x.bs, w.heap.size ≤ b) (hd : ∀ o ∈ L, ∀ b ∈ x.bs, b ∉ o.bs) : Sy w Y E (L ++ [x]) := by
  refine ⟨S.fr, fun o ho => ?_, fun o ho => ?_, fun o ho b hb => ?_, ?_⟩
  · rcases List.mem_append.1 ho with h1 | h1
    · exact S.ok o h1
    · rw [List.mem_singleton.1 h1]; exact hx
  · rcases List.mem_append.1 ho with h1 | h1
    · exact S.ho o h1
    · rw [List.mem_singleton.1 h1]; exact hp
  · rcases List.mem_append.1 ho with h1 | h1
    · exact S.lo o h1 b hb
    · rw [List.mem_singleton.1 h1] at hb
      exact .inr (hlo b hb)
  · rw [List.pairwise_append]
    refine ⟨S.dis, List.pairwise_singleton _ _, fun a ha b hb y hy hyb => ?_⟩
    rw [List.mem_singleton.1 hb] at hyb
    exact hd a ha y hyb hy
/-- What lies beside a heap when a call ends. -/
structure New (x : Ob) (h2 : HP) (n : Nat) (Y : World) : Prop where
  ok : x.Ok
  P : x.P Y
  lo : ∀ b ∈ x.bs, n ≤ b
  no : ∀ b ∈ x.bs, b ∉ h2.blocks
theorem Sy.endO {w X Y : World} {E : List Nat} {L : List Ob} {h h2 : HP} {x : Ob} (S : Sy w X E (hpO h :: L)) (T : h.To h2 X Y) (N : New x h2 X.heap.size Y) : Sy w Y E ((hpO h2 :: L) ++ [x]) := by
  refine (S.heap 0 rfl T : Sy w Y E (hpO h2 :: L)).plusO N.ok N.P (fun b hb => Nat.le_trans S.fr.size (N.lo b hb)) (fun o ho b hb hbo => ?_)
  rcases List.mem_cons.1 ho with rfl | ho
  · exact N.no b hb hbo
  · have := (S.ok o (List.mem_cons_of_mem _ ho)).lt (S.ho o (List.mem_cons_of_mem _ ho)) b hbo
    have := N.lo b hb
    omega
theorem Sy.ftO {w X Y : World} {E : List Nat} {L : List Ob} {h1 h2 : HP} {B : Nat} {c1 c2 : List Value} {x : Ob} (S : Sy w X E (hpO h1 :: boxO B c1 :: L)) (T : FT h1 h2 B c2 X Y) (hc : 0 < c2.length) (N : New x h2 X.heap.size Y) : Sy w Y E ((hpO h2 :: boxO B c2 :: L) ++ [x]) := by
  refine (S.ft T hc).plusO N.ok N.P (fun b hb => Nat.le_trans S.fr.size (N.lo b hb)) (fun o ho b hb hbo => ?_)
  rcases List.mem_cons.1 ho with rfl | ho
  · exact N.no b hb hbo
  · have h3 : b < X.heap.size := by
      rcases List.mem_cons.1 ho with rfl | ho
      · exact S.lt 1 rfl b hbo
      · exact (S.ok o (List.mem_cons_of_mem _ (List.mem_cons_of_mem _ ho))).lt (S.ho o (List.mem_cons_of_mem _ (List.mem_cons_of_mem _ ho))) b hbo
    have := N.lo b hb
    omega
theorem New.none (h2 : HP) (n : Nat) (Y : World) : New noO h2 n Y := ⟨noO_ok, trivial, fun b hb => (by cases hb), fun b hb => (by cases hb)⟩
theorem New.of {w Y : World} {E : List Nat} {L : List Ob} {h2 : HP} {x : Ob} (S : Sy w Y E (hpO h2 :: L)) (i : Nat) (hi : (hpO h2 :: L)[i]? = some x) (h1 : 1 ≤ i) (hE : ∀ b ∈ x.bs, b ∉ E) : New x h2 w.heap.size Y :=
  ⟨S.ok x (List.mem_of_getElem? hi), S.get i hi, fun b hb => (S.lo x (List.mem_of_getElem? hi) b hb).elim (fun h => absurd h (hE b hb)) id, fun b hb hm => S.apart (i := 0) (j := i) rfl hi (by omega) b hm hb⟩
theorem frC_pos (hb : Nat) (sf : Int) (th : VV) (ar : Value) (tg : VV) (rs : List VV) : 0 < (frC hb sf th ar tg rs).length := by rw [frC_len]; omega
set_option maxHeartbeats 2000000 in
set_option maxRecDepth 100000 in
theorem settle_ok (h : HP) (B : Nat) (sf : Int) (th : VV) (ar : Value) (tg : VV) (rs : List VV) (c a b d : Int) (k : KK) (v : VV) (e : DD) (x g : Bool) (i : Nat) (w : World) (H : h.Is w) (hF : Holds w B (frC h.b sf th ar tg rs)) (hlt : B < w.heap.size) (hout : B ∉ h.blocks) (hi16 : i < 16) (hl16 : rs.length = 16) (V : VV) (Q : HP → Prop) (hC : ∀ X, h.Is X → Holds X B (frC h.b sf th ar tg rs) → Fr w X (B :: h.blocks) → Calls Tryz.prog 173 #[.pointer (some ⟨B, 0, none⟩), OP.agg ⟨c, (i : Nat), a, b, d, k, v, e, x, g⟩] X fun e w' => e = .returned (.tuple #[V.agg, .nilIface]) ∧ ∃ h1, Q h1 ∧ h.To h1 X w') : Calls Tryz.prog 170 #[.pointer (some ⟨B, 0, none⟩), OP.agg ⟨c, (i : Nat), a, b, d, k, v, e, x, g⟩] w fun e w' => e = .returned .nilIface ∧ ∃ h1, Q h1 ∧ FT h h1 B (frC h.b sf th ar tg (rs.set i V)) w w' := by
  have SS := hide (fs_start H hF hlt (frC_pos ..) hout)
  have HC := hide hC
  simp only [pagg, vagg] at *
  have HI := hide hi16
  have HL := hide hl16
  clear hC hF hi16 hl16
  go_enter Tryz.func170, Tryz.ntmps170
  go_wp2_with (first | go_skip | ((with_reducible show wpList _ _ _ _ _ _); first | (refine zB 40 (OP.cs ⟨c, (i : Nat), a, b, d, k, v, e, x, g⟩) (by rfl) rfl rfl rfl SS ?_; clear SS; intro X1 B1 SS; simp only [Act.put, n1, n2, n3]) | (refine zL (OP.cs ⟨c, (i : Nat), a, b, d, k, v, e, x, g⟩) 40 32 2 rwP_ szP_ (by rfl) rfl rfl SS rfl rfl rfl ?_; simp only [Act.put, n1, n2, n3])))
  refine (unhide HC _ ((unhide SS).hp 0 rfl) ((unhide SS).hold 1 rfl) (unhide SS).fr).mono ?_
  rintro _ Y1 ⟨rfl, h1, hQ, T1⟩
  have hb1 : h1.b = h.b := T1.hb
  replace SS := hide ((unhide SS).heap 0 rfl T1)
  clear T1
  go_wp2_with (first | go_skip | ((with_reducible show wpList _ _ _ _ _ _); first | (refine zA 24 (zeroV.cs) (by rfl) rfl SS ?_; clear SS; intro Xv Bv SS; simp only [Act.put, n1, n2, n3]) | (refine zS (V.cs) 3 24 (by rfl) rfl rfl rfl rfl (oneV _) szV SS rfl ?_; clear SS; intro Xw SS; simp only [Act.put, n1, n2, n3])))
  have hS : Sy w _ (B :: h.blocks) [hpO h1, boxO B (frC h.b sf th ar tg rs), boxO B1 (OP.cs ⟨c, (i : Nat), a, b, d, k, v, e, x, g⟩), boxO Bv V.cs] := (unhide SS).drew
  clear SS
  refine wp_region_held_drew (P := Tryz.prog) (S := fun _ => True) (by kernel_rfl) (trivial) (fun hS0 => ?_)
  refine gp 0 (some 27) (.pointer (some ⟨B, 0, none⟩)) rfl rfl (trivial) ?_
  simp only [Act.put, n1, n2, n3]
  refine gp 1 (some 28) (.pointer (some ⟨B1, 1, none⟩)) rfl rfl (trivial) ?_
  simp only [Act.put, n1, n2, n3]
  refine gp 4 (some 31) (.pointer (some ⟨B, 0, none⟩)) rfl rfl (trivial) ?_
  simp only [Act.put, n1, n2, n3]
  refine gp 5 (some 32) (.pointer (some ⟨B, 13, none⟩)) rfl rfl (trivial) ?_
  simp only [Act.put, n1, n2, n3]
  refine gr (rs := [2, 3]) (gv 2 (some 29) rfl rfl (ex_load1 3 Tryz.isAgg3 rfl rfl (hS.hold 2 rfl) rfl) (trivial) ?_ (gv 3 (some 30) rfl rfl (ex_loadN (vs := V.cs) 24 5 rwV szV rfl rfl (hS.hold 3 rfl) rfl rfl) (trivial) ?_ gn))
  · simp only [Act.put, n1, n2, n3]
    refine gr (rs := [3]) (gv 3 (some 30) rfl rfl (ex_loadN (vs := V.cs) 24 5 rwV szV rfl rfl (hS.hold 3 rfl) rfl rfl) (trivial) ?_ gn)
    refine gq 6 (some 33) (.pointer (some ⟨B, 13 + i * 5, none⟩)) rfl rfl (fun X hX => ex_ixR i rfl rfl rfl (unhide HI)) (trivial) ?_
    simp only [Act.put, n1, n2, n3]
    refine gr (rs := [7]) (gstS (vs := V.cs) (new := (frC h.b sf th ar tg (rs.set i V))) 7 1 24 rfl rfl (by kernel_rfl) rfl rfl rfl rfl (oneV _) szV hS rfl (by rw [frC_len]; show 13 + i * 5 + 5 ≤ 13 + rs.length * 5; have := unhide HL; have := unhide HI; omega) (fr_put (by have := unhide HL; have := unhide HI; omega)) (fun _ _ => trivial) ?_ gn)
    intro Yt3 hqt3
    refine wpAnyH_done (by kernel_rfl) ?_ _
    try simp only [Act.put, n1, n2, n3]
    have SS := hide hqt3
    go_wp2
    go_ret
    exact ⟨rfl, h1, hQ, FT.end (unhide SS) H hlt hb1⟩
  · simp only [Act.put, n1, n2, n3]
    refine gr (rs := [2]) (gv 2 (some 29) rfl rfl (ex_load1 3 Tryz.isAgg3 rfl rfl (hS.hold 2 rfl) rfl) (trivial) ?_ gn)
    refine gq 6 (some 33) (.pointer (some ⟨B, 13 + i * 5, none⟩)) rfl rfl (fun X hX => ex_ixR i rfl rfl rfl (unhide HI)) (trivial) ?_
    simp only [Act.put, n1, n2, n3]
    refine gr (rs := [7]) (gstS (vs := V.cs) (new := (frC h.b sf th ar tg (rs.set i V))) 7 1 24 rfl rfl (by kernel_rfl) rfl rfl rfl rfl (oneV _) szV hS rfl (by rw [frC_len]; show 13 + i * 5 + 5 ≤ 13 + rs.length * 5; have := unhide HL; have := unhide HI; omega) (fr_put (by have := unhide HL; have := unhide HI; omega)) (fun _ _ => trivial) ?_ gn)
    intro Yt6 hqt6
    refine wpAnyH_done (by kernel_rfl) ?_ _
    try simp only [Act.put, n1, n2, n3]
    have SS := hide hqt6
    go_wp2
    go_ret
    exact ⟨rfl, h1, hQ, FT.end (unhide SS) H hlt hb1⟩
theorem ex_thrN {o : Oper} {a : Act} {w : World} {x : Operand} {B : Nat} (ho : o.op = .binOp .neq 33 x (.const .nilIface) 33) (hx : a.eval x = thrV B) : (execOp a.eval o).run Tryz.prog w = .ok (.value (.bool true)) w := by
  have e : (binOp .neq 33 (thrV B) .nilIface).run Tryz.prog w = .ok (.bool true) w := by kernel_rfl
  unfold execOp
  simp only [ho, hx, show a.eval (.const .nilIface) = .nilIface from rfl]
  unfold thrV at e
  simp [e, eqGuard, thrV, Result.andThen]
theorem Sy.addB {w X Y : World} {E : List Nat} {L : List Ob} {B : Nat} {cs : List Value} (S : Sy w X E L) (h : Holds Y B cs) (hB : X.heap.size ≤ B) (hc : 0 < cs.length) (k : Below X.heap.size X Y) : Sy w Y E (L ++ [boxO B cs]) := S.add (boxO_ok _ _) ⟨h, hc⟩ k (fun b hb => by rw [List.mem_singleton.1 hb]; exact hB)
set_option maxHeartbeats 2000000 in
set_option maxRecDepth 100000 in
theorem settle_thr (h : HP) (B : Nat) (sf : Int) (th : VV) (ar : Value) (tg : VV) (rs : List VV) (c a b d : Int) (k : KK) (v : VV) (e : DD) (x : Bool) (i : Nat) (w : World) (H : h.Is w) (hF : Holds w B (frC h.b sf th ar tg rs)) (hlt : B < w.heap.size) (hout : B ∉ h.blocks) (hi16 : i < 16) (hl16 : rs.length = 16) (V : VV) (hC : ∀ X, h.Is X → Holds X B (frC h.b sf th ar tg rs) → Fr w X (B :: h.blocks) → Calls Tryz.prog 173 #[.pointer (some ⟨B, 0, none⟩), OP.agg ⟨c, (i : Nat), a, b, d, k, v, e, x, false⟩] X fun e w' => ∃ Bt, e = .returned (.tuple #[zeroV.agg, thrV Bt]) ∧ Holds w' Bt (tcs 1 V) ∧ X.heap.size ≤ Bt ∧ Below X.heap.size X w') : Calls Tryz.prog 170 #[.pointer (some ⟨B, 0, none⟩), OP.agg ⟨c, (i : Nat), a, b, d, k, v, e, x, false⟩] w fun e w' => ∃ Bt, e = .returned (thrV Bt) ∧ Holds w' Bt (tcs 1 V) ∧ w.heap.size ≤ Bt ∧ FT h h B (frC h.b sf th ar tg rs) w w' := by
  have SS := hide (fs_start H hF hlt (frC_pos ..) hout)
  have HC := hide hC
  simp only [pagg, vagg] at *
  have HI := hide hi16
  have HL := hide hl16
  clear hC hF hi16 hl16
  go_enter Tryz.func170, Tryz.ntmps170
  go_wp2_with (first | go_skip | ((with_reducible show wpList _ _ _ _ _ _); first | (refine zB 40 (OP.cs ⟨c, (i : Nat), a, b, d, k, v, e, x, false⟩) (by rfl) rfl rfl rfl SS ?_; clear SS; intro X1 B1 SS; simp only [Act.put, n1, n2, n3]) | (refine zL (OP.cs ⟨c, (i : Nat), a, b, d, k, v, e, x, false⟩) 40 32 2 rwP_ szP_ (by rfl) rfl rfl SS rfl rfl rfl ?_; simp only [Act.put, n1, n2, n3])))
  refine (unhide HC _ ((unhide SS).hp 0 rfl) ((unhide SS).hold 1 rfl) (unhide SS).fr).mono ?_
  rintro _ Y1 ⟨Bt, rfl, hT1, hlo1, hb1⟩
  replace SS := hide ((unhide SS).addB hT1 hlo1 (Nat.succ_pos _) hb1)
  clear hb1 hT1 hlo1
  go_wp2_with (first | go_skip | ((with_reducible show wpList _ _ _ _ _ _); first | (refine zA 24 (zeroV.cs) (by rfl) rfl SS ?_; clear SS; intro Xv Bv SS; simp only [Act.put, n1, n2, n3]) | (refine zS (zeroV.cs) 4 24 (by rfl) rfl rfl rfl rfl (oneV _) szV SS rfl ?_; clear SS; intro Xw SS; simp only [Act.put, n1, n2, n3]) | (refine rd (by rfl) (ex_thrN rfl rfl) ?_; simp only [Act.put, n1, n2, n3]) | (refine z1 4 Tryz.isAgg4 2 (by rfl) rfl rfl SS rfl rfl ?_; simp only [Act.put, n1, n2, n3])))
  go_ret
  exact ⟨Bt, rfl, (unhide SS).hold 3 rfl, thr_lo (unhide SS) 3 rfl (by decide), FT.end (unhide SS) H hlt rfl⟩
set_option maxHeartbeats 2000000 in
set_option maxRecDepth 100000 in
theorem settle_cau (h : HP) (B : Nat) (sf : Int) (th : VV) (ar : Value) (tg : VV) (rs : List VV) (c a b d : Int) (k : KK) (v : VV) (e : DD) (x : Bool) (i : Nat) (w : World) (H : h.Is w) (hF : Holds w B (frC h.b sf th ar tg rs)) (hlt : B < w.heap.size) (hout : B ∉ h.blocks) (hi16 : i < 16) (hl16 : rs.length = 16) (V : VV) (hC : ∀ X, h.Is X → Holds X B (frC h.b sf th ar tg rs) → Fr w X (B :: h.blocks) → Calls Tryz.prog 173 #[.pointer (some ⟨B, 0, none⟩), OP.agg ⟨c, (i : Nat), a, b, d, k, v, e, x, true⟩] X fun e w' => ∃ Bt, e = .returned (.tuple #[zeroV.agg, thrV Bt]) ∧ Holds w' Bt (tcs 1 V) ∧ X.heap.size ≤ Bt ∧ Below X.heap.size X w') (hg : V.good = true) (hT : Tabs w) (hE : ∀ b ∈ B :: h.blocks, 6 ≤ b) : Calls Tryz.prog 170 #[.pointer (some ⟨B, 0, none⟩), OP.agg ⟨c, (i : Nat), a, b, d, k, v, e, x, true⟩] w fun e w' => e = .returned .nilIface ∧ FT h h B (frC h.b sf th ar tg (rs.set i V)) w w' := by
  have hE6 : ∀ b ∈ B :: h.blocks, 6 ≤ b := hE
  have SS := hide (fs_start H hF hlt (frC_pos ..) hout)
  have HC := hide hC
  simp only [pagg, vagg] at *
  have HI := hide hi16
  have HL := hide hl16
  clear hC hF hi16 hl16
  go_enter Tryz.func170, Tryz.ntmps170
  go_wp2_with (first | go_skip | ((with_reducible show wpList _ _ _ _ _ _); first | (refine zB 40 (OP.cs ⟨c, (i : Nat), a, b, d, k, v, e, x, true⟩) (by rfl) rfl rfl rfl SS ?_; clear SS; intro X1 B1 SS; simp only [Act.put, n1, n2, n3]) | (refine zL (OP.cs ⟨c, (i : Nat), a, b, d, k, v, e, x, true⟩) 40 32 2 rwP_ szP_ (by rfl) rfl rfl SS rfl rfl rfl ?_; simp only [Act.put, n1, n2, n3])))
  refine (unhide HC _ ((unhide SS).hp 0 rfl) ((unhide SS).hold 1 rfl) (unhide SS).fr).mono ?_
  rintro _ Y1 ⟨Bt, rfl, hT1, hlo1, hb1⟩
  replace SS := hide ((unhide SS).addB hT1 hlo1 (Nat.succ_pos _) hb1)
  clear hb1 hT1 hlo1
  go_wp2_with (first | go_skip | ((with_reducible show wpList _ _ _ _ _ _); first | (refine zA 24 (zeroV.cs) (by rfl) rfl SS ?_; clear SS; intro Xv Bv SS; simp only [Act.put, n1, n2, n3]) | (refine zS (zeroV.cs) 4 24 (by rfl) rfl rfl rfl rfl (oneV _) szV SS rfl ?_; clear SS; intro Xw SS; simp only [Act.put, n1, n2, n3]) | (refine rd (by rfl) (ex_thrN rfl rfl) ?_; simp only [Act.put, n1, n2, n3]) | (refine z1 4 Tryz.isAgg4 2 (by rfl) rfl rfl SS rfl rfl ?_; simp only [Act.put, n1, n2, n3])))
  refine (handled_t V hg Bt _ ((unhide SS).hold 3 rfl) (hT.fr (unhide SS).fr hE6).1).mono ?_
  rintro _ Y2 ⟨rfl, hb2⟩
  replace SS := hide ((unhide SS).on hb2)
  clear hb2
  simp only [vagg]
  go_wp2_with (first | go_skip | ((with_reducible show wpList _ _ _ _ _ _); first | (refine zS (V.cs) 4 24 (by rfl) rfl rfl rfl rfl (oneV _) szV SS rfl ?_; clear SS; intro Xu SS; simp only [Act.put, n1, n2, n3])))
  have hS : Sy w _ (B :: h.blocks) [hpO h, boxO B (frC h.b sf th ar tg rs), boxO B1 (OP.cs ⟨c, (i : Nat), a, b, d, k, v, e, x, true⟩), boxO Bt (tcs 1 V), boxO Bv V.cs] := (unhide SS).drew
  clear SS
  refine wp_region_held_drew (P := Tryz.prog) (S := fun _ => True) (by kernel_rfl) (trivial) (fun hS0 => ?_)
  refine gp 0 (some 27) (.pointer (some ⟨B, 0, none⟩)) rfl rfl (trivial) ?_
  simp only [Act.put, n1, n2, n3]
  refine gp 1 (some 28) (.pointer (some ⟨B1, 1, none⟩)) rfl rfl (trivial) ?_
  simp only [Act.put, n1, n2, n3]
  refine gp 4 (some 31) (.pointer (some ⟨B, 0, none⟩)) rfl rfl (trivial) ?_
  simp only [Act.put, n1, n2, n3]
  refine gp 5 (some 32) (.pointer (some ⟨B, 13, none⟩)) rfl rfl (trivial) ?_
  simp only [Act.put, n1, n2, n3]
  refine gr (rs := [2, 3]) (gv 2 (some 29) rfl rfl (ex_load1 3 Tryz.isAgg3 rfl rfl (hS.hold 2 rfl) rfl) (trivial) ?_ (gv 3 (some 30) rfl rfl (ex_loadN (vs := V.cs) 24 5 rwV szV rfl rfl (hS.hold 4 rfl) rfl rfl) (trivial) ?_ gn))
  · simp only [Act.put, n1, n2, n3]
    refine gr (rs := [3]) (gv 3 (some 30) rfl rfl (ex_loadN (vs := V.cs) 24 5 rwV szV rfl rfl (hS.hold 4 rfl) rfl rfl) (trivial) ?_ gn)
    refine gq 6 (some 33) (.pointer (some ⟨B, 13 + i * 5, none⟩)) rfl rfl (fun X hX => ex_ixR i rfl rfl rfl (unhide HI)) (trivial) ?_
    simp only [Act.put, n1, n2, n3]
    refine gr (rs := [7]) (gstS (vs := V.cs) (new := (frC h.b sf th ar tg (rs.set i V))) 7 1 24 rfl rfl (by kernel_rfl) rfl rfl rfl rfl (oneV _) szV hS rfl (by rw [frC_len]; show 13 + i * 5 + 5 ≤ 13 + rs.length * 5; have := unhide HL; have := unhide HI; omega) (fr_put (by have := unhide HL; have := unhide HI; omega)) (fun _ _ => trivial) ?_ gn)
    intro Yt3 hqt3
    refine wpAnyH_done (by kernel_rfl) ?_ _
    try simp only [Act.put, n1, n2, n3]
    have SS := hide hqt3
    go_wp2
    go_ret
    exact ⟨rfl, FT.end (unhide SS) H hlt rfl⟩
  · simp only [Act.put, n1, n2, n3]
    refine gr (rs := [2]) (gv 2 (some 29) rfl rfl (ex_load1 3 Tryz.isAgg3 rfl rfl (hS.hold 2 rfl) rfl) (trivial) ?_ gn)
    refine gq 6 (some 33) (.pointer (some ⟨B, 13 + i * 5, none⟩)) rfl rfl (fun X hX => ex_ixR i rfl rfl rfl (unhide HI)) (trivial) ?_
    simp only [Act.put, n1, n2, n3]
    refine gr (rs := [7]) (gstS (vs := V.cs) (new := (frC h.b sf th ar tg (rs.set i V))) 7 1 24 rfl rfl (by kernel_rfl) rfl rfl rfl rfl (oneV _) szV hS rfl (by rw [frC_len]; show 13 + i * 5 + 5 ≤ 13 + rs.length * 5; have := unhide HL; have := unhide HI; omega) (fr_put (by have := unhide HL; have := unhide HI; omega)) (fun _ _ => trivial) ?_ gn)
    intro Yt6 hqt6
    refine wpAnyH_done (by kernel_rfl) ?_ _
    try simp only [Act.put, n1, n2, n3]
    have SS := hide hqt6
    go_wp2
    go_ret
    exact ⟨rfl, FT.end (unhide SS) H hlt rfl⟩
set_option maxRecDepth 100000 in
theorem refuel_h (h : HP) (n : Int) (w : World) (H : h.Is w) (hn : 0 ≤ n) : Calls Tryz.prog 171 #[.pointer (some ⟨h.b, 0, none⟩), .int .i64 n] w fun e w' => e = .returned (.int .i64 0) ∧ h.To { h with fuel := n } w w' := by
  have d1 : decide (n < 0) = false := decide_eq_false (by omega)
  have SS := hide H.start
  go_enter Tryz.func171, Tryz.ntmps171
  go_wp2_with (first | go_skip | ((with_reducible show wpList _ _ _ _ _ _); first | ((refine stH (vs := [.int .i64 n]) ({ h with fuel := n }) 0 3 (by rfl) rfl rfl rfl rfl (by simp [Value.oneCell']) sz_i (unhide SS) rfl (by simp) rfl rfl rfl (by simp [cput, hcs]) ?_); intro X1 S1; replace SS := hide S1; clear S1; simp only [Act.put, n1, n2, n3])))
  go_ret
  exact ⟨rfl, HP.To.end H (unhide SS) rfl⟩
set_option maxRecDepth 100000 in
theorem spend_h (h : HP) (w : World) (H : h.Is w) (K : h.Ok) (hf : h.fuel ≠ 0) : Calls Tryz.prog 168 #[.pointer (some ⟨h.b, 0, none⟩)] w fun e w' => e = .returned (.int .i64 0) ∧ h.To h.less w w' := by
  have HF := hide (And.intro K.f0 K.f1)
  have hw : IntKind.i64.wrap (h.fuel - 1) = h.fuel - 1 := by have := K.f0; have := K.f1; rw [IntKind.wrap_i64]; omega
  have HR := hide (refuel_h h (h.fuel - 1) w H (by have := K.f0; omega))
  have HU := hide (fuel_h h w H)
  clear K H
  go_enter Tryz.func168, Tryz.ntmps168
  go_wp2_with fail
  refine (unhide HU).mono ?_
  rintro _ _ ⟨rfl, rfl⟩
  go_wp2_with (first | go_skip | ((with_reducible show wpList _ _ _ _ _ _); first | (refine rd (by rfl) (ex_eqNo rfl rfl rfl hf) ?_; simp only [Act.put, n1, n2, n3])))
  refine (unhide HU).mono ?_
  rintro _ _ ⟨rfl, rfl⟩
  go_wp2_with (first | go_skip | ((with_reducible show wpList _ _ _ _ _ _); first | (refine rd (by rfl) (ex_subF h rfl rfl rfl (unhide HF)) ?_; simp only [Act.put, n1, n2, n3])))
  refine (unhide HR).mono ?_
  rintro _ Y ⟨rfl, T⟩
  have HT := hide T
  clear T
  go_wp2
  go_ret
  exact ⟨rfl, unhide HT⟩
/-- A heap whose own thing is a body. -/
def HP.body (h : HP) (g c : Nat) (l : List OP) : Prop := ∃ base, h.e = rowO base 40 32 (.slice (some ⟨g, 0, none⟩) l.length c) l.length (l.flatMap OP.cs)
theorem body_rng {h : HP} {g c : Nat} {l : List OP} {X : World} (hb : h.body g c l) (H : h.Is X) {j : Nat} {o : OP} (hj : l[j]? = some o) : X.rangeAt g (0 + j * 32) o.cs := by
  obtain ⟨base, he⟩ := hb
  have ho : X.ownsRow base 40 32 (.slice (some ⟨g, 0, none⟩) l.length c) l.length (l.flatMap OP.cs) := by
    have := H.ho h.e (List.mem_cons_of_mem _ (List.mem_cons_of_mem _ (List.mem_cons_self ..)))
    rw [he] at this
    exact this
  obtain ⟨hlt, hv⟩ := List.getElem?_eq_some_iff.1 hj
  obtain ⟨g', c', e1, -, -, h4⟩ := own_row (f := OP.cs) (fun _ => rfl) ho rfl j hlt
  cases e1
  rw [hv] at h4
  exact h4
/-- How a body runs: states behind each operation, and ends. -/
structure Runs (h : HP) (B g c : Nat) (sf : Int) (th : VV) (ar : Value) (tg : VV) (l : List OP) (w : World) (St : Nat → HP → List VV → Prop) (Fin : HP → VV → Value → Ob → Prop) : Prop where
  st : ∀ j h1 rs, St j h1 rs → j < l.length ∧ h1.fuel ≠ 0 ∧ h1.Ok ∧ h1.body g c l ∧ h1.b = h.b
  step : ∀ j o h1 rs X, l[j]? = some o → o.c ≠ 7 → St j h1 rs → h1.less.Is X → Holds X B (frC h.b sf th ar tg rs) → B ∉ h1.blocks → Fr w X (B :: h.blocks) → Calls Tryz.prog 170 #[.pointer (some ⟨B, 0, none⟩), o.agg] X fun e w' => (∃ h2 rs2, e = .returned .nilIface ∧ St (j + 1) h2 rs2 ∧ FT h1.less h2 B (frC h.b sf th ar tg rs2) X w') ∨ (∃ (Bt : Nat) (tv : VV), e = .returned (thrV Bt) ∧ Fin h1.less zeroV (thrV Bt) (boxO Bt (tcs 1 tv)) ∧ Holds w' Bt (tcs 1 tv) ∧ X.heap.size ≤ Bt ∧ FT h1.less h1.less B (frC h.b sf th ar tg rs) X w')
  ret : ∀ j o h1 rs, l[j]? = some o → o.c = 7 → St j h1 rs → ∃ (i : Nat) (V : VV), o.a = (i : Int) ∧ i < 16 ∧ rs[i]? = some V ∧ Fin h1.less V .nilIface noO
  co : ∀ o ∈ l, o.c ≠ 9
  nl : l.length ≤ 256
/-- How a body ends. -/
def RunP (h : HP) (B : Nat) (sf : Int) (th : VV) (ar : Value) (tg : VV) (Fin : HP → VV → Value → Ob → Prop) (w : World) (e : Ending) (w' : World) : Prop := ∃ h2 V er x rs2, e = .returned (.tuple #[V.agg, er]) ∧ Fin h2 V er x ∧ New x h2 w.heap.size w' ∧ FT h h2 B (frC h.b sf th ar tg rs2) w w'
def RunI (h : HP) (B g c : Nat) (sf : Int) (th : VV) (ar : Value) (tg : VV) (w : World) (St : Nat → HP → List VV → Prop) (Bc j : Nat) (wr : World) : Prop := ∃ h1 rs, St j h1 rs ∧ Sy w wr (B :: h.blocks) [hpO h1, boxO B (frC h.b sf th ar tg rs), boxO Bc zeroV.cs]
set_option maxHeartbeats 2000000 in
set_option maxRecDepth 100000 in
theorem run_h (h : HP) (B g c : Nat) (sf : Int) (th : VV) (ar : Value) (tg : VV) (l : List OP) (rs0 : List VV) (St : Nat → HP → List VV → Prop) (Fin : HP → VV → Value → Ob → Prop) (w : World) (R : Runs h B g c sf th ar tg l w St Fin) (h0 : St 0 h rs0) (H : h.Is w) (hF : Holds w B (frC h.b sf th ar tg rs0)) (hlt : B < w.heap.size) (hout : B ∉ h.blocks) : Calls Tryz.prog 166 #[.pointer (some ⟨B, 0, none⟩), .slice (some ⟨g, 0, none⟩) l.length c] w (RunP h B sf th ar tg Fin w) := by
  have SS := hide (fs_start H hF hlt (frC_pos ..) hout)
  clear hF
  go_enter Tryz.func166, Tryz.ntmps166
  go_wp2_with (first | go_skip | ((with_reducible show wpList _ _ _ _ _ _); first | (refine zA 24 (zeroV.cs) (by rfl) rfl SS ?_; clear SS; intro Xc Bc SS; simp only [Act.put, n1, n2, n3])))
  go_loopg [6] l.length (fun gm s6 wr => ∃ j : Nat, s6 = .int .i64 (j : Nat) ∧ l.length - j ≤ gm ∧ RunI h B g c sf th ar tg w St Bc j wr)
  case atStart => exact ⟨0, rfl, by omega, h, rs0, h0, unhide SS⟩
  case round =>
    clear SS
    obtain ⟨j, rfl, hgm, h1, rs, hSt, SS⟩ := hrel
    replace SS := hide SS
    obtain ⟨hjl, hf1, K1, HB, hb1⟩ := R.st j h1 rs hSt
    have dlt : decide ((j : Int) < (l.length : Int)) = true := decide_eq_true (by omega)
    have hw1 : IntKind.i64.wrap ((j : Int) + 1) = (j : Int) + 1 := by have := R.nl; rw [IntKind.wrap_i64]; omega
    obtain ⟨o, hoj⟩ : ∃ o, l[j]? = some o := ⟨_, List.getElem?_eq_getElem hjl⟩
    have HLT := hide hjl
    have HR2 : Hid (∀ X, h1.less.Is X → X.rangeAt g (0 + j * 32) o.cs) := hide (fun X s => body_rng (h := h1.less) HB s hoj)
    clear HB
    go_wp2_with (first | go_skip | ((with_reducible show wpList _ _ _ _ _ _); first | (refine rd (by rfl) (ex_lenG 41 40 Tryz.underlying41 rfl rfl) ?_; simp only [Act.put, n1, n2, n3]) | (refine z1 28 Tryz.isAgg28 1 (by rfl) rfl rfl SS rfl rfl ?_; simp only [Act.put, n1, n2, n3])))
    have HSP := spend_h h1 _ ((unhide SS).hp 0 rfl) K1 hf1
    rw [hb1] at HSP
    refine HSP.mono ?_
    rintro _ Y1 ⟨rfl, T1⟩
    replace SS := hide ((unhide SS).heap 0 rfl T1)
    clear T1 HSP
    by_cases hc7 : o.c = 7
    · obtain ⟨i, V, ha, hi16, hi, hfin⟩ := R.ret j o h1 rs hoj hc7 hSt
      have HI := hide hi16
      replace hi := hide hi
      go_wp2_with (first | go_skip | ((with_reducible show wpList _ _ _ _ _ _); first | (refine rd (by rfl) (ex_lenG 41 40 Tryz.underlying41 rfl rfl) ?_; simp only [Act.put, n1, n2, n3]) | (refine rd (by rfl) (ex_indexG 41 32 j unPos idPos rfl rfl rfl (unhide HLT)) ?_; simp only [Act.put, n1, n2, n3]) | (refine rd (by rfl) (ex_loadR (vs := o.cs) 40 32 rwP_ szP_ rfl rfl (unhide HR2 _ ((unhide SS).hp 0 rfl)) rfl) ?_; simp only [Act.put, n1, n2, n3]) | (refine zA 40 (zerO.cs) (by rfl) rfl SS ?_; clear SS; intro X8 B8 SS; simp only [Act.put, n1, n2, n3]) | (refine zS (hp := (show 0 + 32 ≤ 32 by decide)) (o.cs) 3 40 (by rfl) rfl rfl rfl rfl (pcs_one _) szP_ SS rfl ?_; clear SS; intro X8 SS; simp only [Act.put, n1, n2, n3]) | (refine z1 3 Tryz.isAgg3 3 (by rfl) rfl rfl SS rfl rfl ?_; simp only [Act.put, n1, n2, n3]) | (refine zL (o.cs) 40 32 3 rwP_ szP_ (by rfl) rfl rfl SS rfl rfl rfl ?_; simp only [Act.put, n1, n2, n3]) | (refine rd (by rfl) (ex_eqYes rfl rfl rfl hc7) ?_; simp only [Act.put, n1, n2, n3])))
      have hS : Sy w _ (B :: h.blocks) [hpO h1.less, boxO B (frC h.b sf th ar tg rs), boxO Bc zeroV.cs, boxO B8 o.cs] := (unhide SS).drew
      clear SS
      refine wp_region_held_drew (P := Tryz.prog) (S := fun _ => True) (by kernel_rfl) (trivial) (fun hS0 => ?_)
      refine gp 0 (some 43) (.pointer (some ⟨B, 0, none⟩)) rfl rfl (trivial) ?_
      simp only [Act.put, n1, n2, n3]
      refine gp 1 (some 44) (.pointer (some ⟨B8, 2, none⟩)) rfl rfl (trivial) ?_
      simp only [Act.put, n1, n2, n3]
      refine gp 3 (some 46) (.pointer (some ⟨B, 0, none⟩)) rfl rfl (trivial) ?_
      simp only [Act.put, n1, n2, n3]
      refine gp 4 (some 47) (.pointer (some ⟨B, 13, none⟩)) rfl rfl (trivial) ?_
      simp only [Act.put, n1, n2, n3]
      refine gr (rs := [2]) (gv 2 (some 45) rfl rfl (ex_load1 3 Tryz.isAgg3 rfl rfl (hS.hold 3 rfl) (congrArg (fun z => some (Value.int .i64 z)) ha)) (trivial) ?_ gn)
      refine gq 5 (some 48) (.pointer (some ⟨B, 13 + i * 5, none⟩)) rfl rfl (fun X hX => ex_ixR i rfl rfl rfl (unhide HI)) (trivial) ?_
      simp only [Act.put, n1, n2, n3]
      refine gr (rs := [6]) (gv 6 (some 49) rfl rfl (ex_loadN (vs := V.cs) 24 5 rwV szV rfl rfl (hS.hold 1 rfl) (fr_at (unhide hi)) rfl) (trivial) ?_ gn)
      simp only [Act.put, n1, n2, n3]
      refine gr (rs := [7]) (gstS (vs := V.cs) (new := V.cs) 7 2 24 rfl rfl (by kernel_rfl) rfl rfl rfl rfl (oneV _) szV hS rfl (by simp [cput, VV.cs, KK.cs, DD.cs, OB.cs, hcs, zeroD, zeroV]) (by simp [cput, VV.cs, KK.cs, DD.cs, OB.cs, hcs, zeroD, zeroV]) (fun _ hZ => trivial) ?_ gn)
      intro Yt3 hqt3
      refine gp 8 (some 5) (.nilIface) rfl rfl (trivial) ?_
      simp only [Act.put, n1, n2, n3]
      refine wpAnyH_done (by kernel_rfl) ?_ _
      try simp only [Act.put, n1, n2, n3]
      have SS := hide hqt3
      go_wp2
      refine bodyPost_ret (res_ct rwV szV rfl rfl rfl ((unhide SS).hold 2 rfl) rfl) rfl ?_
      exact ⟨h1.less, V, .nilIface, noO, rs, rfl, hfin, New.none _ _ _, FT.end (unhide SS) H hlt hb1⟩
    · have hc9 : o.c ≠ 9 := R.co o (List.mem_of_getElem? hoj)
      have HST := hide (fun X a b c d => R.step j o h1 rs X hoj hc7 hSt a b c d)
      simp only [pagg] at HST
      go_wp2_with (first | go_skip | ((with_reducible show wpList _ _ _ _ _ _); first | (refine rd (by rfl) (ex_lenG 41 40 Tryz.underlying41 rfl rfl) ?_; simp only [Act.put, n1, n2, n3]) | (refine rd (by rfl) (ex_indexG 41 32 j unPos idPos rfl rfl rfl (unhide HLT)) ?_; simp only [Act.put, n1, n2, n3]) | (refine rd (by rfl) (ex_loadR (vs := o.cs) 40 32 rwP_ szP_ rfl rfl (unhide HR2 _ ((unhide SS).hp 0 rfl)) rfl) ?_; simp only [Act.put, n1, n2, n3]) | (refine zA 40 (zerO.cs) (by rfl) rfl SS ?_; clear SS; intro X8 B8 SS; simp only [Act.put, n1, n2, n3]) | (refine zS (hp := (show 0 + 32 ≤ 32 by decide)) (o.cs) 3 40 (by rfl) rfl rfl rfl rfl (pcs_one _) szP_ SS rfl ?_; clear SS; intro X8 SS; simp only [Act.put, n1, n2, n3]) | (refine z1 3 Tryz.isAgg3 3 (by rfl) rfl rfl SS rfl rfl ?_; simp only [Act.put, n1, n2, n3]) | (refine zL (o.cs) 40 32 3 rwP_ szP_ (by rfl) rfl rfl SS rfl rfl rfl ?_; simp only [Act.put, n1, n2, n3]) | (refine rd (by rfl) (ex_eqNo rfl rfl rfl hc7) ?_; simp only [Act.put, n1, n2, n3]) | (refine rd (by rfl) (ex_eqNo rfl rfl rfl hc9) ?_; simp only [Act.put, n1, n2, n3])))
      refine (unhide HST _ ((unhide SS).hp 0 rfl) ((unhide SS).hold 1 rfl) (fun hm => (unhide SS).apart (i := 0) (j := 1) rfl rfl (by decide) B hm (List.mem_singleton.2 rfl)) (unhide SS).fr).mono ?_
      rintro _ Y2 (⟨h2, rs2, rfl, hS2, T2⟩ | ⟨Bt, tv, rfl, hfin, hHt, hlo, T2⟩)
      · have hb2 : h2.b = h.b := T2.hb.trans hb1
        replace SS := hide (Sy.ft (unhide SS) T2 (frC_pos ..))
        clear T2 HST
        replace SS := hide (Sy.left (L := [hpO h2, boxO B (frC h.b sf th ar tg rs2), boxO Bc zeroV.cs]) (M := [_]) (unhide SS))
        go_wp2
        go_roundg (l.length - (j + 1))
        case measure => have := unhide HLT; omega
        case rel => exact ⟨j + 1, by go_num, by omega, h2, rs2, hS2, unhide SS⟩
      · have hBw : w.heap.size ≤ Bt := Nat.le_trans (unhide SS).fr.size hlo
        replace SS := hide (Sy.ftO (unhide SS) T2 (frC_pos ..) (x := boxO Bt (tcs 1 tv)) ⟨boxO_ok _ _, ⟨hHt, Nat.succ_pos _⟩, fun b hb => by rw [List.mem_singleton.1 hb]; exact hlo, fun b hb hm => by have := ((unhide SS).hp 0 rfl).lt b hm; have := List.mem_singleton.1 hb; omega⟩)
        clear T2 HST hHt hlo
        go_wp2_with (first | go_skip | ((with_reducible show wpList _ _ _ _ _ _); first | (refine rd (by rfl) (ex_thrN rfl rfl) ?_; simp only [Act.put, n1, n2, n3]) | (refine rd (by rfl) (ex_zeroV rfl) ?_; simp only [Act.put, n1, n2, n3]) | (refine zS (zeroV.cs) 2 24 (by rfl) rfl rfl rfl rfl (oneV _) szV SS rfl ?_; clear SS; intro Xz SS; simp only [Act.put, n1, n2, n3])))
        refine bodyPost_ret (res_ct rwV szV rfl rfl rfl ((unhide SS).hold 2 rfl) rfl) rfl ?_
        exact ⟨h1.less, zeroV, thrV Bt, boxO Bt (tcs 1 tv), rs, rfl, hfin, New.of (unhide SS) 4 rfl (by decide) (fun b hb hm => by
          rw [List.mem_singleton.1 hb] at hm
          rcases List.mem_cons.1 hm with rfl | hm
          · omega
          · have := H.lt _ hm
            omega), FT.end (unhide SS) H hlt hb1⟩
