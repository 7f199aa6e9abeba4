import Derived.Test.YtmfhjbmgbbkicaaDoorHa
namespace Go.Proofs.YtmfhjbmgbbkicaaDoor
open Go Go.Proofs Go.Maps Go.RowKit FM
set_option linter.unusedSimpArgs false
set_option linter.unusedVariables false
set_option maxHeartbeats 1000000
def roomE (h : HP) : Int := if h.cap ≤ (h.l.length : Int) then 3 else 0
theorem ex_geq {o : Oper} {a : Act} {w : World} {x y : Operand} {n m : Int} (b : Bool) (ho : o.op = .binOp .geq 3 x y 3) (hx : a.eval x = .int .i64 n) (hc : a.eval y = .int .i64 m) (h : decide (m ≤ n) = b) : (execOp a.eval o).run Tryd.prog w = .ok (.value (.bool b)) w := by
  subst h
  unfold execOp
  simp only [ho, hx, hc]
  simp [go_sem, eqGuard]
set_option maxRecDepth 100000 in
theorem room23 (h : HP) (n : Nat) (w : World) (H : h.Is w n) : Calls Tryd.prog 23 #[.pointer (some ⟨h.b, 0, none⟩)] w fun e w' => e = .returned (.int .i64 (roomE h)) ∧ Below w.heap.size w w' := by
  unfold roomE
  by_cases hr : h.cap ≤ (h.l.length : Int)
  · rw [if_pos hr]
    have hc : decide (h.cap ≤ (h.l.length : Int)) = true := decide_eq_true hr
    clear hr
    go_enter Tryd.func23, Tryd.ntmps23
    go_wp2_with fail
    refine wp_region_held_drew (P := Tryd.prog) (S := fun X => h.Is X n) (by kernel_rfl) H.drew (fun hS0 => ?_)
    refine gsem 0 (some 3) (.pointer (some ⟨h.b, 0, none⟩)) rfl (by kernel_rfl) (by kernel_rfl) (by kernel_rfl) (fun _ _ _ h => h) (by kernel_rfl) (by kernel_rfl) (fun _ _ => by kernel_rfl) hS0 ?_
    simp only [Act.put, List.setIfInBounds_toArray, List.set_cons_succ, List.set_cons_zero]
    refine gsem 2 (some 5) (.pointer (some ⟨h.b, 0, none⟩)) rfl (by kernel_rfl) (by kernel_rfl) (by kernel_rfl) (fun _ _ _ h => h) (by kernel_rfl) (by kernel_rfl) (fun _ _ => by kernel_rfl) hS0 ?_
    simp only [Act.put, List.setIfInBounds_toArray, List.set_cons_succ, List.set_cons_zero]
    refine gsem 3 (some 6) (.pointer (some ⟨h.b, 0, none⟩)) rfl (by kernel_rfl) (by kernel_rfl) (by kernel_rfl) (fun _ _ _ h => h) (by kernel_rfl) (by kernel_rfl) (fun _ _ => by kernel_rfl) hS0 ?_
    simp only [Act.put, List.setIfInBounds_toArray, List.set_cons_succ, List.set_cons_zero]
    refine gsem 4 (some 7) (.pointer (some ⟨h.b, 1, none⟩)) rfl (by kernel_rfl) (by kernel_rfl) (by kernel_rfl) (fun _ _ _ h => h) (by kernel_rfl) (by kernel_rfl) (fun _ _ => by kernel_rfl) hS0 ?_
    simp only [Act.put, List.setIfInBounds_toArray, List.set_cons_succ, List.set_cons_zero]
    refine gsem 5 (some 8) (.int .i64 h.cap) rfl (by kernel_rfl) (by kernel_rfl) (by kernel_rfl) (fun _ _ _ h => h) (by kernel_rfl) (by kernel_rfl) (fun X hX => ex_load1 3 Tryd.isAgg3 rfl rfl (HP.Is.blk hX) rfl) hS0 ?_
    simp only [Act.put, List.setIfInBounds_toArray, List.set_cons_succ, List.set_cons_zero]
    refine wpAnyH_ready (rs := [1]) (by kernel_rfl) (by simp) (gcallR 1 (some 4) rfl (by kernel_rfl) (by kernel_rfl) (by kernel_rfl) (len8 h n _ H.drew) ?_ AllReadyH.nil)
    rintro _ _ ⟨rfl, rfl⟩
    refine ⟨_, rfl, H.drew, ?_⟩
    simp only [Act.put, List.setIfInBounds_toArray, List.set_cons_succ, List.set_cons_zero]
    refine gsem 6 (some 9) (.bool true) rfl (by kernel_rfl) (by kernel_rfl) (by kernel_rfl) (fun _ _ _ h => h) (by kernel_rfl) (by kernel_rfl) (fun X hX => ex_geq true rfl rfl rfl hc) H.drew ?_
    simp only [Act.put, List.setIfInBounds_toArray, List.set_cons_succ, List.set_cons_zero]
    refine wpAnyH_done (by kernel_rfl) ?_ _
    try simp only [Act.put, List.setIfInBounds_toArray, List.set_cons_succ, List.set_cons_zero]
    clear H
    go_wp2
    go_ret
    exact ⟨rfl, (Fr.refl w []).drew.below⟩
  · rw [if_neg hr]
    have hc : decide (h.cap ≤ (h.l.length : Int)) = false := decide_eq_false hr
    clear hr
    go_enter Tryd.func23, Tryd.ntmps23
    go_wp2_with fail
    refine wp_region_held_drew (P := Tryd.prog) (S := fun X => h.Is X n) (by kernel_rfl) H.drew (fun hS0 => ?_)
    refine gsem 0 (some 3) (.pointer (some ⟨h.b, 0, none⟩)) rfl (by kernel_rfl) (by kernel_rfl) (by kernel_rfl) (fun _ _ _ h => h) (by kernel_rfl) (by kernel_rfl) (fun _ _ => by kernel_rfl) hS0 ?_
    simp only [Act.put, List.setIfInBounds_toArray, List.set_cons_succ, List.set_cons_zero]
    refine gsem 2 (some 5) (.pointer (some ⟨h.b, 0, none⟩)) rfl (by kernel_rfl) (by kernel_rfl) (by kernel_rfl) (fun _ _ _ h => h) (by kernel_rfl) (by kernel_rfl) (fun _ _ => by kernel_rfl) hS0 ?_
    simp only [Act.put, List.setIfInBounds_toArray, List.set_cons_succ, List.set_cons_zero]
    refine gsem 3 (some 6) (.pointer (some ⟨h.b, 0, none⟩)) rfl (by kernel_rfl) (by kernel_rfl) (by kernel_rfl) (fun _ _ _ h => h) (by kernel_rfl) (by kernel_rfl) (fun _ _ => by kernel_rfl) hS0 ?_
    simp only [Act.put, List.setIfInBounds_toArray, List.set_cons_succ, List.set_cons_zero]
    refine gsem 4 (some 7) (.pointer (some ⟨h.b, 1, none⟩)) rfl (by kernel_rfl) (by kernel_rfl) (by kernel_rfl) (fun _ _ _ h => h) (by kernel_rfl) (by kernel_rfl) (fun _ _ => by kernel_rfl) hS0 ?_
    simp only [Act.put, List.setIfInBounds_toArray, List.set_cons_succ, List.set_cons_zero]
    refine gsem 5 (some 8) (.int .i64 h.cap) rfl (by kernel_rfl) (by kernel_rfl) (by kernel_rfl) (fun _ _ _ h => h) (by kernel_rfl) (by kernel_rfl) (fun X hX => ex_load1 3 Tryd.isAgg3 rfl rfl (HP.Is.blk hX) rfl) hS0 ?_
    simp only [Act.put, List.setIfInBounds_toArray, List.set_cons_succ, List.set_cons_zero]
    refine wpAnyH_ready (rs := [1]) (by kernel_rfl) (by simp) (gcallR 1 (some 4) rfl (by kernel_rfl) (by kernel_rfl) (by kernel_rfl) (len8 h n _ H.drew) ?_ AllReadyH.nil)
    rintro _ _ ⟨rfl, rfl⟩
    refine ⟨_, rfl, H.drew, ?_⟩
    simp only [Act.put, List.setIfInBounds_toArray, List.set_cons_succ, List.set_cons_zero]
    refine gsem 6 (some 9) (.bool false) rfl (by kernel_rfl) (by kernel_rfl) (by kernel_rfl) (fun _ _ _ h => h) (by kernel_rfl) (by kernel_rfl) (fun X hX => ex_geq false rfl rfl rfl hc) H.drew ?_
    simp only [Act.put, List.setIfInBounds_toArray, List.set_cons_succ, List.set_cons_zero]
    refine wpAnyH_done (by kernel_rfl) ?_ _
    try simp only [Act.put, List.setIfInBounds_toArray, List.set_cons_succ, List.set_cons_zero]
    clear H
    go_wp2
    go_ret
    exact ⟨rfl, (Fr.refl w []).drew.below⟩
def protoE (v : VV) : Int := if v.k = 2 ∨ v.k = 7 then 0 else 5
set_option maxRecDepth 100000 in
theorem protoKind22 (v : VV) (w : World) : Calls Tryd.prog 22 #[v.agg] w fun e w' => e = .returned (.int .i64 (protoE v)) ∧ Below w.heap.size w w' := by
  have LL := hide (Hq.nil w [])
  unfold protoE
  rw [vagg]
  by_cases h2 : v.k = 2
  · rw [if_pos (Or.inl h2)]
    have hb : (v.k != 2) = false := by simp [h2]
    clear h2
    go_enter Tryd.func22, Tryd.ntmps22
    go_wp2_with (first | go_skip | ((with_reducible show wpList _ _ _ _ _ _); first | ((refine bx 35 (v.cs) (by rfl) rfl rfl rfl (Nat.succ_pos _) (unhide LL) ?_); intro X1 B1 hE1 L1 hb1; have hB1 := hide (Nat.le_trans (unhide LL).fr.size (Nat.le_of_eq hE1.symm)); replace LL := hide L1; clear L1 hb1 hE1; simp only [Act.put, List.setIfInBounds_toArray, List.set_cons_succ, List.set_cons_zero]) | ((refine rd (by rfl) (ex_load1 3 Tryd.isAgg3 rfl rfl ((unhide LL).get 0 rfl) rfl) ?_); simp only [Act.put, List.setIfInBounds_toArray, List.set_cons_succ, List.set_cons_zero])))
    go_ret
    exact ⟨rfl, (unhide LL).fr.below⟩
  · have hb : (v.k != 2) = true := by simp [h2]
    by_cases h7 : v.k = 7
    · rw [if_pos (Or.inr h7)]
      have hb7 : (v.k != 7) = false := by simp [h7]
      clear h2 h7
      go_enter Tryd.func22, Tryd.ntmps22
      go_wp2_with (first | go_skip | ((with_reducible show wpList _ _ _ _ _ _); first | ((refine bx 35 (v.cs) (by rfl) rfl rfl rfl (Nat.succ_pos _) (unhide LL) ?_); intro X1 B1 hE1 L1 hb1; have hB1 := hide (Nat.le_trans (unhide LL).fr.size (Nat.le_of_eq hE1.symm)); replace LL := hide L1; clear L1 hb1 hE1; simp only [Act.put, List.setIfInBounds_toArray, List.set_cons_succ, List.set_cons_zero]) | ((refine rd (by rfl) (ex_load1 3 Tryd.isAgg3 rfl rfl ((unhide LL).get 0 rfl) rfl) ?_); simp only [Act.put, List.setIfInBounds_toArray, List.set_cons_succ, List.set_cons_zero])))
      go_ret
      exact ⟨rfl, (unhide LL).fr.below⟩
    · rw [if_neg (by simp [h2, h7])]
      have hb7 : (v.k != 7) = true := by simp [h7]
      clear h2 h7
      go_enter Tryd.func22, Tryd.ntmps22
      go_wp2_with (first | go_skip | ((with_reducible show wpList _ _ _ _ _ _); first | ((refine bx 35 (v.cs) (by rfl) rfl rfl rfl (Nat.succ_pos _) (unhide LL) ?_); intro X1 B1 hE1 L1 hb1; have hB1 := hide (Nat.le_trans (unhide LL).fr.size (Nat.le_of_eq hE1.symm)); replace LL := hide L1; clear L1 hb1 hE1; simp only [Act.put, List.setIfInBounds_toArray, List.set_cons_succ, List.set_cons_zero]) | ((refine rd (by rfl) (ex_load1 3 Tryd.isAgg3 rfl rfl ((unhide LL).get 0 rfl) rfl) ?_); simp only [Act.put, List.setIfInBounds_toArray, List.set_cons_succ, List.set_cons_zero])))
      go_ret
      exact ⟨rfl, (unhide LL).fr.below⟩
def knownV (n : Nat) (v : VV) : Bool := !(v.k == 7) || hasH v.i n
def knownE (n : Nat) (vs : List VV) : Int := if vs.all (knownV n) then 0 else 4
theorem allV_false {f : VV → Bool} {l : List VV} {i : Nat} {v : VV} (hv : l[i]? = some v) (hf : f v = false) : l.all f = false := by
  rw [List.all_eq_false]
  exact ⟨v, List.mem_of_getElem? hv, by simp [hf]⟩
theorem allV_true {f : VV → Bool} {l : List VV} (h : ∀ j v, j < l.length → l[j]? = some v → f v = true) : l.all f = true := by
  rw [List.all_eq_true]
  intro v hv
  obtain ⟨j, hj⟩ := List.getElem?_of_mem hv
  exact h j v (List.getElem?_eq_some_iff.1 hj).1 hj
set_option maxHeartbeats 2000000 in
set_option maxRecDepth 100000 in
theorem known29 (h : HP) (n : Nat) (B : Option Addr) (vcap : Nat) (vs : List VV) (w : World) (H : h.Is w n) (hR : ReadsV w B vs) (hz : vs.length ≤ 100) : Calls Tryd.prog 29 #[.pointer (some ⟨h.b, 0, none⟩), .slice B vs.length vcap] w fun e w' => e = .returned (.int .i64 (knownE h.l.length vs)) ∧ Below w.heap.size w w' := by
  have LL := hide (Hq.nil w [])
  have HH := hide H
  have HR := hide hR
  have HZ := hide hz
  clear H hR hz
  go_enter Tryd.func29, Tryd.ntmps29
  go_wp2_with (first | go_skip | ((with_reducible show wpList _ _ _ _ _ _); first | ((refine rd (by rfl) (ex_lenG 22 35 Tryd.underlying22 rfl rfl) ?_); simp only [Act.put, List.setIfInBounds_toArray, List.set_cons_succ, List.set_cons_zero]) | ((refine rd (by rfl) (ex_indexG 22 5 i und22 idx22 rfl rfl rfl (unhide HLT)) ?_); simp only [Act.put, List.setIfInBounds_toArray, List.set_cons_succ, List.set_cons_zero]) | ((refine rd (by rfl) (ex_loadR (vs := v.cs) 35 5 row35 siz35 rfl rfl (unhide HA2 _ (unhide LL).fr) rfl) ?_); simp only [Act.put, List.setIfInBounds_toArray, List.set_cons_succ, List.set_cons_zero]) | ((refine alG 35 (zeroV.cs) (by rfl) rfl (fun w => by kernel_rfl) (Nat.succ_pos _) (unhide LL) ?_); intro X3 B3 hE3 L3 hb3; have hB3 := hide (Nat.le_trans (unhide LL).fr.size (Nat.le_of_eq hE3.symm)); replace LL := hide L3; clear L3 hb3 hE3; simp only [Act.put, List.setIfInBounds_toArray, List.set_cons_succ, List.set_cons_zero]) | ((refine st (vs := v.cs) 0 35 (by rfl) rfl rfl rfl rfl (vcs_one v) (siz35) (unhide LL) rfl (by simp [cput, VV.cs, OB.cs, tcs, hcs, zeroV, shc, zshc]) (Or.inr (unhide hB3)) ?_); intro X4 L4 hf4 hs4; replace LL := hide L4; clear L4 hf4 hs4; simp only [Act.put, List.setIfInBounds_toArray, List.set_cons_succ, List.set_cons_zero]) | ((refine rd (by rfl) (ex_load1 3 Tryd.isAgg3 rfl rfl ((unhide LL).get 0 rfl) rfl) ?_); simp only [Act.put, List.setIfInBounds_toArray, List.set_cons_succ, List.set_cons_zero])))
  go_loopg [9] vs.length (fun gm s9 wr => ∃ i : Nat, s9 = .int .i64 (i : Nat) ∧ i ≤ vs.length ∧ vs.length - i ≤ gm ∧ Hid (∀ j v, j < i → vs[j]? = some v → knownV h.l.length v = true) ∧ Hid (Hq w wr [] []))
  case atStart => exact ⟨0, rfl, by omega, by omega, hide (fun j v hj => by omega), LL⟩
  case round =>
    clear LL
    obtain ⟨i, rfl, hil, hgm, HD, LL⟩ := hrel
    by_cases hlt : i < vs.length
    · have dlt : decide ((i : Int) < (vs.length : Int)) = true := decide_eq_true (by omega)
      have hw1 : IntKind.i64.wrap ((i : Int) + 1) = (i : Int) + 1 := by have := unhide HZ; rw [IntKind.wrap_i64]; omega
      obtain ⟨v, hv⟩ : ∃ v, vs[i]? = some v := ⟨_, List.getElem?_eq_getElem hlt⟩
      obtain ⟨b, off, hA, hb, hrg⟩ := (unhide HR) i v hv
      subst hA
      have HA2 : Hid (∀ X, Fr w X [] → X.rangeAt b (off + i * 5) v.cs) := hide (fun X hX => rangeAt_fr hrg hb hX)
      have HLT := hide hlt
      clear hb hrg hlt hil
      have HO := hide (fun w H => has27 h n v.i w H)
      have hokv : knownV h.l.length v = (!(v.k == 7) || hasH v.i h.l.length) := rfl
      by_cases hk : v.k = 7
      · have hk2 : (v.k == 7) = true := by simp [hk]
        rw [hk2] at hokv
        clear hk
        generalize hasH v.i h.l.length = ob at *
        cases ob
        · have HFA : Hid (vs.all (knownV h.l.length) = false) := hide (allV_false hv hokv)
          clear hv hokv
          go_wp2_with (first | go_skip | ((with_reducible show wpList _ _ _ _ _ _); first | ((refine rd (by rfl) (ex_lenG 22 35 Tryd.underlying22 rfl rfl) ?_); simp only [Act.put, List.setIfInBounds_toArray, List.set_cons_succ, List.set_cons_zero]) | ((refine rd (by rfl) (ex_indexG 22 5 i und22 idx22 rfl rfl rfl (unhide HLT)) ?_); simp only [Act.put, List.setIfInBounds_toArray, List.set_cons_succ, List.set_cons_zero]) | ((refine rd (by rfl) (ex_loadR (vs := v.cs) 35 5 row35 siz35 rfl rfl (unhide HA2 _ (unhide LL).fr) rfl) ?_); simp only [Act.put, List.setIfInBounds_toArray, List.set_cons_succ, List.set_cons_zero]) | ((refine alG 35 (zeroV.cs) (by rfl) rfl (fun w => by kernel_rfl) (Nat.succ_pos _) (unhide LL) ?_); intro X3 B3 hE3 L3 hb3; have hB3 := hide (Nat.le_trans (unhide LL).fr.size (Nat.le_of_eq hE3.symm)); replace LL := hide L3; clear L3 hb3 hE3; simp only [Act.put, List.setIfInBounds_toArray, List.set_cons_succ, List.set_cons_zero]) | ((refine st (vs := v.cs) 0 35 (by rfl) rfl rfl rfl rfl (vcs_one v) (siz35) (unhide LL) rfl (by simp [cput, VV.cs, OB.cs, tcs, hcs, zeroV, shc, zshc]) (Or.inr (unhide hB3)) ?_); intro X4 L4 hf4 hs4; replace LL := hide L4; clear L4 hf4 hs4; simp only [Act.put, List.setIfInBounds_toArray, List.set_cons_succ, List.set_cons_zero]) | ((refine rd (by rfl) (ex_load1 3 Tryd.isAgg3 rfl rfl ((unhide LL).get 0 rfl) rfl) ?_); simp only [Act.put, List.setIfInBounds_toArray, List.set_cons_succ, List.set_cons_zero])))
          refine (unhide HO _ ((unhide HH).fr (unhide LL).fr)).mono ?_
          rintro e X5 ⟨rfl, rfl⟩
          go_wp2
          go_ret
          exact ⟨by unfold knownE; rw [unhide HFA]; rfl, (unhide LL).fr.below⟩
        · have HD2 : Hid (∀ j u, j < i + 1 → vs[j]? = some u → knownV h.l.length u = true) := hide (fun j u hj hu => by
            rcases Nat.lt_or_ge j i with h | h
            · exact unhide HD j u h hu
            · obtain rfl : j = i := by omega
              obtain rfl : v = u := Option.some.inj (hv.symm.trans hu)
              exact hokv)
          clear hv hokv HD
          go_wp2_with (first | go_skip | ((with_reducible show wpList _ _ _ _ _ _); first | ((refine rd (by rfl) (ex_lenG 22 35 Tryd.underlying22 rfl rfl) ?_); simp only [Act.put, List.setIfInBounds_toArray, List.set_cons_succ, List.set_cons_zero]) | ((refine rd (by rfl) (ex_indexG 22 5 i und22 idx22 rfl rfl rfl (unhide HLT)) ?_); simp only [Act.put, List.setIfInBounds_toArray, List.set_cons_succ, List.set_cons_zero]) | ((refine rd (by rfl) (ex_loadR (vs := v.cs) 35 5 row35 siz35 rfl rfl (unhide HA2 _ (unhide LL).fr) rfl) ?_); simp only [Act.put, List.setIfInBounds_toArray, List.set_cons_succ, List.set_cons_zero]) | ((refine alG 35 (zeroV.cs) (by rfl) rfl (fun w => by kernel_rfl) (Nat.succ_pos _) (unhide LL) ?_); intro X3 B3 hE3 L3 hb3; have hB3 := hide (Nat.le_trans (unhide LL).fr.size (Nat.le_of_eq hE3.symm)); replace LL := hide L3; clear L3 hb3 hE3; simp only [Act.put, List.setIfInBounds_toArray, List.set_cons_succ, List.set_cons_zero]) | ((refine st (vs := v.cs) 0 35 (by rfl) rfl rfl rfl rfl (vcs_one v) (siz35) (unhide LL) rfl (by simp [cput, VV.cs, OB.cs, tcs, hcs, zeroV, shc, zshc]) (Or.inr (unhide hB3)) ?_); intro X4 L4 hf4 hs4; replace LL := hide L4; clear L4 hf4 hs4; simp only [Act.put, List.setIfInBounds_toArray, List.set_cons_succ, List.set_cons_zero]) | ((refine rd (by rfl) (ex_load1 3 Tryd.isAgg3 rfl rfl ((unhide LL).get 0 rfl) rfl) ?_); simp only [Act.put, List.setIfInBounds_toArray, List.set_cons_succ, List.set_cons_zero])))
          refine (unhide HO _ ((unhide HH).fr (unhide LL).fr)).mono ?_
          rintro e X5 ⟨rfl, rfl⟩
          go_wp2_with fail
          replace LL := hide (Hq.left (L := []) (M := [_]) (unhide LL))
          go_wp2
          go_roundg (vs.length - (i + 1))
          case measure => have := unhide HLT; omega
          case rel => exact ⟨i + 1, by go_num, by have := unhide HLT; omega, by omega, HD2, LL⟩
      · have hk2 : (v.k == 7) = false := by simp [hk]
        rw [hk2] at hokv
        clear hk
        have HD2 : Hid (∀ j u, j < i + 1 → vs[j]? = some u → knownV h.l.length u = true) := hide (fun j u hj hu => by
          rcases Nat.lt_or_ge j i with h | h
          · exact unhide HD j u h hu
          · obtain rfl : j = i := by omega
            obtain rfl : v = u := Option.some.inj (hv.symm.trans hu)
            exact hokv)
        clear hv hokv HD
        go_wp2_with (first | go_skip | ((with_reducible show wpList _ _ _ _ _ _); first | ((refine rd (by rfl) (ex_lenG 22 35 Tryd.underlying22 rfl rfl) ?_); simp only [Act.put, List.setIfInBounds_toArray, List.set_cons_succ, List.set_cons_zero]) | ((refine rd (by rfl) (ex_indexG 22 5 i und22 idx22 rfl rfl rfl (unhide HLT)) ?_); simp only [Act.put, List.setIfInBounds_toArray, List.set_cons_succ, List.set_cons_zero]) | ((refine rd (by rfl) (ex_loadR (vs := v.cs) 35 5 row35 siz35 rfl rfl (unhide HA2 _ (unhide LL).fr) rfl) ?_); simp only [Act.put, List.setIfInBounds_toArray, List.set_cons_succ, List.set_cons_zero]) | ((refine alG 35 (zeroV.cs) (by rfl) rfl (fun w => by kernel_rfl) (Nat.succ_pos _) (unhide LL) ?_); intro X3 B3 hE3 L3 hb3; have hB3 := hide (Nat.le_trans (unhide LL).fr.size (Nat.le_of_eq hE3.symm)); replace LL := hide L3; clear L3 hb3 hE3; simp only [Act.put, List.setIfInBounds_toArray, List.set_cons_succ, List.set_cons_zero]) | ((refine st (vs := v.cs) 0 35 (by rfl) rfl rfl rfl rfl (vcs_one v) (siz35) (unhide LL) rfl (by simp [cput, VV.cs, OB.cs, tcs, hcs, zeroV, shc, zshc]) (Or.inr (unhide hB3)) ?_); intro X4 L4 hf4 hs4; replace LL := hide L4; clear L4 hf4 hs4; simp only [Act.put, List.setIfInBounds_toArray, List.set_cons_succ, List.set_cons_zero]) | ((refine rd (by rfl) (ex_load1 3 Tryd.isAgg3 rfl rfl ((unhide LL).get 0 rfl) rfl) ?_); simp only [Act.put, List.setIfInBounds_toArray, List.set_cons_succ, List.set_cons_zero])))
        replace LL := hide (Hq.left (L := []) (M := [_]) (unhide LL))
        go_wp2
        go_roundg (vs.length - (i + 1))
        case measure => have := unhide HLT; omega
        case rel => exact ⟨i + 1, by go_num, by have := unhide HLT; omega, by omega, HD2, LL⟩
    · obtain rfl : i = vs.length := by omega
      have HTA : Hid (vs.all (knownV h.l.length) = true) := hide (allV_true (fun j v hj hv => unhide HD j v hj hv))
      clear hlt hil HD
      go_wp2_with (first | go_skip | ((with_reducible show wpList _ _ _ _ _ _); first | ((refine rd (by rfl) (ex_lenG 22 35 Tryd.underlying22 rfl rfl) ?_); simp only [Act.put, List.setIfInBounds_toArray, List.set_cons_succ, List.set_cons_zero])))
      go_ret
      exact ⟨by unfold knownE; rw [unhide HTA]; rfl, (unhide LL).fr.below⟩
end Go.Proofs.YtmfhjbmgbbkicaaDoor
