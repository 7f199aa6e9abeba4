import Derived.Test.YtpbdidnphkkenaaGreatDoorQwa
import Derived.Test.YtpbdidnphkkenaaGreatDoorQn
import Derived.Laws.OwnMore

/-! Od -/
namespace Go.Proofs.YtpbdidnphkkenaaGreatDoor
open Go Go.Proofs Go.Maps Go.RowKit
set_option linter.unusedSimpArgs false
set_option linter.unusedVariables false
set_option maxHeartbeats 1000000
def leftR (b : Nat) (q : RR) : RR := if q.b = b then goneR q else q
theorem leftR_b (b : Nat) (q : RR) : (leftR b q).b = q.b ∧ (leftR b q).n = q.n := by
  unfold leftR goneR
  split <;> exact ⟨rfl, rfl⟩
/-- A row is gone. -/
def TT.left (T : TT) (b : Nat) : TT := { T with rows := T.rows.map (leftR b) }
theorem TT.left_live (T : TT) (b : Nat) : (T.left b).live = T.live.filter (fun q => decide (q.b ≠ b)) := by
  unfold TT.left TT.live
  simp only
  induction T.rows with
  | nil => rfl
  | cons q l ih =>
    simp only [List.map_cons, List.filter_cons]
    by_cases h : q.b = b
    · rw [show leftR b q = goneR q from if_pos h]
      cases hg : q.gone
      · rw [if_neg (by simp [goneR]), if_pos (by simp), List.filter_cons, if_neg (by simp [h])]
        exact ih
      · rw [if_neg (by simp [goneR]), if_neg (by simp)]
        exact ih
    · rw [show leftR b q = q from if_neg h]
      cases hg : q.gone
      · rw [if_pos (by simp), if_pos (by simp), List.filter_cons, if_pos (by simp [h]), ih]
      · rw [if_neg (by simp), if_neg (by simp)]
        exact ih
theorem find_congr {α : Type} {p q : α → Bool} : ∀ {l : List α}, (∀ x ∈ l, p x = q x) → l.find? p = l.find? q
  | [], _ => rfl
  | x :: l, h => by
    rw [List.find?_cons, List.find?_cons, h x (by simp), find_congr (fun y hy => h y (by simp [hy]))]
theorem rows_pair {T : TT} (h : TApart T) : T.rows.Pairwise (fun a b => a.b ≠ b.b) := by
  have := h.rr
  unfold List.Nodup at this
  rwa [List.pairwise_map] at this
theorem live_mem {T : TT} {r : RR} (h : r ∈ T.live) : r ∈ T.rows := (List.mem_filter.1 h).1
/-- Of the rows that stand: the one block is the one key's. -/
theorem block_key {T : TT} {w : World} (hT : T.Is w) {r q : RR} (hr : r ∈ T.live) (hq : q ∈ T.live) : q.b = r.b ↔ q.k = r.k := by
  constructor
  · intro e
    rw [pair_inj (f := RR.b) (rows_pair (TT.apart hT.nd)) (live_mem hq) (live_mem hr) e]
  · intro e
    rw [pair_inj (f := RR.k) hT.keys hq hr e]
theorem TT.left_live' {T : TT} {w : World} (hT : T.Is w) {r : RR} (hr : r ∈ T.live) : (T.left r.b).live = T.live.filter (fun q => decide (q.k ≠ r.k)) := by
  rw [TT.left_live]
  apply List.filter_congr
  intro q hq
  have := block_key hT hr hq
  simp [this]
theorem TT.left_find {T : TT} {w : World} (hT : T.Is w) {r : RR} (hr : r ∈ T.live) : (fun q => ((T.left r.b).find q).map (·.b)) = putF (fun q => (T.find q).map (·.b)) r.k none := by
  funext q
  unfold TT.find
  rw [TT.left_live' hT hr, List.find?_filter]
  by_cases e : q = r.k
  · subst e
    rw [putF_same]
    have : T.live.find? (fun a => decide (decide (a.k ≠ r.k) = true ∧ decide (a.k = r.k) = true)) = none := by
      rw [List.find?_eq_none]
      intro x _
      simp
    rw [this]
    rfl
  · rw [putF_other e]
    congr 1
    apply find_congr
    intro x _
    by_cases e2 : x.k = q
    · have : x.k ≠ r.k := fun e3 => e (e2 ▸ e3)
      simp [e2]
      exact fun e3 => e e3
    · simp [e2]
theorem TT.left_len {T : TT} {w : World} (hT : T.Is w) {r : RR} (hr : r ∈ T.live) : (T.left r.b).live.length = T.live.length - 1 := by
  rw [TT.left_live' hT hr]
  obtain ⟨a, b, e⟩ := List.append_of_mem hr
  have hp := hT.keys
  rw [e] at hp ⊢
  have h1 := List.pairwise_append.1 hp
  have h2 := List.pairwise_cons.1 h1.2.1
  have ha : a.filter (fun q => decide (q.k ≠ r.k)) = a := by
    rw [List.filter_eq_self]
    intro x hx
    simpa using h1.2.2 x hx r (by simp)
  have hb : b.filter (fun q => decide (q.k ≠ r.k)) = b := by
    rw [List.filter_eq_self]
    intro x hx
    simpa using (h2.1 x hx).symm
  rw [List.filter_append, List.filter_cons, ha, hb]
  simp
theorem TT.Is.left {T : TT} {w X : World} {r : RR} (hT : T.Is w) (hr : r ∈ T.live) (htab : Holds X T.t T.cs) (hmap : MapIs X T.m T.last (T.live.length - 1) (putF (fun k => (T.find k).map (·.b)) r.k none)) (hown : OwnP X T.rv (T.rows.map (·.b))) (hrest : ∀ q ∈ T.rows, q.b ≠ r.b → Holds X q.b q.cs) (hg : Holds X r.b (goneR r).cs) : (T.left r.b).Is X := by
  have hbs : (T.left r.b).rows.map (·.b) = T.rows.map (·.b) := by
    unfold TT.left
    simp only [List.map_map]
    apply List.map_congr_left
    intro q _
    exact (leftR_b r.b q).1
  have hsub : ∀ q ∈ (T.left r.b).live, q ∈ T.live := fun q hq => by
    rw [TT.left_live] at hq
    exact (List.mem_filter.1 hq).1
  refine ⟨htab, ?_, ?_, ?_, ?_, ?_, ?_, ?_, fun q hq => hT.good q (hsub q hq)⟩
  · rw [TT.left_find hT hr, TT.left_len hT hr]
    exact hmap
  · rw [hbs]
    exact hown
  · intro q hq
    obtain ⟨p, hp, rfl⟩ := List.mem_map.1 hq
    by_cases e : p.b = r.b
    · have := pair_inj (f := RR.b) (rows_pair (TT.apart hT.nd)) hp (live_mem hr) e
      subst this
      unfold leftR
      rw [if_pos rfl]
      exact hg
    · unfold leftR
      rw [if_neg e]
      exact hrest p hp e
  · have h := hT.nd
    unfold TT.blocks at h ⊢
    rw [hbs]
    exact h
  · show (T.rows.map (leftR r.b)).Pairwise _
    rw [List.pairwise_map]
    refine hT.rise.imp ?_
    intro a b h
    rw [(leftR_b r.b a).2, (leftR_b r.b b).2]
    exact h
  · intro q hq
    obtain ⟨p, hp, rfl⟩ := List.mem_map.1 hq
    rw [(leftR_b r.b p).2]
    exact hT.num p hp
  · rw [TT.left_live]
    exact hT.keys.sublist List.filter_sublist
theorem TT.left_blocks (T : TT) (b : Nat) : (T.left b).blocks = T.blocks := by
  unfold TT.blocks TT.left
  simp only [List.map_map]
  congr 3
  apply List.map_congr_left
  intro q _
  exact (leftR_b b q).1
theorem gdel {md : Region.Mode} {ops : Array Oper} {Q : Exit → Act → World → Prop} {S : World → Prop} {w : World} {fuel : Nat} {listed : Array Bool} {a : Act} {o : Oper} (i : Nat) {m x : Operand} {b n sz : Nat} {F : KK → Option Nat} {k : KK} {rs : List Nat} (hi : ops[i]? = some o) (hd : o.dst = none) (hw : Region.wanted o (yielded ops a.tmps) = true)
    (ho : o.op = .call { callee := .builtin .delete, args := #[m, x], argTypes := #[69, 33] }) (hm : a.eval m = .map (some b)) (hx : a.eval x = k.agg) (h : MapIs w b n sz F) (hk : OkK k) (hon : ∀ X, Fr w X [b] → S X)
    (hh : ∀ X, MapIs X b n (if (F k).isSome then sz - 1 else sz) (putF F k none) → Fr w X [b] → wpAnyH Tryz.prog md ops Q S fuel (listed.setIfInBounds i true) (a.put none (.tuple #[])) X) (hs : AllReadyH Tryz.prog md ops Q S fuel listed a w rs) : AllReadyH Tryz.prog md ops Q S fuel listed a w (i :: rs) := by
  obtain ⟨X, h1, h2, h3⟩ := h.drop hk o.type
  refine gval i none hi hd hw (V := .tuple #[]) (X := X) ?_ (hon X (Fr.grown h3.grown)) (hh X h2 (Fr.grown h3.grown)) hs
  simp [execOp, ho, resolve, invoke, builtin, hm, hx, h1, Result.andThen]
set_option maxRecDepth 100000 in
theorem delete14 (T : TT) (k : KK) (w : World) (hT : T.Is w) (hk : OkK k) (hl : T.last < 100000) : Calls Tryz.prog 14 #[.pointer (some ⟨T.t, 0, none⟩), k.agg] w fun e w' => e = .returned (.bool (T.find k).isSome) ∧ ∃ T' : TT, T'.Is w' ∧ T'.t = T.t ∧ T'.last = T.last ∧ Fr w w' T.blocks ∧ (∀ b ∈ T'.blocks, b ∈ T.blocks ∨ w.heap.size ≤ b) ∧ T'.live = T.live.filter (fun q => decide (q.k ≠ k)) := by
  cases hf : T.find k with
  | none =>
    have hlv : T.live.filter (fun q => decide (q.k ≠ k)) = T.live := by
      rw [List.filter_eq_self]
      intro q hq
      simpa using TT.find_none hf q hq
    rw [hlv]
    clear hlv
    have HT := hide (hT.on ((Below.refl _ _).alloc (Nat.le_refl _) (Obj.cells k.cs.toArray 33)))
    have LL := hide ((Hq.nil w T.blocks).new k.cs 33 (Nat.succ_pos _))
    have HL := hide hT.lt
    clear hT
    rw [show k.agg = .agg k.cs.toArray from rfl]
    go_enter Tryz.func14, Tryz.ntmps14
    go_wp2
    refine wp_region_held_drew (P := Tryz.prog) (S := fun X => T.Is X ∧ Hq w X T.blocks [(w.heap.size, k.cs)]) (by kernel_rfl) ⟨(unhide HT).drew, (unhide LL).drew⟩ (fun hS0 => ?_)
    refine gsem 0 (some 8) (.pointer (some ⟨T.t, 0, none⟩)) rfl (by kernel_rfl) (by kernel_rfl) (by kernel_rfl) (fun _ _ _ h => h) (by kernel_rfl) (by kernel_rfl) (fun _ _ => by kernel_rfl) hS0 ?_
    simp only [Act.put, List.setIfInBounds_toArray, List.set_cons_succ, List.set_cons_zero]
    refine gsem 1 (some 9) (.pointer (some ⟨T.t, 0, none⟩)) rfl (by kernel_rfl) (by kernel_rfl) (by kernel_rfl) (fun _ _ _ h => h) (by kernel_rfl) (by kernel_rfl) (fun _ _ => by kernel_rfl) hS0 ?_
    simp only [Act.put, List.setIfInBounds_toArray, List.set_cons_succ, List.set_cons_zero]
    refine gsem 2 (some 10) (.pointer (some ⟨T.t, 0, none⟩)) rfl (by kernel_rfl) (by kernel_rfl) (by kernel_rfl) (fun _ _ _ h => h) (by kernel_rfl) (by kernel_rfl) (fun _ _ => by kernel_rfl) hS0 ?_
    simp only [Act.put, List.setIfInBounds_toArray, List.set_cons_succ, List.set_cons_zero]
    refine gsem 3 (some 11) (.map (some T.m)) rfl (by kernel_rfl) (by kernel_rfl) (by kernel_rfl) (fun _ _ _ h => h) (by kernel_rfl) (by kernel_rfl) (fun X hX => ex_load1 69 Tryz.isAgg69 rfl rfl (hX.1.tab) rfl) hS0 ?_
    simp only [Act.put, List.setIfInBounds_toArray, List.set_cons_succ, List.set_cons_zero]
    refine gsem 4 (some 12) (k.agg) rfl (by kernel_rfl) (by kernel_rfl) (by kernel_rfl) (fun _ _ _ h => h) (by kernel_rfl) (by kernel_rfl) (fun X hX => ex_loadN (vs := k.cs) 33 2 row33x siz33 rfl rfl (hX.2.get 0 rfl) rfl rfl) hS0 ?_
    simp only [Act.put, List.setIfInBounds_toArray, List.set_cons_succ, List.set_cons_zero]
    refine gsem 5 (some 13) (.tuple #[pv (none), .bool false]) rfl (by kernel_rfl) (by kernel_rfl) (by kernel_rfl) (fun _ _ _ h => h) (by kernel_rfl) (by kernel_rfl) (fun X hX => ex_look (r := none) rfl rfl rfl hX.1.map hk (by rw [hf]; rfl)) hS0 ?_
    simp only [Act.put, List.setIfInBounds_toArray, List.set_cons_succ, List.set_cons_zero]
    refine gsem 6 (some 7) (.tuple #[pv (none), .bool false]) rfl (by kernel_rfl) (by kernel_rfl) (by kernel_rfl) (fun _ _ _ h => h) (by kernel_rfl) (by kernel_rfl) (fun _ _ => by kernel_rfl) hS0 ?_
    simp only [Act.put, List.setIfInBounds_toArray, List.set_cons_succ, List.set_cons_zero]
    refine gsem 7 (some 14) (pv (none)) rfl (by kernel_rfl) (by kernel_rfl) (by kernel_rfl) (fun _ _ _ h => h) (by kernel_rfl) (by kernel_rfl) (fun _ _ => by kernel_rfl) hS0 ?_
    simp only [Act.put, List.setIfInBounds_toArray, List.set_cons_succ, List.set_cons_zero]
    refine gsem 9 (some 5) (pv (none)) rfl (by kernel_rfl) (by kernel_rfl) (by kernel_rfl) (fun _ _ _ h => h) (by kernel_rfl) (by kernel_rfl) (fun _ _ => by kernel_rfl) hS0 ?_
    simp only [Act.put, List.setIfInBounds_toArray, List.set_cons_succ, List.set_cons_zero]
    refine gsem 8 (some 15) (.bool false) rfl (by kernel_rfl) (by kernel_rfl) (by kernel_rfl) (fun _ _ _ h => h) (by kernel_rfl) (by kernel_rfl) (fun _ _ => by kernel_rfl) hS0 ?_
    simp only [Act.put, List.setIfInBounds_toArray, List.set_cons_succ, List.set_cons_zero]
    refine gsem 10 (some 6) (.bool false) rfl (by kernel_rfl) (by kernel_rfl) (by kernel_rfl) (fun _ _ _ h => h) (by kernel_rfl) (by kernel_rfl) (fun _ _ => by kernel_rfl) hS0 ?_
    simp only [Act.put, List.setIfInBounds_toArray, List.set_cons_succ, List.set_cons_zero]
    refine wpAnyH_done (by kernel_rfl) ?_ _
    try simp only [Act.put, List.setIfInBounds_toArray, List.set_cons_succ, List.set_cons_zero]
    replace HT := hide hS0.1
    replace LL := hide hS0.2
    clear hS0
    go_wp2
    go_ret
    exact ⟨rfl, T, unhide HT, rfl, rfl, (unhide LL).fr, fun b hb => .inl hb, rfl⟩
  | some r =>
    have hrl : r ∈ T.live := List.mem_of_find?_eq_some hf
    obtain ⟨-, hgn, hrk⟩ := TT.find_mem hf
    have HRL := hide (And.intro hrl hrk)
    have H2 : Hid (∀ X, (T.left r.b).Is X → Calls Tryz.prog 38 #[.pointer (some ⟨T.t, 0, none⟩)] X fun e w' => e = .returned (.int .i64 (((T.left r.b).rows.length - (T.left r.b).live.length : Nat) : Int)) ∧ Below X.heap.size X w') := hide (fun X hX => gaps38 (T.left r.b) X hX (by have := hX.len; have e : (T.left r.b).last = T.last := rfl; omega))
    have H3 : Hid (∀ X, (T.left r.b).Is X → Calls Tryz.prog 30 #[.pointer (some ⟨T.t, 0, none⟩)] X fun e w' => e = .returned (.int .i64 (T.left r.b).live.length) ∧ w' = X) := hide (fun X hX => len30 (T.left r.b) X hX)
    have H4 : Hid (∀ X, (T.left r.b).Is X → Calls Tryz.prog 18 #[.pointer (some ⟨T.t, 0, none⟩)] X fun e w' => e = .returned (.tuple #[]) ∧ ∃ m rv, ((T.left r.b).packed m rv).Is w' ∧ Fr X w' [T.t] ∧ (∀ b ∈ ((T.left r.b).packed m rv).blocks, b ∈ (T.left r.b).blocks ∨ X.heap.size ≤ b)) := hide (fun X hX => compact18 (T.left r.b) X hX hl)
    have HLV : Hid ((T.left r.b).live = T.live.filter (fun q => decide (q.k ≠ k))) := hide (by rw [TT.left_live' hT hrl, hrk])
    have HAP := hide (TT.apart hT.nd)
    have hk2 := hide hk
    have hf2 := hide hf
    clear hrl hrk hgn hl
    have HT := hide (hT.on ((Below.refl _ _).alloc (Nat.le_refl _) (Obj.cells k.cs.toArray 33)))
    have LL := hide ((Hq.nil w T.blocks).new k.cs 33 (Nat.succ_pos _))
    have HL := hide hT.lt
    clear hT
    rw [show k.agg = .agg k.cs.toArray from rfl]
    go_enter Tryz.func14, Tryz.ntmps14
    go_wp2
    refine wp_region_held_drew (P := Tryz.prog) (S := fun X => T.Is X ∧ Hq w X T.blocks [(w.heap.size, k.cs)]) (by kernel_rfl) ⟨(unhide HT).drew, (unhide LL).drew⟩ (fun hS0 => ?_)
    refine gsem 0 (some 8) (.pointer (some ⟨T.t, 0, none⟩)) rfl (by kernel_rfl) (by kernel_rfl) (by kernel_rfl) (fun _ _ _ h => h) (by kernel_rfl) (by kernel_rfl) (fun _ _ => by kernel_rfl) hS0 ?_
    simp only [Act.put, List.setIfInBounds_toArray, List.set_cons_succ, List.set_cons_zero]
    refine gsem 1 (some 9) (.pointer (some ⟨T.t, 0, none⟩)) rfl (by kernel_rfl) (by kernel_rfl) (by kernel_rfl) (fun _ _ _ h => h) (by kernel_rfl) (by kernel_rfl) (fun _ _ => by kernel_rfl) hS0 ?_
    simp only [Act.put, List.setIfInBounds_toArray, List.set_cons_succ, List.set_cons_zero]
    refine gsem 2 (some 10) (.pointer (some ⟨T.t, 0, none⟩)) rfl (by kernel_rfl) (by kernel_rfl) (by kernel_rfl) (fun _ _ _ h => h) (by kernel_rfl) (by kernel_rfl) (fun _ _ => by kernel_rfl) hS0 ?_
    simp only [Act.put, List.setIfInBounds_toArray, List.set_cons_succ, List.set_cons_zero]
    refine gsem 3 (some 11) (.map (some T.m)) rfl (by kernel_rfl) (by kernel_rfl) (by kernel_rfl) (fun _ _ _ h => h) (by kernel_rfl) (by kernel_rfl) (fun X hX => ex_load1 69 Tryz.isAgg69 rfl rfl (hX.1.tab) rfl) hS0 ?_
    simp only [Act.put, List.setIfInBounds_toArray, List.set_cons_succ, List.set_cons_zero]
    refine gsem 4 (some 12) (k.agg) rfl (by kernel_rfl) (by kernel_rfl) (by kernel_rfl) (fun _ _ _ h => h) (by kernel_rfl) (by kernel_rfl) (fun X hX => ex_loadN (vs := k.cs) 33 2 row33x siz33 rfl rfl (hX.2.get 0 rfl) rfl rfl) hS0 ?_
    simp only [Act.put, List.setIfInBounds_toArray, List.set_cons_succ, List.set_cons_zero]
    refine gsem 5 (some 13) (.tuple #[pv (some r.b), .bool true]) rfl (by kernel_rfl) (by kernel_rfl) (by kernel_rfl) (fun _ _ _ h => h) (by kernel_rfl) (by kernel_rfl) (fun X hX => ex_look (r := some r.b) rfl rfl rfl hX.1.map hk (by rw [hf]; rfl)) hS0 ?_
    simp only [Act.put, List.setIfInBounds_toArray, List.set_cons_succ, List.set_cons_zero]
    refine gsem 6 (some 7) (.tuple #[pv (some r.b), .bool true]) rfl (by kernel_rfl) (by kernel_rfl) (by kernel_rfl) (fun _ _ _ h => h) (by kernel_rfl) (by kernel_rfl) (fun _ _ => by kernel_rfl) hS0 ?_
    simp only [Act.put, List.setIfInBounds_toArray, List.set_cons_succ, List.set_cons_zero]
    refine gsem 7 (some 14) (pv (some r.b)) rfl (by kernel_rfl) (by kernel_rfl) (by kernel_rfl) (fun _ _ _ h => h) (by kernel_rfl) (by kernel_rfl) (fun _ _ => by kernel_rfl) hS0 ?_
    simp only [Act.put, List.setIfInBounds_toArray, List.set_cons_succ, List.set_cons_zero]
    refine gsem 9 (some 5) (pv (some r.b)) rfl (by kernel_rfl) (by kernel_rfl) (by kernel_rfl) (fun _ _ _ h => h) (by kernel_rfl) (by kernel_rfl) (fun _ _ => by kernel_rfl) hS0 ?_
    simp only [Act.put, List.setIfInBounds_toArray, List.set_cons_succ, List.set_cons_zero]
    refine gsem 8 (some 15) (.bool true) rfl (by kernel_rfl) (by kernel_rfl) (by kernel_rfl) (fun _ _ _ h => h) (by kernel_rfl) (by kernel_rfl) (fun _ _ => by kernel_rfl) hS0 ?_
    simp only [Act.put, List.setIfInBounds_toArray, List.set_cons_succ, List.set_cons_zero]
    refine gsem 10 (some 6) (.bool true) rfl (by kernel_rfl) (by kernel_rfl) (by kernel_rfl) (fun _ _ _ h => h) (by kernel_rfl) (by kernel_rfl) (fun _ _ => by kernel_rfl) hS0 ?_
    simp only [Act.put, List.setIfInBounds_toArray, List.set_cons_succ, List.set_cons_zero]
    refine wpAnyH_done (by kernel_rfl) ?_ _
    try simp only [Act.put, List.setIfInBounds_toArray, List.set_cons_succ, List.set_cons_zero]
    replace HT := hide hS0.1
    replace LL := hide hS0.2
    clear hS0
    unfold pv
    go_wp2
    refine wp_region_held_drew (P := Tryz.prog) (S := fun X => Holds X T.t T.cs ∧ Hq w X T.blocks [(w.heap.size, k.cs)]) (by kernel_rfl) ⟨(unhide HT).tab.block rfl, (unhide LL).drew⟩ (fun hS0 => ?_)
    refine gsem 0 (some 18) (.pointer (some ⟨T.t, 0, none⟩)) rfl (by kernel_rfl) (by kernel_rfl) (by kernel_rfl) (fun _ _ _ h => h) (by kernel_rfl) (by kernel_rfl) (fun _ _ => by kernel_rfl) hS0 ?_
    simp only [Act.put, List.setIfInBounds_toArray, List.set_cons_succ, List.set_cons_zero]
    refine gsem 1 (some 19) (.pointer (some ⟨T.t, 0, none⟩)) rfl (by kernel_rfl) (by kernel_rfl) (by kernel_rfl) (fun _ _ _ h => h) (by kernel_rfl) (by kernel_rfl) (fun _ _ => by kernel_rfl) hS0 ?_
    simp only [Act.put, List.setIfInBounds_toArray, List.set_cons_succ, List.set_cons_zero]
    refine gsem 2 (some 20) (.pointer (some ⟨T.t, 0, none⟩)) rfl (by kernel_rfl) (by kernel_rfl) (by kernel_rfl) (fun _ _ _ h => h) (by kernel_rfl) (by kernel_rfl) (fun _ _ => by kernel_rfl) hS0 ?_
    simp only [Act.put, List.setIfInBounds_toArray, List.set_cons_succ, List.set_cons_zero]
    refine gsem 3 (some 21) (.map (some T.m)) rfl (by kernel_rfl) (by kernel_rfl) (by kernel_rfl) (fun _ _ _ h => h) (by kernel_rfl) (by kernel_rfl) (fun X hX => ex_load1 69 Tryz.isAgg69 rfl rfl (hX.1) rfl) hS0 ?_
    simp only [Act.put, List.setIfInBounds_toArray, List.set_cons_succ, List.set_cons_zero]
    refine gsem 4 (some 22) (k.agg) rfl (by kernel_rfl) (by kernel_rfl) (by kernel_rfl) (fun _ _ _ h => h) (by kernel_rfl) (by kernel_rfl) (fun X hX => ex_loadN (vs := k.cs) 33 2 row33x siz33 rfl rfl (hX.2.get 0 rfl) rfl rfl) hS0 ?_
    simp only [Act.put, List.setIfInBounds_toArray, List.set_cons_succ, List.set_cons_zero]
    have hmt : T.t ∉ [T.m] := by simpa using (unhide HAP).tm
    have hkm : w.heap.size ≠ T.m := by have := (unhide HL) T.m (by simp [TT.blocks]); omega
    have hmb : ∀ b ∈ [T.m], b ∈ T.blocks ∨ w.heap.size ≤ b := fun b hb => .inl (by obtain rfl : b = T.m := (by simpa using hb); simp [TT.blocks])
    refine wpAnyH_ready (rs := [5]) (by kernel_rfl) (by simp) (gdel 5 rfl (by kernel_rfl) (by kernel_rfl) rfl rfl rfl (unhide HT).drew.map (unhide hk2) (fun X hX => ⟨hS0.1.block (hX.block T.t (hS0.1.lt (by simp [TT.cs])) hmt), hS0.2.step hX hmb (fun q hq => by obtain rfl : q = (w.heap.size, k.cs) := (by simpa using hq); simpa using hkm)⟩) ?_ AllReadyH.nil)
    intro X hM hX
    have hTd := (unhide HT).drew
    have hLX := hS0.2.step hX hmb (fun q hq => by obtain rfl : q = (w.heap.size, k.cs) := (by simpa using hq); simpa using hkm)
    have hm3 : MapIs X T.m T.last (T.live.length - 1) (putF (fun q => (T.find q).map (·.b)) k none) := by
      have e := unhide hf2
      have := hM
      simp only [e, Option.map_some, Option.isSome_some, if_true] at this
      exact this
    have hap := unhide HAP
    have hbl : ∀ b, b ≠ T.m → b < w.heap.size → X.heap[b]? = (World.drew _).heap[b]? := fun b hb hlt => hX.block b (by have := hS0.2.fr.size; omega) (by simpa using hb)
    have HOWN : Hid (OwnP X T.rv (T.rows.map (·.b))) := hide (hTd.own.block (fun g hg => hX.block g (World.ownsRow.lt hTd.own g hg).2 (fun hm => (hap.tv g hg).2.1 (by simpa using hm))))
    have HROW : Hid (∀ q ∈ T.rows, Holds X q.b q.cs) := hide (fun q hq => (hTd.rows q hq).block (hX.block q.b ((hTd.rows q hq).lt (by simp [rcs_length])) (fun hm => hap.mr (by obtain h1 : q.b = T.m := (by simpa using hm); exact h1 ▸ List.mem_map.2 ⟨q, hq, rfl⟩))))
    have HTAB : Hid (Holds X T.t T.cs) := hide (hS0.1.block (hX.block T.t (hS0.1.lt (by simp [TT.cs])) hmt))
    have HM3 := hide hm3
    have hS1 : Holds X T.t T.cs ∧ Hq w X T.blocks [(w.heap.size, k.cs)] := ⟨unhide HTAB, hLX⟩
    replace LL := hide hLX
    clear hS0 hM hX hTd hLX hm3 hbl hmt hkm hmb
    simp only [Act.put, List.setIfInBounds_toArray, List.set_cons_succ, List.set_cons_zero]
    refine wpAnyH_done (by kernel_rfl) ?_ _
    try simp only [Act.put, List.setIfInBounds_toArray, List.set_cons_succ, List.set_cons_zero]
    clear hS1
    go_wp2_with fail
    refine (leave37 r X ((unhide HROW) r (live_mem (unhide HRL).1))).mono ?_
    rintro _ w3 ⟨rfl, hg3, hf3⟩
    have hrm : r.b ∈ T.rows.map (·.b) := List.mem_map.2 ⟨r, live_mem (unhide HRL).1, rfl⟩
    have hT2 : (T.left r.b).Is w3 := by
      have e := (unhide HRL).2
      refine TT.Is.left (unhide HT) (unhide HRL).1 ((unhide HTAB).block (hf3.block T.t ((unhide HTAB).lt (by simp [TT.cs])) ?_)) ?_ ((unhide HOWN).block (fun g hg => hf3.block g (World.ownsRow.lt (unhide HOWN) g hg).2 ?_)) (fun q hq hne => ((unhide HROW) q hq).block (hf3.block q.b (((unhide HROW) q hq).lt (by simp [rcs_length])) (by simpa using hne))) hg3
      · intro hm
        exact hap.tr (by obtain h1 : T.t = r.b := (by simpa using hm); exact h1 ▸ hrm)
      · rw [e]
        exact (unhide HM3).block (hf3.block T.m (unhide HM3).lt (fun hm => hap.mr (by obtain h1 : T.m = r.b := (by simpa using hm); exact h1 ▸ hrm)))
      · intro hm
        exact (hap.tv g hg).2.2 (by obtain h1 : g = r.b := (by simpa using hm); exact h1 ▸ hrm)
    have HFR : Hid (Fr w w3 T.blocks) := hide ((unhide LL).fr.trans hf3 (fun b hb => .inl (by
      obtain rfl : b = r.b := by simpa using hb
      unfold TT.blocks
      simp only [List.mem_cons, List.mem_append]
      exact .inr (.inr (.inr hrm)))))
    have HT2 := hide hT2
    clear hT2 hg3 hf3 hrm hap HOWN HROW HTAB HM3 LL
    go_wp2_with fail
    refine ((unhide H2) w3 (unhide HT2)).mono ?_
    rintro _ w4 ⟨rfl, hb⟩
    replace HFR := hide ((unhide HFR).on hb)
    replace HT2 := hide ((unhide HT2).on hb)
    clear hb
    go_wp2_with fail
    refine ((unhide H3) w4 (unhide HT2)).mono ?_
    rintro _ x4 ⟨rfl, e4⟩
    rw [e4]
    clear e4 x4
    obtain ⟨g1, hg1⟩ : ∃ g1, g1 = (T.left r.b).rows.length - (T.left r.b).live.length := ⟨_, rfl⟩
    obtain ⟨g2, hg2⟩ : ∃ g2, g2 = (T.left r.b).live.length := ⟨_, rfl⟩
    rw [← hg1, ← hg2]
    clear hg1 hg2
    by_cases hgt : g2 < g1
    · have hgz : (g2 : Int) < g1 := by omega
      go_wp2_with fail
      refine ((unhide H4) w4 (unhide HT2)).mono ?_
      rintro _ w5 ⟨rfl, m, rv, hT5, hf5, hb5⟩
      have HF5 := hide hf5
      have HT5 := hide hT5
      have HB5 := hide hb5
      clear hf5 hT5 hb5
      go_wp2
      go_ret
      refine ⟨rfl, _, unhide HT5, rfl, rfl, (unhide HFR).trans (unhide HF5) (fun b hb => .inl (by obtain rfl : b = T.t := (by simpa using hb); simp [TT.blocks])), fun b hb => ?_, ?_⟩
      · rcases (unhide HB5) b hb with h1 | h1
        · rw [TT.left_blocks] at h1
          exact .inl h1
        · exact .inr (Nat.le_trans (unhide HFR).size h1)
      · rw [TT.packed_live]
        exact unhide HLV
    · have hgz : ¬ (g2 : Int) < g1 := by omega
      go_wp2
      go_ret
      refine ⟨rfl, _, unhide HT2, rfl, rfl, unhide HFR, fun b hb => ?_, unhide HLV⟩
      rw [TT.left_blocks] at hb
      exact .inl hb
end Go.Proofs.YtpbdidnphkkenaaGreatDoor

/-! Ng -/
namespace Go.Proofs.YtpbdidnphkkenaaGreatDoor
open Go Go.Proofs Go.Maps Go.RowKit
set_option linter.unusedSimpArgs false
set_option linter.unusedVariables false
set_option maxHeartbeats 1000000
def Dis (a b : List Nat) : Prop := ∀ x ∈ a, x ∉ b
theorem Dis.symm {a b : List Nat} (h : Dis a b) : Dis b a := fun x hx hx' => h x hx' hx
theorem Sep.set : ∀ (l : List (List Nat)) (m i : Nat) (A A' : List Nat), l.Pairwise Dis → (∀ B ∈ l, ∀ b ∈ B, b < m) → l[i]? = some A → (∀ b ∈ A', b ∈ A ∨ m ≤ b) → (l.set i A').Pairwise Dis
  | [], m, i, A, A', _, _, hi, _ => by simp at hi
  | B :: l, m, 0, A, A', h, hlt, hi, hA => by
    obtain rfl : B = A := by simpa using hi
    obtain ⟨h1, h2⟩ := List.pairwise_cons.1 h
    rw [List.set_cons_zero]
    refine List.pairwise_cons.2 ⟨fun C hC x hx hx' => ?_, h2⟩
    rcases hA x hx with hx | hx
    · exact h1 C hC x hx hx'
    · have := hlt C (by simp [hC]) x hx'
      omega
  | B :: l, m, i + 1, A, A', h, hlt, hi, hA => by
    obtain ⟨h1, h2⟩ := List.pairwise_cons.1 h
    rw [List.set_cons_succ]
    have hi' : l[i]? = some A := by simpa using hi
    refine List.pairwise_cons.2 ⟨fun C hC x hx hx' => ?_, Sep.set l m i A A' h2 (fun D hD => hlt D (by simp [hD])) hi' hA⟩
    rcases List.mem_or_eq_of_mem_set hC with hC | rfl
    · exact h1 C hC x hx hx'
    · rcases hA x hx' with hx' | hx'
      · exact h1 A (List.mem_of_getElem? hi') x hx hx'
      · have := hlt B (by simp) x hx
        omega
/-- A pair of tables of the program and two of the document. -/
structure PS where
  P : Nat
  T0 : TT
  T1 : TT
  R0 : RT
  R1 : RT
  left : Int
def PS.parts (S : PS) : List (List Nat) := [[S.P], S.T0.blocks, S.T1.blocks, S.R0.blocks, S.R1.blocks]
def PS.cs (S : PS) : List Value := pairCs S.T0.t S.T1.t S.R0.t S.R1.t S.left
structure PS.Bs (S : PS) (W : World) (base : Nat) : Prop where
  hold : Holds W S.P S.cs
  t0 : S.T0.Is W
  t1 : S.T1.Is W
  r0 : S.R0.Is W
  r1 : S.R1.Is W
  sep : S.parts.Pairwise Dis
  low : ∀ B ∈ S.parts, ∀ b ∈ B, base ≤ b
  four : 4 ≤ base
  size : base ≤ W.heap.size
structure PS.Is (S : PS) (W : World) (base N : Nat) : Prop where
  bs : S.Bs W base
  rel0 : Rel S.T0 S.R0
  rel1 : Rel S.T1 S.R1
  last : S.T0.last ≤ N ∧ S.T1.last ≤ N
  nx : 0 ≤ S.R0.nx ∧ S.R0.nx ≤ N ∧ 0 ≤ S.R1.nx ∧ S.R1.nx ≤ N
theorem PS.Bs.lt {S : PS} {W : World} {base : Nat} (h : S.Bs W base) : ∀ B ∈ S.parts, ∀ b ∈ B, b < W.heap.size := by
  intro B hB b hb
  simp only [PS.parts, List.mem_cons, List.not_mem_nil, or_false] at hB
  rcases hB with rfl | rfl | rfl | rfl | rfl
  · obtain rfl : b = S.P := by simpa using hb
    exact h.hold.lt (by simp [PS.cs, pairCs])
  · exact h.t0.lt b hb
  · exact h.t1.lt b hb
  · exact h.r0.lt b hb
  · exact h.r1.lt b hb
theorem PS.Is.mono {S : PS} {W : World} {base N M : Nat} (h : S.Is W base N) (hM : N ≤ M) : S.Is W base M :=
  ⟨h.bs, h.rel0, h.rel1, ⟨Nat.le_trans h.last.1 hM, Nat.le_trans h.last.2 hM⟩, ⟨h.nx.1, by have := h.nx.2.1; omega, h.nx.2.2.1, by have := h.nx.2.2.2; omega⟩⟩
theorem PS.Bs.on {S : PS} {W W' : World} {base : Nat} (h : S.Bs W base) (hb : Below W.heap.size W W') : S.Bs W' base :=
  ⟨h.hold.block (hb.block _ (h.lt [S.P] (by simp [PS.parts]) S.P (by simp))), h.t0.on hb, h.t1.on hb, h.r0.on hb, h.r1.on hb, h.sep, h.low, h.four, Nat.le_trans h.size hb.size⟩
theorem PS.Is.on {S : PS} {W W' : World} {base N : Nat} (h : S.Is W base N) (hb : Below W.heap.size W W') : S.Is W' base N :=
  ⟨h.bs.on hb, h.rel0, h.rel1, h.last, h.nx⟩
theorem PS.Bs.drew {S : PS} {W : World} {base : Nat} (h : S.Bs W base) : S.Bs W.drew base :=
  ⟨h.hold.block rfl, h.t0.drew, h.t1.drew, h.r0.drew, h.r1.drew, h.sep, h.low, h.four, h.size⟩
theorem PS.Is.drew {S : PS} {W : World} {base N : Nat} (h : S.Is W base N) : S.Is W.drew base N :=
  ⟨h.bs.drew, h.rel0, h.rel1, h.last, h.nx⟩
section
variable {S : PS} {W : World} {base N : Nat}
theorem PS.Bs.d (h : S.Bs W base) (i j : Nat) (A B : List Nat) (hi : S.parts[i]? = some A) (hj : S.parts[j]? = some B) (hij : i < j) : Dis A B := by
  have hil := (List.getElem?_eq_some_iff.1 hi)
  have hjl := (List.getElem?_eq_some_iff.1 hj)
  have := List.pairwise_iff_getElem.1 h.sep i j hil.1 hjl.1 hij
  rw [hil.2, hjl.2] at this
  exact this
theorem PS.Bs.four0 (h : S.Bs W base) : ∀ b ∈ S.T0.blocks, 4 ≤ b := fun b hb => Nat.le_trans h.four (h.low _ (by simp [PS.parts]) b hb)
theorem PS.Is.live0 (h : S.Is W base N) : S.T0.live.length ≤ N := by
  have h2 := S.T0.live_le
  have h3 := h.bs.t0.len
  have h4 := h.last.1
  omega
theorem PS.Is.live1 (h : S.Is W base N) : S.T1.live.length ≤ N := by
  have h2 := S.T1.live_le
  have h3 := h.bs.t1.len
  have h4 := h.last.2
  omega
theorem PS.Is.es0 (h : S.Is W base N) : S.R0.es.length ≤ N := by
  have h1 := h.rel0.len
  have h2 := h.live0
  omega
theorem PS.Is.es1 (h : S.Is W base N) : S.R1.es.length ≤ N := by
  have h1 := h.rel1.len
  have h2 := h.live1
  omega
end
/-- What a call may have done to the pair: its own blocks alone are others. -/
structure Went (S S' : PS) (w w' : World) : Prop where
  P : S'.P = S.P
  fr : Fr w w' S.parts.flatten
  new : ∀ b ∈ S'.parts.flatten, b ∈ S.parts.flatten ∨ w.heap.size ≤ b
theorem Went.refl (S : PS) {w w' : World} (h : Below w.heap.size w w') : Went S S w w' := ⟨rfl, Fr.of_below h _, fun b hb => .inl hb⟩
theorem Went.trans {S S' S'' : PS} {w w' w'' : World} (h : Went S S' w w') (k : Went S' S'' w' w'') : Went S S'' w w'' :=
  ⟨k.P.trans h.P, h.fr.trans k.fr (fun b hb => h.new b hb), fun b hb => by
    rcases k.new b hb with hb | hb
    · exact h.new b hb
    · exact .inr (Nat.le_trans h.fr.size hb)⟩
theorem Went.below {S S' : PS} {w w' W : World} {base : Nat} (h : Went S S' w w') (hS : S.Bs W base) (hz : base ≤ w.heap.size) : Below base w w' :=
  ⟨h.fr.os, h.fr.tape, h.fr.output, h.fr.size, fun b hb => h.fr.block b (Nat.lt_of_lt_of_le hb hz) (fun he => by
    obtain ⟨B, hB, hbB⟩ := List.mem_flatten.1 he
    have := hS.low B hB b hbB
    omega)⟩
/-- The first table is another one: what was done to it touched its own blocks alone. -/
theorem PS.Bs.table0 {S : PS} {W W' : World} {base : Nat} (h : S.Bs W base) {T' : TT} (hT : T'.Is W') (ht : T'.t = S.T0.t) (hf : Fr W W' S.T0.blocks) (hb : ∀ b ∈ T'.blocks, b ∈ S.T0.blocks ∨ W.heap.size ≤ b) :
    PS.Bs { S with T0 := T' } W' base ∧ Went S { S with T0 := T' } W W' := by
  have hP : S.P ∉ S.T0.blocks := h.d 0 1 _ _ rfl rfl (by omega) S.P (by simp)
  have hs := Sep.set S.parts W.heap.size 1 S.T0.blocks T'.blocks h.sep h.lt rfl hb
  have hn : ∀ b ∈ (PS.parts { S with T0 := T' }).flatten, b ∈ S.parts.flatten ∨ W.heap.size ≤ b := by
    intro b hb'
    simp only [PS.parts, List.flatten_cons, List.flatten_nil, List.mem_append, List.append_nil] at hb' ⊢
    rcases hb' with h1 | h1 | h1
    · exact .inl (.inl h1)
    · rcases hb b h1 with h1 | h1
      · exact .inl (.inr (.inl h1))
      · exact .inr h1
    · exact .inl (.inr (.inr h1))
  refine ⟨⟨?_, hT, h.t1.fr hf (h.d 1 2 _ _ rfl rfl (by omega)).symm, h.r0.fr hf (h.d 1 3 _ _ rfl rfl (by omega)).symm, h.r1.fr hf (h.d 1 4 _ _ rfl rfl (by omega)).symm, hs, ?_, h.four, Nat.le_trans h.size hf.size⟩, rfl, hf.mono (fun b hb => .inl ?_), hn⟩
  · unfold PS.cs
    simp only [ht]
    exact h.hold.block (hf.block _ (h.lt [S.P] (by simp [PS.parts]) S.P (by simp)) hP)
  · intro B hB b hbB
    rcases hn b (List.mem_flatten.2 ⟨B, hB, hbB⟩) with h1 | h1
    · obtain ⟨C, hC, hbC⟩ := List.mem_flatten.1 h1
      exact h.low C hC b hbC
    · exact Nat.le_trans h.size h1
  · exact List.mem_flatten.2 ⟨S.T0.blocks, by simp [PS.parts], hb⟩
/-- The document's first table is another one. -/
theorem PS.Bs.doc0 {S : PS} {W W' : World} {base : Nat} (h : S.Bs W base) {R' : RT} (hT : R'.Is W') (ht : R'.t = S.R0.t) (hf : Fr W W' S.R0.blocks) (hb : ∀ b ∈ R'.blocks, b ∈ S.R0.blocks ∨ W.heap.size ≤ b) :
    PS.Bs { S with R0 := R' } W' base ∧ Went S { S with R0 := R' } W W' := by
  have hP : S.P ∉ S.R0.blocks := h.d 0 3 _ _ rfl rfl (by omega) S.P (by simp)
  have hs := Sep.set S.parts W.heap.size 3 S.R0.blocks R'.blocks h.sep h.lt rfl hb
  have hn : ∀ b ∈ (PS.parts { S with R0 := R' }).flatten, b ∈ S.parts.flatten ∨ W.heap.size ≤ b := by
    intro b hb'
    simp only [PS.parts, List.flatten_cons, List.flatten_nil, List.mem_append, List.append_nil] at hb' ⊢
    rcases hb' with h1 | h1 | h1 | h1 | h1
    · exact .inl (.inl h1)
    · exact .inl (.inr (.inl h1))
    · exact .inl (.inr (.inr (.inl h1)))
    · rcases hb b h1 with h1 | h1
      · exact .inl (.inr (.inr (.inr (.inl h1))))
      · exact .inr h1
    · exact .inl (.inr (.inr (.inr (.inr h1))))
  refine ⟨⟨?_, h.t0.fr hf (h.d 1 3 _ _ rfl rfl (by omega)), h.t1.fr hf (h.d 2 3 _ _ rfl rfl (by omega)), hT, h.r1.fr hf (h.d 3 4 _ _ rfl rfl (by omega)).symm, hs, ?_, h.four, Nat.le_trans h.size hf.size⟩, rfl, hf.mono (fun b hb => .inl ?_), hn⟩
  · unfold PS.cs
    simp only [ht]
    exact h.hold.block (hf.block _ (h.lt [S.P] (by simp [PS.parts]) S.P (by simp)) hP)
  · intro B hB b hbB
    rcases hn b (List.mem_flatten.2 ⟨B, hB, hbB⟩) with h1 | h1
    · obtain ⟨C, hC, hbC⟩ := List.mem_flatten.1 h1
      exact h.low C hC b hbC
    · exact Nat.le_trans h.size h1
  · exact List.mem_flatten.2 ⟨S.R0.blocks, by simp [PS.parts], hb⟩
def errOf (k : KK) : Int := if goodK k then 0 else 5
/-- What Put makes of the document's table. -/
def PutR (R : RT) (k : KK) (d : DD) (R' : RT) : Prop := (goodK k = false ∧ R' = R) ∨ (goodK k = true ∧ ∃ a x b, R.es = a ++ x :: b ∧ R.find k = some a.length ∧ R'.es = a ++ ⟨x.k, d, x.n⟩ :: b) ∨ (goodK k = true ∧ R.find k = none ∧ R'.es = R.es ++ [⟨k, d, R.nx⟩])
theorem refPut13 (R : RT) (k : KK) (d : DD) (w : World) (hR : R.Is w) (hl : R.es.length ≤ 100000) (hnx : 0 ≤ R.nx ∧ R.nx < 1000000) : Calls Tryz.prog 13 #[.pointer (some ⟨R.t, 0, none⟩), k.agg, d.agg] w fun e w' => e = .returned (.int .i64 (errOf k)) ∧ ∃ R' : RT, R'.Is w' ∧ R'.t = R.t ∧ Fr w w' R.blocks ∧ (∀ b ∈ R'.blocks, b ∈ R.blocks ∨ w.heap.size ≤ b) ∧ (R'.nx = R.nx ∨ R'.nx = R.nx + 1) ∧ PutR R k d R' := by
  cases hg : goodK k with
  | false =>
    have e : errOf k = 5 := by unfold errOf; rw [hg]; rfl
    rw [e]
    refine (refPut_bad R k d w hR hl hg).mono ?_
    rintro e' w' ⟨rfl, h1, h2⟩
    exact ⟨rfl, R, h1, rfl, h2, fun b hb => .inl hb, .inl rfl, .inl ⟨hg, rfl⟩⟩
  | true =>
    have e : errOf k = 0 := by unfold errOf; rw [hg]; rfl
    rw [e]
    cases hf : R.find k with
    | some i =>
      obtain ⟨hi, hk⟩ := RT.find_lt hf
      have he : R.es = R.es.take i ++ R.es[i] :: R.es.drop (i + 1) := by simp
      have hl2 : (R.es.take i).length = i := by simp; omega
      refine (refPut_some R k d w hR hl hg (R.es.take i) (R.es.drop (i + 1)) R.es[i] he (by rw [hl2]; exact hf)).mono ?_
      rintro e' w' ⟨rfl, h1, h2⟩
      exact ⟨rfl, _, h1, rfl, h2, fun b hb => .inl hb, .inl rfl, .inr (.inl ⟨hg, _, _, _, he, by rw [hl2]; exact hf, rfl⟩)⟩
    | none =>
      refine (refPut_none R k d w hR hl hnx hg hf).mono ?_
      rintro e' w' ⟨rfl, lv, h1, h2, h3⟩
      refine ⟨rfl, _, h1, rfl, h2, fun b hb => ?_, .inr rfl, .inr (.inr ⟨hg, hf, rfl⟩)⟩
      simp only [RT.blocks, List.mem_cons] at hb ⊢
      rcases hb with rfl | hb
      · exact .inl (.inl rfl)
      · rcases h3 b (by simpa using hb) with h4 | h4
        · exact .inl (.inr (by simp [h4]))
        · exact .inr h4
/-- What Put makes of the program's table. -/
def PutT (T : TT) (k : KK) (d : DD) (T' : TT) : Prop := (∃ r, T.find k = some r ∧ T' = T.upd r.b d) ∨ (T.find k = none ∧ goodK k = true ∧ ∃ rv R, T' = T.added rv R k d) ∨ (T.find k = none ∧ goodK k = false ∧ T' = T)
theorem Rel.es {T : TT} {t t' : Nat} {lv lv' : Value} {es es' : List EE} {nx nx' : Int} (h : Rel T ⟨t, lv, es, nx⟩) (he : es' = es) : Rel T ⟨t', lv', es', nx'⟩ := by
  subst he
  exact h
theorem rel_put {T T' : TT} {R R' : RT} {W : World} {k : KK} {d : DD} (h : Rel T R) (hT : T.Is W) (hp : PutT T k d T') (hq : PutR R k d R') : Rel T' R' := by
  have hs := h.some k
  rcases hp with ⟨r, h1, rfl⟩ | ⟨h1, h2, rv, B, rfl⟩ | ⟨h1, h2, rfl⟩
  · have hg : goodK k = true := by
      have := hT.good r (List.mem_of_find?_eq_some h1)
      rwa [(TT.find_mem h1).2.2] at this
    rcases hq with ⟨h3, _⟩ | ⟨_, a, x, b, h3, h4, h5⟩ | ⟨_, h3, _⟩
    · rw [h3] at hg; cases hg
    · exact (h.upd hT h1 h3 h4 R'.t R'.lv d R'.nx).es h5
    · rw [h1, h3] at hs; cases hs
  · rcases hq with ⟨h3, _⟩ | ⟨_, a, x, b, h3, h4, h5⟩ | ⟨_, h3, h4⟩
    · rw [h3] at h2; cases h2
    · rw [h1, h4] at hs; cases hs
    · exact (h.added rv R'.lv B R'.t k d R.nx R'.nx).es h4
  · rcases hq with ⟨h3, rfl⟩ | ⟨h3, _⟩ | ⟨h3, _⟩
    · exact h
    · rw [h3] at h2; cases h2
    · rw [h3] at h2; cases h2
theorem PutT.last {T T' : TT} {k : KK} {d : DD} (h : PutT T k d T') : T'.last ≤ T.last + 1 := by
  rcases h with ⟨r, h1, rfl⟩ | ⟨h1, h2, rv, B, rfl⟩ | ⟨h1, h2, rfl⟩
  · exact Nat.le_succ _
  · exact Nat.le_refl _
  · exact Nat.le_succ _
end Go.Proofs.YtpbdidnphkkenaaGreatDoor

/-! Nh -/
namespace Go.Proofs.YtpbdidnphkkenaaGreatDoor
open Go Go.Proofs Go.Maps Go.RowKit
set_option linter.unusedSimpArgs false
set_option linter.unusedVariables false
set_option maxHeartbeats 1000000
def actCs (kd : Int) (k : KK) (d : DD) (n : Int) (inner : Value) : List Value := .int .i64 kd :: (k.cs ++ (d.cs ++ [.int .i64 n, inner]))
def actV (kd : Int) (k : KK) (d : DD) (n : Int) (inner : Value) : Value := .agg (actCs kd k d n inner).toArray
theorem num11 (n : Int) (h : 0 ≤ n ∧ n ≤ 1000) (w : World) : Calls Tryz.prog 11 #[.int .i64 n] w fun e w' => e = .returned (.int .i64 n) ∧ Below w.heap.size w w' := by
  have hw : IntKind.i64.wrap n = n := by rw [IntKind.wrap_i64]; omega
  go_enter Tryz.func11, Tryz.ntmps11
  go_wp2
  go_ret
  exact ⟨rfl, Below.refl _ _⟩
theorem eqlI (n : Int) (w : World) : (binOp .eql 3 (.int .i64 n) (.int .i64 n)).run Tryz.prog w = .ok (.bool true) w := by
  simp [go_sem]
theorem errOf_le (k : KK) : 0 ≤ errOf k ∧ errOf k ≤ 1000 := by
  unfold errOf
  split <;> decide
theorem gcallR {md : Region.Mode} {ops : Array Oper} {Q : Exit → Act → World → Prop} {S : World → Prop} {w : World} {fuel : Nat} {listed : Array Bool} {a : Act} {o : Oper} (i : Nat) (dst : Option Tmp) {f : FuncId} {args : Array Value} {R : Ending → World → Prop} {rs : List Nat} (hi : ops[i]? = some o) (hd : o.dst = dst) (hw : Region.wanted o (yielded ops a.tmps) = true)
    (he : (execOp a.eval o).run Tryz.prog w = .ok (.enter f args) w) (hC : Calls Tryz.prog f args w R)
    (h : ∀ e X, R e X → ∃ V, e = .returned V ∧ S X ∧ wpAnyH Tryz.prog md ops Q S fuel (listed.setIfInBounds i true) (a.put dst V) X) (hs : AllReadyH Tryz.prog md ops Q S fuel listed a w rs) : AllReadyH Tryz.prog md ops Q S fuel listed a w (i :: rs) := by
  subst hd
  refine AllReadyH.cons hi (fun K hK => ?_) hs
  rw [if_pos hw]
  unfold Oper.wp
  rw [he, Oper.upon_enter]
  refine hC.mono ?_
  intro e X hR
  obtain ⟨V, rfl, hSX, hV⟩ := h e X hR
  exact hK.out _ _ hSX (fun _ => hV)
theorem row41 : ∃ d, Tryz.prog.underlying 41 = some d ∧ d.isRow = true := ⟨_, Tryz.underlying41, rfl⟩
theorem siz41 : (Tryz.prog.info? 41).map (·.size) = some 23 := by kernel_rfl
theorem put12e (T : TT) (k : KK) (d : DD) (w : World) (hT : T.Is w) (hU : Lib.Utf8Tabs 2 3 w) (hk : OkK k) (hl : T.last < 1000000) (hTT : ∀ b ∈ T.blocks, 4 ≤ b) : Calls Tryz.prog 12 #[.pointer (some ⟨T.t, 0, none⟩), k.agg, d.agg] w fun e w' => e = .returned (.int .i64 (errOf k)) ∧ ∃ T' : TT, T'.Is w' ∧ T'.t = T.t ∧ Fr w w' T.blocks ∧ (∀ b ∈ T'.blocks, b ∈ T.blocks ∨ w.heap.size ≤ b) ∧ PutT T k d T' := put12 T k d w hT hU hk hl hTT
theorem below_dr {n : Nat} {a w : World} (h : Below n a w) : Below n a w.drew := ⟨h.os, h.tape, h.output, h.size, h.block⟩
set_option maxRecDepth 100000 in
theorem play_put (S : PS) (k : KK) (d : DD) (nn : Int) (inner : Value) (dep : Int) (w : World) (base N : Nat) (hS : S.Is w base N) (hN : N < 3000) (hU : Lib.Utf8Tabs 2 3 w) (hk : OkK k) : Calls Tryz.prog 8 #[.pointer (some ⟨S.P, 0, none⟩), actV 1 k d nn inner, .int .i64 dep] w fun e w' => e = .returned (.bool true) ∧ ∃ S', S'.Is w' base (N + 1) ∧ Went S S' w w' := by
  have HU := hide (And.intro hU hk)
  clear hU hk
  have HP := hide hS.bs.hold
  have HLT := hide hS.bs.lt
  have HS := hide hS
  clear hS
  unfold actV
  go_enter Tryz.func8, Tryz.ntmps8
  go_wp2_with (first | go_skip | (refine bx 41 (actCs 1 k d nn inner) (by rfl) rfl rfl rfl (Nat.succ_pos _) (Hq.nil w []) ?_; intro w1 B hB L1 hb1; replace HP := hide ((unhide HS).bs.on hb1).hold; replace HS := hide ((unhide HS).on hb1); have LL := hide L1; have HB1 := hide hb1; have HB := hide hB; clear hB L1 hb1; simp only [Act.put, List.setIfInBounds_toArray, List.set_cons_succ, List.set_cons_zero]) | (refine rd (by rfl) (ex_load1 26 Tryz.isAgg26 rfl rfl (unhide HP) rfl) ?_; simp only [Act.put, List.setIfInBounds_toArray, List.set_cons_succ, List.set_cons_zero]) | (refine rd (by rfl) (ex_load1 28 Tryz.isAgg28 rfl rfl (unhide HP) rfl) ?_; simp only [Act.put, List.setIfInBounds_toArray, List.set_cons_succ, List.set_cons_zero]) | (refine rd (by rfl) (ex_load1 3 Tryz.isAgg3 rfl rfl ((unhide LL).get 0 rfl) rfl) ?_; simp only [Act.put, List.setIfInBounds_toArray, List.set_cons_succ, List.set_cons_zero]))
  refine wp_region_held_drew (P := Tryz.prog) (S := fun X => Holds X B (actCs 1 k d nn inner)) (by kernel_rfl) (((unhide LL).get 0 rfl).block rfl) (fun hS0 => ?_)
  refine gsem 0 (some 32) (.pointer (some ⟨S.T0.t, 0, none⟩)) rfl (by kernel_rfl) (by kernel_rfl) (by kernel_rfl) (fun _ _ _ h => h) (by kernel_rfl) (by kernel_rfl) (fun _ _ => by kernel_rfl) hS0 ?_
  simp only [Act.put, List.setIfInBounds_toArray, List.set_cons_succ, List.set_cons_zero]
  refine gsem 1 (some 33) (.pointer (some ⟨B, 1, none⟩)) rfl (by kernel_rfl) (by kernel_rfl) (by kernel_rfl) (fun _ _ _ h => h) (by kernel_rfl) (by kernel_rfl) (fun _ _ => by kernel_rfl) hS0 ?_
  simp only [Act.put, List.setIfInBounds_toArray, List.set_cons_succ, List.set_cons_zero]
  refine gsem 2 (some 34) (k.agg) rfl (by kernel_rfl) (by kernel_rfl) (by kernel_rfl) (fun _ _ _ h => h) (by kernel_rfl) (by kernel_rfl) (fun X hX => ex_loadN (vs := k.cs) 33 2 row33x siz33 rfl rfl (hX) rfl rfl) hS0 ?_
  simp only [Act.put, List.setIfInBounds_toArray, List.set_cons_succ, List.set_cons_zero]
  refine gsem 3 (some 35) (.pointer (some ⟨B, 3, none⟩)) rfl (by kernel_rfl) (by kernel_rfl) (by kernel_rfl) (fun _ _ _ h => h) (by kernel_rfl) (by kernel_rfl) (fun _ _ => by kernel_rfl) hS0 ?_
  simp only [Act.put, List.setIfInBounds_toArray, List.set_cons_succ, List.set_cons_zero]
  refine gsem 4 (some 36) (d.agg) rfl (by kernel_rfl) (by kernel_rfl) (by kernel_rfl) (fun _ _ _ h => h) (by kernel_rfl) (by kernel_rfl) (fun X hX => ex_loadN (vs := d.cs) 39 18 row39 siz39 rfl rfl (hX) rfl rfl) hS0 ?_
  simp only [Act.put, List.setIfInBounds_toArray, List.set_cons_succ, List.set_cons_zero]
  refine gsem 7 (some 39) (.pointer (some ⟨S.R0.t, 0, none⟩)) rfl (by kernel_rfl) (by kernel_rfl) (by kernel_rfl) (fun _ _ _ h => h) (by kernel_rfl) (by kernel_rfl) (fun _ _ => by kernel_rfl) hS0 ?_
  simp only [Act.put, List.setIfInBounds_toArray, List.set_cons_succ, List.set_cons_zero]
  refine gsem 8 (some 40) (.pointer (some ⟨B, 1, none⟩)) rfl (by kernel_rfl) (by kernel_rfl) (by kernel_rfl) (fun _ _ _ h => h) (by kernel_rfl) (by kernel_rfl) (fun _ _ => by kernel_rfl) hS0 ?_
  simp only [Act.put, List.setIfInBounds_toArray, List.set_cons_succ, List.set_cons_zero]
  refine gsem 9 (some 41) (k.agg) rfl (by kernel_rfl) (by kernel_rfl) (by kernel_rfl) (fun _ _ _ h => h) (by kernel_rfl) (by kernel_rfl) (fun X hX => ex_loadN (vs := k.cs) 33 2 row33x siz33 rfl rfl (hX) rfl rfl) hS0 ?_
  simp only [Act.put, List.setIfInBounds_toArray, List.set_cons_succ, List.set_cons_zero]
  refine gsem 10 (some 42) (.pointer (some ⟨B, 3, none⟩)) rfl (by kernel_rfl) (by kernel_rfl) (by kernel_rfl) (fun _ _ _ h => h) (by kernel_rfl) (by kernel_rfl) (fun _ _ => by kernel_rfl) hS0 ?_
  simp only [Act.put, List.setIfInBounds_toArray, List.set_cons_succ, List.set_cons_zero]
  refine gsem 11 (some 43) (d.agg) rfl (by kernel_rfl) (by kernel_rfl) (by kernel_rfl) (fun _ _ _ h => h) (by kernel_rfl) (by kernel_rfl) (fun X hX => ex_loadN (vs := d.cs) 39 18 row39 siz39 rfl rfl (hX) rfl rfl) hS0 ?_
  simp only [Act.put, List.setIfInBounds_toArray, List.set_cons_succ, List.set_cons_zero]
  have h1 := (unhide HS).drew
  have hz := (unhide HS).last.1
  have hes := (unhide HS).es0
  have hnx := (unhide HS).nx
  refine wpAnyH_ready (rs := [5]) (by kernel_rfl) (by simp) (gcallR 5 (some 37) rfl (by kernel_rfl) (by kernel_rfl) (by kernel_rfl) (put12e S.T0 k d w1.drew h1.bs.t0 (tabs_fr (unhide HU).1 (Fr.of_below (below_dr (unhide HB1)) []) (by simp)) (unhide HU).2 (by omega) h1.bs.four0) ?_ AllReadyH.nil)
  rintro _ w2 ⟨rfl, T', hT', ht, hf, hb, hp⟩
  have hBS : B < w1.drew.heap.size := hS0.lt (Nat.succ_pos _)
  have hB2 : B ∉ S.T0.blocks := fun h => by
    have := (unhide HLT) S.T0.blocks (by simp [PS.parts]) B h
    have e := unhide HB
    omega
  have hB3 : B ∉ S.R0.blocks := fun h => by
    have := (unhide HLT) S.R0.blocks (by simp [PS.parts]) B h
    have e := unhide HB
    omega
  have hS2 : Holds w2 B (actCs 1 k d nn inner) := hS0.block (hf.block B hBS hB2)
  obtain ⟨hbs2, hwn2⟩ := h1.bs.table0 hT' ht hf hb
  refine ⟨_, rfl, hS2, ?_⟩
  simp only [Act.put, List.setIfInBounds_toArray, List.set_cons_succ, List.set_cons_zero]
  refine wpAnyH_ready (rs := [6]) (by kernel_rfl) (by simp) (gcallR 6 (some 38) rfl (by kernel_rfl) (by kernel_rfl) (by kernel_rfl) (num11 (errOf k) (errOf_le k) w2) ?_ AllReadyH.nil)
  rintro _ w3 ⟨rfl, hb3⟩
  have hS3 : Holds w3 B (actCs 1 k d nn inner) := hS2.block (hb3.block B (hS2.lt (Nat.succ_pos _)))
  have hbs3 := hbs2.on hb3
  refine ⟨_, rfl, hS3, ?_⟩
  simp only [Act.put, List.setIfInBounds_toArray, List.set_cons_succ, List.set_cons_zero]
  refine wpAnyH_ready (rs := [12]) (by kernel_rfl) (by simp) (gcallR 12 (some 44) rfl (by kernel_rfl) (by kernel_rfl) (by kernel_rfl) (refPut13 S.R0 k d w3 hbs3.r0 (by omega) ⟨hnx.1, by omega⟩) ?_ AllReadyH.nil)
  rintro _ w4 ⟨rfl, R', hR', htr, hfr, hbr, hnr, hq⟩
  obtain ⟨hbs4, hwn4⟩ := hbs3.doc0 hR' htr hfr hbr
  have hS4 : Holds w4 B (actCs 1 k d nn inner) := hS3.block (hfr.block B (hS3.lt (Nat.succ_pos _)) hB3)
  have FIN : Hid (∃ S', PS.Is S' w4 base (N + 1) ∧ Went S S' w w4) := hide ⟨_, ⟨hbs4, rel_put h1.rel0 h1.bs.t0 hp hq, h1.rel1, ⟨Nat.le_trans hp.last (by omega), Nat.le_trans h1.last.2 (Nat.le_succ _)⟩, ⟨by rcases hnr with e | e <;> (show 0 ≤ R'.nx; omega), by rcases hnr with e | e <;> (show R'.nx ≤ ((N + 1 : Nat) : Int); omega), hnx.2.2.1, by have := hnx.2.2.2; show S.R1.nx ≤ ((N + 1 : Nat) : Int); omega⟩⟩, (Went.refl S (below_dr (unhide HB1))).trans (hwn2.trans ((Went.refl _ hb3).trans hwn4))⟩
  refine ⟨_, rfl, hS4, ?_⟩
  clear hbs4 hwn4 hR' htr hfr hbr hnr hq hbs3 hS3 hb3 hbs2 hwn2 hS2 hT' ht hf hb hp hBS hB2 hB3 hz hes hnx h1 hS0
  simp only [Act.put, List.setIfInBounds_toArray, List.set_cons_succ, List.set_cons_zero]
  refine gbin 13 (some 45) (b := .eql) (t := 3) (t2 := 3) (x := .tmp 38) (y := .tmp 44) (vx := .int .i64 (errOf k)) (vy := .int .i64 (errOf k)) (.bool true) rfl (by kernel_rfl) (by kernel_rfl) (by kernel_rfl) (fun _ _ _ h => h) (by kernel_rfl) (by kernel_rfl) (by kernel_rfl) (by kernel_rfl) (by kernel_rfl) (fun w => eqlI (errOf k) w) (fun _ => by kernel_rfl) hS4 ?_
  simp only [Act.put, List.setIfInBounds_toArray, List.set_cons_succ, List.set_cons_zero]
  refine gsem 14 (some 6) (.bool true) rfl (by kernel_rfl) (by kernel_rfl) (by kernel_rfl) (fun _ _ _ h => h) (by kernel_rfl) (by kernel_rfl) (fun _ _ => by kernel_rfl) hS4 ?_
  simp only [Act.put, List.setIfInBounds_toArray, List.set_cons_succ, List.set_cons_zero]
  refine wpAnyH_done (by kernel_rfl) ?_ _
  try simp only [Act.put, List.setIfInBounds_toArray, List.set_cons_succ, List.set_cons_zero]
  clear hS4
  go_wp2
  go_ret
  exact ⟨rfl, unhide FIN⟩
end Go.Proofs.YtpbdidnphkkenaaGreatDoor

/-! Ni -/
namespace Go.Proofs.YtpbdidnphkkenaaGreatDoor
open Go Go.Proofs Go.Maps Go.RowKit
set_option linter.unusedSimpArgs false
set_option linter.unusedVariables false
set_option maxHeartbeats 1000000
set_option maxRecDepth 100000 in
theorem play_get (S : PS) (k : KK) (d : DD) (nn : Int) (inner : Value) (dep : Int) (w : World) (base N : Nat) (hS : S.Is w base N) (hN : N < 3000) (hk : OkK k) : Calls Tryz.prog 8 #[.pointer (some ⟨S.P, 0, none⟩), actV 5 k d nn inner, .int .i64 dep] w fun e w' => e = .returned (.bool true) ∧ Below w.heap.size w w' := by
  have hr := hS.rel0.getD k
  have hr2 := hS.rel0.some k
  have hes := hS.es0
  obtain ⟨dd, hdd⟩ : ∃ dd, dd = getD S.T0 k := ⟨_, rfl⟩
  obtain ⟨ff, hff⟩ : ∃ ff, ff = (S.T0.find k).isSome := ⟨_, rfl⟩
  have C19 : Hid (∀ X, Below w.heap.size w X → Calls Tryz.prog 19 #[.pointer (some ⟨S.T0.t, 0, none⟩), k.agg] X fun e w' => e = .returned (.tuple #[dd.agg, .bool ff]) ∧ Below X.heap.size X w') := hide (fun X hX => by rw [hdd, hff]; exact get19 S.T0 k X (hS.bs.t0.on hX) hk)
  have C20 : Hid (∀ X, Below w.heap.size w X → Calls Tryz.prog 20 #[.pointer (some ⟨S.R0.t, 0, none⟩), k.agg] X fun e w' => e = .returned (.tuple #[dd.agg, .bool ff]) ∧ Below X.heap.size X w') := hide (fun X hX => by rw [hdd, hff, hr, hr2]; exact refGet20 S.R0 k X (hS.bs.r0.on hX) (by omega))
  clear hdd hff hr hr2 hes hk
  have HP := hide hS.bs.hold
  have HLT := hide hS.bs.lt
  have HS := hide hS
  clear hS
  unfold actV
  go_enter Tryz.func8, Tryz.ntmps8
  go_wp2_with (first | go_skip | (refine bx 41 (actCs 5 k d nn inner) (by rfl) rfl rfl rfl (Nat.succ_pos _) (Hq.nil w []) ?_; intro w1 B hB L1 hb1; replace HP := hide ((unhide HS).bs.on hb1).hold; replace HS := hide ((unhide HS).on hb1); have LL := hide L1; have HB1 := hide hb1; have HB := hide hB; clear hB L1 hb1; simp only [Act.put, List.setIfInBounds_toArray, List.set_cons_succ, List.set_cons_zero]) | (refine rd (by rfl) (ex_load1 26 Tryz.isAgg26 rfl rfl (unhide HP) rfl) ?_; simp only [Act.put, List.setIfInBounds_toArray, List.set_cons_succ, List.set_cons_zero]) | (refine rd (by rfl) (ex_load1 28 Tryz.isAgg28 rfl rfl (unhide HP) rfl) ?_; simp only [Act.put, List.setIfInBounds_toArray, List.set_cons_succ, List.set_cons_zero]) | (refine rd (by rfl) (ex_load1 3 Tryz.isAgg3 rfl rfl ((unhide LL).get 0 rfl) rfl) ?_; simp only [Act.put, List.setIfInBounds_toArray, List.set_cons_succ, List.set_cons_zero]) | (refine rd (by rfl) (ex_loadN (vs := k.cs) 33 2 row33x siz33 rfl rfl ((unhide LL).get 0 rfl) rfl rfl) ?_; simp only [Act.put, List.setIfInBounds_toArray, List.set_cons_succ, List.set_cons_zero]))
  refine ((unhide C19) w1 (unhide HB1)).mono ?_
  rintro _ w2 ⟨rfl, hb2⟩
  replace LL := hide ((unhide LL).on hb2)
  clear HS HP HB HB1 hb2
  have HG : Hid (w.heap.size ≤ w2.heap.size) := hide (unhide LL).fr.size
  unfold DD.agg
  go_wp2_with (first | go_skip | (refine al39 (by rfl) rfl (unhide LL) ?_; intro w3 B3 hB3 L3 hb3; replace LL := hide L3; replace HG : Hid (w.heap.size ≤ B3) := hide (hB3 ▸ unhide HG); clear L3 hB3 hb3; simp only [Act.put, List.setIfInBounds_toArray, List.set_cons_succ, List.set_cons_zero]) | (refine st (vs := dd.cs) 1 39 (by rfl) rfl rfl rfl rfl (by simp [DD.cs, VV.cs, Value.oneCell']) siz39 (unhide LL) rfl (by simp [dcs_length, zeroD, zeroV]) (Or.inr (unhide HG)) ?_; intro w3 L3 hf3 hs3; replace LL := hide L3; clear L3 hf3 hs3; simp only [Act.put, List.setIfInBounds_toArray, List.set_cons_succ, List.set_cons_zero]) | (refine rd (by rfl) (ex_loadN (vs := k.cs) 33 2 row33x siz33 rfl rfl ((unhide LL).get 0 rfl) rfl rfl) ?_; simp only [Act.put, List.setIfInBounds_toArray, List.set_cons_succ, List.set_cons_zero]))
  refine ((unhide C20) w3 (unhide LL).fr.below).mono ?_
  rintro _ w4 ⟨rfl, hb4⟩
  replace LL := hide ((unhide LL).on hb4)
  clear hb4
  replace HG : Hid (w.heap.size ≤ w4.heap.size) := hide (unhide LL).fr.size
  unfold DD.agg
  go_wp2_with (first | go_skip | (refine al39 (by rfl) rfl (unhide LL) ?_; intro w3 B3 hB3 L3 hb3; replace LL := hide L3; replace HG : Hid (w.heap.size ≤ B3) := hide (hB3 ▸ unhide HG); clear L3 hB3 hb3; simp only [Act.put, List.setIfInBounds_toArray, List.set_cons_succ, List.set_cons_zero]) | (refine st (vs := dd.cs) 2 39 (by rfl) rfl rfl rfl rfl (by simp [DD.cs, VV.cs, Value.oneCell']) siz39 (unhide LL) rfl (by simp [dcs_length, zeroD, zeroV]) (Or.inr (unhide HG)) ?_; intro w3 L3 hf3 hs3; replace LL := hide L3; clear L3 hf3 hs3; simp only [Act.put, List.setIfInBounds_toArray, List.set_cons_succ, List.set_cons_zero]) | (refine rd (by rfl) (ex_loadN (vs := dd.cs) 39 18 row39 siz39 rfl rfl ((unhide LL).get 1 rfl) rfl rfl) ?_; simp only [Act.put, List.setIfInBounds_toArray, List.set_cons_succ, List.set_cons_zero]) | (refine rd (by rfl) (ex_loadN (vs := dd.cs) 39 18 row39 siz39 rfl rfl ((unhide LL).get 2 rfl) rfl rfl) ?_; simp only [Act.put, List.setIfInBounds_toArray, List.set_cons_succ, List.set_cons_zero]))
  refine (sameDesc21 dd _).mono ?_
  rintro _ w5 ⟨rfl, hb5⟩
  replace LL := hide ((unhide LL).on hb5)
  clear hb5
  go_wp2
  go_ret
  exact ⟨rfl, (unhide LL).fr.below⟩
end Go.Proofs.YtpbdidnphkkenaaGreatDoor

/-! Oe -/
namespace Go.Proofs.YtpbdidnphkkenaaGreatDoor
open Go Go.Proofs Go.Maps Go.RowKit
set_option linter.unusedSimpArgs false
set_option linter.unusedVariables false
set_option maxHeartbeats 1000000
theorem ex_mm0 {o : Oper} {a : Act} {w : World} (ho : o.op = .makeMap 69 none) : (execOp a.eval o).run Tryz.prog w = .ok (.value (.map (some w.heap.size))) (w.alloc (.map #[] 0)) := by
  unfold execOp
  simp only [ho, Option.map_none]
  simp [run_makeMap]
theorem ex_build73 {o : Oper} {a : Act} {w : World} {x y : Operand} {M n : Nat} (ho : o.op = .build 73 #[(0, x), (2, y)]) (hx : a.eval x = .map (some M)) (hy : a.eval y = .int .u64 (n : Nat)) : (execOp a.eval o).run Tryz.prog w = .ok (.value (.agg [.map (some M), .slice none 0 0, .int .u64 (n : Nat)].toArray)) w := by
  have e : (Instr.build 73 #[(0, .map (some M)), (2, .int .u64 (n : Nat))]).run Tryz.prog w = .ok (.agg [.map (some M), .slice none 0 0, .int .u64 (n : Nat)].toArray) w := by kernel_rfl
  unfold execOp
  simp only [ho, List.map_toArray, List.map_cons, List.map_nil, hx, hy]
  simp [e]
theorem siz73 : (Tryz.prog.info? 73).map (·.size) = some 3 := by kernel_rfl
/-- What a call made of a table. -/
structure TT.To (T T' : TT) (w w' : World) : Prop where
  is : T'.Is w'
  t : T'.t = T.t
  last : T'.last = T.last
  fr : Fr w w' T.blocks
  new : ∀ b ∈ T'.blocks, b ∈ T.blocks ∨ w.heap.size ≤ b
theorem clear16 (T : TT) (w : World) (hT : T.Is w) : Calls Tryz.prog 16 #[.pointer (some ⟨T.t, 0, none⟩)] w fun e w' => e = .returned (.tuple #[]) ∧ ∃ T', TT.To T T' w w' ∧ T'.live = [] := by
  have HV : Hid (Holds w T.t [.map (some T.m), T.rv, .int .u64 T.last]) := hide hT.tab
  have HL := hide hT.lt
  have htl : T.t < w.heap.size := hT.lt T.t (by simp [TT.blocks])
  clear hT
  go_enter Tryz.func16, Tryz.ntmps16
  go_wp2_with (first | go_skip | ((with_reducible show wpList _ _ _ _ _ _); first | ((refine rd (by rfl) (ex_load1 71 Tryz.isAgg71 rfl rfl (unhide HV) rfl) ?_); simp only [Act.put, List.setIfInBounds_toArray, List.set_cons_succ, List.set_cons_zero]) | ((refine rd (by rfl) (ex_build73 rfl rfl rfl) ?_); simp only [Act.put, List.setIfInBounds_toArray, List.set_cons_succ, List.set_cons_zero]) | ((refine rdw (by rfl) (ex_mm0 rfl) ?_); obtain ⟨M, hM⟩ : ∃ M, M = w.heap.size := ⟨_, rfl⟩; obtain ⟨w2, hw2⟩ : ∃ w2, w2 = w.alloc (.map #[] 0) := ⟨_, rfl⟩; have HM := hide hM; have hb2 : Below w.heap.size w w2 := (by rw [hw2]; exact (Below.refl _ _).alloc (Nat.le_refl _) _); have HMP : Hid (MapIs w2 M 0 0 (fun _ => none)) := hide (by rw [hw2, hM]; exact MapIs.made w); rw [← hw2, ← hM]; replace HV := hide ((unhide HV).block (hb2.block T.t htl)); have HB2 := hide hb2; clear hw2 hM hb2; simp only [Act.put, List.setIfInBounds_toArray, List.set_cons_succ, List.set_cons_zero]) | ((with_reducible apply stx (t := 73) (b := T.t) (p := 0) (cs := [.map (some T.m), T.rv, .int .u64 T.last]) (vs := [.map (some M), .slice none 0 0, .int .u64 T.last]) (v := .agg [.map (some M), .slice none 0 0, .int .u64 T.last].toArray)); (case hw => rfl); (case ho => rfl); (case hx => rfl); (case hy => rfl); (case hv => exact rfl); (case h1 => exact (by simp [Value.oneCell'])); (case hi => exact siz73); (case hH => exact unhide HV); (case hp => exact (by simp)); (obtain ⟨w3, hw3⟩ : ∃ w3, w3 = w2.setCells T.t 0 [.map (some M), .slice none 0 0, .int .u64 T.last] := ⟨_, rfl⟩); (have HC : Hid (Holds w3 T.t [.map (some M), .slice none 0 0, .int .u64 T.last] ∧ MapIs w3 M 0 0 (fun _ => none) ∧ Fr w w3 [T.t]) := hide ⟨(by rw [hw3]; exact (unhide HV).put 0 [.map (some M), .slice none 0 0, .int .u64 T.last] (by simp)), (by rw [hw3]; exact (unhide HMP).block (heap_setCells _ _ _ _ _ (by have h1 := unhide HM; omega))), (by rw [hw3]; exact (Fr.of_below (unhide HB2) [T.t]).trans (Fr.setCells _ _ _ _) (fun b hb => .inl hb))⟩); rw [← hw3]; clear hw3; simp only [Act.put, List.setIfInBounds_toArray, List.set_cons_succ, List.set_cons_zero])))
  go_end0
  have hC := unhide HC
  refine ⟨rfl, ⟨T.t, M, .slice none 0 0, [], T.last⟩, ⟨⟨hC.1, ?_, OwnP.nil _, (fun r hr => by cases hr), ?_, List.Pairwise.nil, (fun r hr => by cases hr), List.Pairwise.nil, (fun r hr => by cases hr)⟩, rfl, rfl, hC.2.2.mono (fun b hb => .inl (by obtain rfl : b = T.t := (by simpa using hb); simp [TT.blocks])), ?_⟩, rfl⟩
  · exact hC.2.1.mono (Nat.zero_le _)
  · have : T.t ≠ M := by have := unhide HM; omega
    simp [TT.blocks, Value.ownBlock, this]
  · intro b hb
    have hM := unhide HM
    simp [TT.blocks, Value.ownBlock] at hb ⊢
    rcases hb with rfl | rfl
    · exact .inl (.inl rfl)
    · exact .inr (by omega)
/-- What a call made of the document's table. -/
structure RT.To (R R' : RT) (w w' : World) : Prop where
  is : R'.Is w'
  t : R'.t = R.t
  nx : R'.nx = R.nx
  fr : Fr w w' R.blocks
  new : ∀ b ∈ R'.blocks, b ∈ R.blocks ∨ w.heap.size ≤ b
theorem refClear17 (R : RT) (w : World) (hR : R.Is w) : Calls Tryz.prog 17 #[.pointer (some ⟨R.t, 0, none⟩)] w fun e w' => e = .returned (.tuple #[]) ∧ ∃ R', RT.To R R' w w' ∧ R'.es = [] := by
  have HV : Hid (Holds w R.t [R.lv, .int .i64 R.nx]) := hide hR.tab
  clear hR
  go_enter Tryz.func17, Tryz.ntmps17
  go_wp2_with (first | go_skip | ((with_reducible show wpList _ _ _ _ _ _); first | ((with_reducible apply stx (t := 46) (b := R.t) (p := 0) (cs := [R.lv, .int .i64 R.nx]) (vs := [.slice none 0 0]) (v := .slice none 0 0)); (case hw => rfl); (case ho => rfl); (case hx => rfl); (case hy => rfl); (case hv => exact rfl); (case h1 => exact (by simp [Value.oneCell'])); (case hi => exact siz46); (case hH => exact unhide HV); (case hp => exact (by simp)); simp only [Act.put, List.setIfInBounds_toArray, List.set_cons_succ, List.set_cons_zero])))
  go_end0
  have h1 := (unhide HV).put 0 [.slice none 0 0] (by simp)
  refine ⟨rfl, ⟨R.t, .slice none 0 0, [], R.nx⟩, ⟨⟨h1, ⟨rfl, .inl ⟨rfl, rfl⟩⟩, by simp [RT.blocks, Value.ownBlock]⟩, rfl, rfl, (Fr.setCells _ _ _ _).mono (fun b hb => .inl (by obtain rfl : b = R.t := (by simpa using hb); simp [RT.blocks])), ?_⟩, rfl⟩
  intro b hb
  simp [RT.blocks, Value.ownBlock] at hb ⊢
  exact .inl (.inl hb)
end Go.Proofs.YtpbdidnphkkenaaGreatDoor

/-! Of -/
namespace Go.Proofs.YtpbdidnphkkenaaGreatDoor
open Go Go.Proofs Go.Maps Go.RowKit
set_option linter.unusedSimpArgs false
set_option linter.unusedVariables false
set_option maxHeartbeats 1000000
theorem ex_appendG {a : Act} {w : World} {o : Oper} {t e : TypeId} {size bytes k m c B off base : Nat} {z v : Value} {xs news : List Value} {s x : Operand} (ho : o.op = .call { callee := .builtin .append, args := #[s, x], argTypes := #[t, t] }) (hs : a.eval s = v) (hx : a.eval x = .slice (some ⟨B, off, none⟩) m c)
    (ht : Tryz.prog.underlying t = some (.slice e)) (hi : (Tryz.prog.info? e).map (fun i => (i.zero, i.size, i.bytes)) = some (some z, size, bytes)) (hz : z.cells.size = size) (hsz : 0 < size) (hown : w.ownsRow base e size v k xs) (hB : w.rangeAt B off news) (hl : news.length = m * size) (h1 : ∀ u ∈ news, u.oneCell' = true)
    (hn : k + m ≤ 1000000) (hby : bytes ≤ 10000) (hbase : base ≤ w.heap.size) :
    ∃ A c' w', (execOp a.eval o).run Tryz.prog w = .ok (.value (.slice A (k + m) c')) w' ∧ w'.ownsRow base e size (.slice A (k + m) c') (k + m) (xs ++ news) ∧ w.grownBy w' v.ownBlock ∧ Fresh w v (.slice A (k + m) c') := by
  obtain ⟨i0, hi, hz0, hz1, hz2⟩ := info_parts hi
  obtain ⟨v', w', hrun, h2, h3, h4⟩ := append_fresh w base t o.type e i0 _ size bytes ht hi hz0 hz1 hz2 hz hsz v k xs hown ⟨B, off, none⟩ m c news hl (fun j u hj => by
    rw [Addr.add_mid]
    exact hB j u hj) h1 (by unfold maxLen; omega) (Nat.le_trans (Nat.mul_le_mul hn hby) (by decide)) hbase
  obtain ⟨A', c', rfl⟩ := own_form h2
  refine ⟨A', c', w', ?_, h2, h3, h4⟩
  simp [execOp, ho, resolve, invoke, builtin, hs, hx, hrun, Result.andThen]
theorem gappG {md : Region.Mode} {ops : Array Oper} {Q : Exit → Act → World → Prop} {S : World → Prop} {w : World} {fuel : Nat} {listed : Array Bool} {a : Act} {o : Oper} {rs : List Nat} (i : Nat) (dst : Option Tmp) {t e : TypeId} {size bytes k m c B off base : Nat} {z v : Value} {xs news : List Value} {s x : Operand} (hi0 : ops[i]? = some o) (hd : o.dst = dst) (hw : Region.wanted o (yielded ops a.tmps) = true) (ho : o.op = .call { callee := .builtin .append, args := #[s, x], argTypes := #[t, t] }) (hs : a.eval s = v) (hx : a.eval x = .slice (some ⟨B, off, none⟩) m c)
    (ht : Tryz.prog.underlying t = some (.slice e)) (hi : (Tryz.prog.info? e).map (fun i => (i.zero, i.size, i.bytes)) = some (some z, size, bytes)) (hz : z.cells.size = size) (hsz : 0 < size) (hown : w.ownsRow base e size v k xs) (hB : w.rangeAt B off news) (hl : news.length = m * size) (h1 : ∀ u ∈ news, u.oneCell' = true)
    (hn : k + m ≤ 1000000) (hby : bytes ≤ 10000) (hbase : base ≤ w.heap.size) (hon : ∀ X, w.grownBy X v.ownBlock → S X)
    (h : ∀ A c' X, X.ownsRow base e size (.slice A (k + m) c') (k + m) (xs ++ news) → w.grownBy X v.ownBlock → Fresh w v (.slice A (k + m) c') → wpAnyH Tryz.prog md ops Q S fuel (listed.setIfInBounds i true) (a.put dst (.slice A (k + m) c')) X) (hs2 : AllReadyH Tryz.prog md ops Q S fuel listed a w rs) : AllReadyH Tryz.prog md ops Q S fuel listed a w (i :: rs) := by
  obtain ⟨A, c', w', he, h2, h3, h4⟩ := ex_appendG ho hs hx ht hi hz hsz hown hB hl h1 hn hby hbase
  exact gval i dst hi0 hd hw he (hon w' h3) (h A c' w' h2 h3 h4) hs2
theorem ex_none46 {o : Oper} {a : Act} {w : World} (ho : o.op = .buildSlice 46 0 #[]) : (execOp a.eval o).run Tryz.prog w = .ok (.value (.slice (some ⟨w.heap.size, 0, none⟩) 0 0)) (w.alloc (Obj.cells #[] 82)) := by
  have e : (Instr.buildSlice 46 0 #[]).run Tryz.prog w = .ok (.slice (some ⟨w.heap.size, 0, none⟩) 0 0) (w.alloc (Obj.cells #[] 82)) := by kernel_rfl
  unfold execOp
  simp only [ho, List.map_toArray, List.map_nil]
  simp [e]
theorem own_none (w : World) (base e s : Nat) (hb : base ≤ w.heap.size) : (w.alloc (Obj.cells #[] e)).ownsRow base e s (.slice (some ⟨w.heap.size, 0, none⟩) 0 0) 0 [] := by
  refine ⟨by simp, .inr ⟨w.heap.size, 0, #[], rfl, hb, by (rw [show (w.alloc (Obj.cells #[] e)).heap = w.heap.push (Obj.cells #[] e) from rfl]; simp), Nat.le_refl _, Nat.zero_le _, by simp, by simp⟩⟩
theorem slice46_h (g n cap p : Nat) (hp : p ≤ cap) (hn : 0 < cap) (w : World) : (Instr.sliceAt 46 (.slice (some ⟨g, 0, none⟩) n cap) none (some (.int .i64 (p : Nat))) none).run Tryz.prog w = .ok (.slice (some ⟨g, 0, none⟩) p cap) w := by
  rw [run_sliceAt_slice (h := by kernel_rfl), run_slice_h (ht := by kernel_rfl) (h0 := by omega) (h2 := by omega)]
  have e : (sizeOf (Tryz.prog.elem 46)).run Tryz.prog w = .ok 21 w := by kernel_rfl
  rw [e]
  simp [sliced, Addr.add, Result.andThen]
theorem slice46_l (g n cap p : Nat) (hp : p ≤ n) (hn : n ≤ cap) (w : World) : ∃ off, (n - p ≠ 0 → off = p * 21) ∧ ∀ w, (Instr.sliceAt 46 (.slice (some ⟨g, 0, none⟩) n cap) (some (.int .i64 (p : Nat))) none none).run Tryz.prog w = .ok (.slice (some ⟨g, off, none⟩) (n - p) (cap - p)) w := by
  refine ⟨if cap = p then 0 else p * 21, fun h => by rw [if_neg (by omega)], fun w => ?_⟩
  rw [run_sliceAt_slice (h := by kernel_rfl), run_slice_l (ht := by kernel_rfl) (h0 := by omega) (h1 := by omega)]
  have e : (sizeOf (Tryz.prog.elem 46)).run Tryz.prog w = .ok 21 w := by kernel_rfl
  rw [e]
  by_cases h0 : p = 0
  · subst h0
    simp [sliced, Addr.add, Result.andThen]
  · by_cases h1 : cap = p
    · simp [sliced, Addr.add, Result.andThen, h0, h1]
    · simp [sliced, Addr.add, Result.andThen, h0, h1]
      omega
theorem ex_slice46h {o : Oper} {a : Act} {w : World} {x ix : Operand} {v u : Value} {p : Nat} (ho : o.op = .slice 46 x none (some ix) none) (hx : a.eval x = v) (hix : a.eval ix = .int .i64 (p : Nat)) (h : (Instr.sliceAt 46 v none (some (.int .i64 (p : Nat))) none).run Tryz.prog w = .ok u w) : (execOp a.eval o).run Tryz.prog w = .ok (.value u) w := by
  unfold execOp
  simp only [ho, hx]
  simp [hix, h]
theorem ex_slice46l {o : Oper} {a : Act} {w : World} {x ix : Operand} {v u : Value} {p : Nat} (ho : o.op = .slice 46 x (some ix) none none) (hx : a.eval x = v) (hix : a.eval ix = .int .i64 (p : Nat)) (h : (Instr.sliceAt 46 v (some (.int .i64 (p : Nat))) none none).run Tryz.prog w = .ok u w) : (execOp a.eval o).run Tryz.prog w = .ok (.value u) w := by
  unfold execOp
  simp only [ho, hx]
  simp [hix, h]
theorem ex_add1 {o : Oper} {a : Act} {w : World} {x y : Operand} {n : Nat} (ho : o.op = .binOp .add 3 x y 3) (hx : a.eval x = .int .i64 (n : Nat)) (hc : a.eval y = .int .i64 1) (hn : n < 1000000) : (execOp a.eval o).run Tryz.prog w = .ok (.value (.int .i64 ((n + 1 : Nat) : Int))) w := by
  unfold execOp
  simp only [ho, hx, hc]
  have e : IntKind.i64.wrap ((n : Int) + 1) = (n : Int) + 1 := by
    rw [IntKind.wrap_i64]
    omega
  have e2 : ((n + 1 : Nat) : Int) = (n : Int) + 1 := by omega
  rw [e2]
  simp [go_sem, eqGuard, e]
theorem oneE (l : List EE) : ∀ u ∈ flatE l, u.oneCell' = true := by
  intro u hu
  obtain ⟨x, _, hx⟩ := List.mem_flatMap.1 hu
  revert hx
  simp [EE.cs, KK.cs, DD.cs, VV.cs]
  rintro (rfl | rfl | rfl | rfl | rfl | rfl | rfl | rfl | rfl | rfl | rfl | rfl | rfl | rfl | rfl | rfl | rfl | rfl | rfl | rfl | rfl) <;> rfl
end Go.Proofs.YtpbdidnphkkenaaGreatDoor
