import Derived.Test.YtpbdidnphkkenaaGreatDoorRf
set_option linter.all false
namespace Go.Proofs.YtpbdidnphkkenaaGreatDoor
set_option maxHeartbeats 1000000
section
open Go Go.Proofs Go.Maps Go.RowKit
def leftR (b : Nat) (q : RR) : RR := if q.b = b then goneR q else q
theorem leftR_b (b : Nat) (q : RR) : (leftR b q).b = q.b ∧ (leftR b q).n = q.n := by
  unfold leftR goneR
  split <;> exact ⟨rfl, rfl⟩
/-- A row is gone. -/
def TT.left (T : TT) (b : Nat) : TT := { T with rows := T.rows.map (leftR b) }
theorem TT.left_live (T : TT) (b : Nat) : (T.left b).live = T.live.filter (fun q => decide (q.b ≠ b)) := by
  unfold TT.left TT.live
  simp only
  induction T.rows with
  | nil => rfl
  | cons q l ih =>
    simp only [List.map_cons, List.filter_cons]
    by_cases h : q.b = b
    · rw [show leftR b q = goneR q from if_pos h]
      cases hg : q.gone
      · rw [if_neg (by simp [goneR]), if_pos (by simp), List.filter_cons, if_neg (by simp [h])]
        exact ih
      · rw [if_neg (by simp [goneR]), if_neg (by simp)]
        exact ih
    · rw [show leftR b q = q from if_neg h]
      cases hg : q.gone
      · rw [if_pos (by simp), if_pos (by simp), List.filter_cons, if_pos (by simp [h]), ih]
      · rw [if_neg (by simp), if_neg (by simp)]
        exact ih
theorem find_congr {α : Type} {p q : α → Bool} : ∀ {l : List α}, (∀ x ∈ l, p x = q x) → l.find? p = l.find? q
  | [], _ => rfl
  | x :: l, h => by
    rw [List.find?_cons, List.find?_cons, h x (by simp), find_congr (fun y hy => h y (by simp [hy]))]
theorem rows_pair {T : TT} (h : TApart T) : T.rows.Pairwise (fun a b => a.b ≠ b.b) := by
  have := h.rr
  unfold List.Nodup at this
  rwa [List.pairwise_map] at this
theorem live_mem {T : TT} {r : RR} (h : r ∈ T.live) : r ∈ T.rows := (List.mem_filter.1 h).1
/-- Of the rows that stand: the one block is the one key's. -/
theorem block_key {T : TT} {w : World} (hT : T.Is w) {r q : RR} (hr : r ∈ T.live) (hq : q ∈ T.live) : q.b = r.b ↔ q.k = r.k := by
  constructor
  · intro e
    rw [pair_inj (f := RR.b) (rows_pair (TT.apart hT.nd)) (live_mem hq) (live_mem hr) e]
  · intro e
    rw [pair_inj (f := RR.k) hT.keys hq hr e]
theorem TT.left_live' {T : TT} {w : World} (hT : T.Is w) {r : RR} (hr : r ∈ T.live) : (T.left r.b).live = T.live.filter (fun q => decide (q.k ≠ r.k)) := by
  rw [TT.left_live]
  apply List.filter_congr
  intro q hq
  have := block_key hT hr hq
  simp [this]
theorem TT.left_find {T : TT} {w : World} (hT : T.Is w) {r : RR} (hr : r ∈ T.live) : (fun q => ((T.left r.b).find q).map (·.b)) = putF (fun q => (T.find q).map (·.b)) r.k none := by
  funext q
  unfold TT.find
  rw [TT.left_live' hT hr, List.find?_filter]
  by_cases e : q = r.k
  · subst e
    rw [putF_same]
    have : T.live.find? (fun a => decide (decide (a.k ≠ r.k) = true ∧ decide (a.k = r.k) = true)) = none := by
      rw [List.find?_eq_none]
      intro x _
      simp
    rw [this]
    rfl
  · rw [putF_other e]
    congr 1
    apply find_congr
    intro x _
    by_cases e2 : x.k = q
    · have : x.k ≠ r.k := fun e3 => e (e2 ▸ e3)
      simp [e2]
      exact fun e3 => e e3
    · simp [e2]
theorem TT.left_len {T : TT} {w : World} (hT : T.Is w) {r : RR} (hr : r ∈ T.live) : (T.left r.b).live.length = T.live.length - 1 := by
  rw [TT.left_live' hT hr]
  obtain ⟨a, b, e⟩ := List.append_of_mem hr
  have hp := hT.keys
  rw [e] at hp ⊢
  have h1 := List.pairwise_append.1 hp
  have h2 := List.pairwise_cons.1 h1.2.1
  have ha : a.filter (fun q => decide (q.k ≠ r.k)) = a := by
    rw [List.filter_eq_self]
    intro x hx
    simpa using h1.2.2 x hx r (by simp)
  have hb : b.filter (fun q => decide (q.k ≠ r.k)) = b := by
    rw [List.filter_eq_self]
    intro x hx
    simpa using (h2.1 x hx).symm
  rw [List.filter_append, List.filter_cons, ha, hb]
  simp
theorem TT.Is.left {T : TT} {w X : World} {r : RR} (hT : T.Is w) (hr : r ∈ T.live) (htab : Holds X T.t T.cs) (hmap : MapIs X T.m T.last (T.live.length - 1) (putF (fun k => (T.find k).map (·.b)) r.k none)) (hown : OwnP X T.rv (T.rows.map (·.b))) (hrest : ∀ q ∈ T.rows, q.b ≠ r.b → Holds X q.b q.cs) (hg : Holds X r.b (goneR r).cs) : (T.left r.b).Is X := by
  have hbs : (T.left r.b).rows.map (·.b) = T.rows.map (·.b) := by
    unfold TT.left
    simp only [List.map_map]
    apply List.map_congr_left
    intro q _
    exact (leftR_b r.b q).1
  have hsub : ∀ q ∈ (T.left r.b).live, q ∈ T.live := fun q hq => by
    rw [TT.left_live] at hq
    exact (List.mem_filter.1 hq).1
  refine ⟨htab, ?_, ?_, ?_, ?_, ?_, ?_, ?_, fun q hq => hT.good q (hsub q hq)⟩
  · rw [TT.left_find hT hr, TT.left_len hT hr]
    exact hmap
  · rw [hbs]
    exact hown
  · intro q hq
    obtain ⟨p, hp, rfl⟩ := List.mem_map.1 hq
    by_cases e : p.b = r.b
    · have := pair_inj (f := RR.b) (rows_pair (TT.apart hT.nd)) hp (live_mem hr) e
      subst this
      unfold leftR
      rw [if_pos rfl]
      exact hg
    · unfold leftR
      rw [if_neg e]
      exact hrest p hp e
  · have h := hT.nd
    unfold TT.blocks at h ⊢
    rw [hbs]
    exact h
  · show (T.rows.map (leftR r.b)).Pairwise _
    rw [List.pairwise_map]
    refine hT.rise.imp ?_
    intro a b h
    rw [(leftR_b r.b a).2, (leftR_b r.b b).2]
    exact h
  · intro q hq
    obtain ⟨p, hp, rfl⟩ := List.mem_map.1 hq
    rw [(leftR_b r.b p).2]
    exact hT.num p hp
  · rw [TT.left_live]
    exact hT.keys.sublist List.filter_sublist
theorem TT.left_blocks (T : TT) (b : Nat) : (T.left b).blocks = T.blocks := by
  unfold TT.blocks TT.left
  simp only [List.map_map]
  congr 3
  apply List.map_congr_left
  intro q _
  exact (leftR_b b q).1
theorem gdel {md : Region.Mode} {ops : Array Oper} {Q : Exit → Act → World → Prop} {S : World → Prop} {w : World} {fuel : Nat} {listed : Array Bool} {a : Act} {o : Oper} (i : Nat) {m x : Operand} {b n sz : Nat} {F : KK → Option Nat} {k : KK} {rs : List Nat} (hi : ops[i]? = some o) (hd : o.dst = none) (hw : Region.wanted o (yielded ops a.tmps) = true)
    (ho : o.op = .call { callee := .builtin .delete, args := #[m, x], argTypes := #[69, 33] }) (hm : a.eval m = .map (some b)) (hx : a.eval x = k.agg) (h : MapIs w b n sz F) (hk : OkK k) (hon : ∀ X, Fr w X [b] → S X)
    (hh : ∀ X, MapIs X b n (if (F k).isSome then sz - 1 else sz) (putF F k none) → Fr w X [b] → wpAnyH Tryz.prog md ops Q S fuel (listed.setIfInBounds i true) (a.put none (.tuple #[])) X) (hs : AllReadyH Tryz.prog md ops Q S fuel listed a w rs) : AllReadyH Tryz.prog md ops Q S fuel listed a w (i :: rs) := by
  obtain ⟨X, h1, h2, h3⟩ := h.drop hk o.type
  refine gval i none hi hd hw (V := .tuple #[]) (X := X) ?_ (hon X (Fr.grown h3.grown)) (hh X h2 (Fr.grown h3.grown)) hs
  simp [execOp, ho, resolve, invoke, builtin, hm, hx, h1, Result.andThen]
theorem nu_rows {T T' : TT} {w : World} (hT : T.Is w) (hh : T'.hot = T.hot) (hr : ∀ r ∈ T.rows, ∃ r' ∈ T'.rows, r'.b = r.b ∧ r'.n = r.n) : ∀ w', T'.Is w' → Fr w w' T.blocks → T.Nu T' w w' := fun w' h' hf =>
  ⟨fun b hb => .inl (hh ▸ hb), fun b hb hn => by
    by_cases hm : b ∈ T.rows.map (·.b)
    · obtain ⟨r, hr1, rfl⟩ := List.mem_map.1 hm
      obtain ⟨r', h1, h2, h3⟩ := hr r hr1
      have e1 := num_cell (hT.rows r hr1)
      have e2 := num_cell (h'.rows r' h1)
      rw [h2, h3] at e2
      rw [e1, e2]
    · refine cell_blk (hf.block b hb (fun hb' => ?_))
      simp only [TT.blocks, List.mem_cons, List.mem_append] at hb'
      simp only [TT.hot, List.mem_cons] at hn
      rcases hb' with h | h | h | h
      · exact hn (.inl h)
      · exact hn (.inr (.inl h))
      · exact hn (.inr (.inr h))
      · exact hm h⟩
theorem nu_same {T : TT} {w : World} (hT : T.Is w) : ∀ w', T.Is w' → Fr w w' T.blocks → T.Nu T w w' := nu_rows hT rfl (fun r hr => ⟨r, hr, rfl, rfl⟩)
theorem nu_left {T : TT} {w : World} (hT : T.Is w) (q : Nat) : ∀ w', (T.left q).Is w' → Fr w w' T.blocks → T.Nu (T.left q) w w' := nu_rows hT rfl (fun r hr => ⟨leftR q r, List.mem_map.2 ⟨r, hr, rfl⟩, by unfold leftR; split <;> rfl, by unfold leftR; split <;> rfl⟩)
set_option maxRecDepth 100000 in
theorem delete14 (T : TT) (k : KK) (w : World) (hT : T.Is w) (hk : OkK k) (hl : T.last < 3000000) : Calls Tryz.prog 14 #[.pointer (some ⟨T.t, 0, none⟩), k.agg] w fun e w' => e = .returned (.bool (T.find k).isSome) ∧ ∃ T' : TT, T'.Is w' ∧ T'.t = T.t ∧ T'.last = T.last ∧ Fr w w' T.blocks ∧ (∀ b ∈ T'.blocks, b ∈ T.blocks ∨ w.heap.size ≤ b) ∧ T'.live = T.live.filter (fun q => decide (q.k ≠ k)) ∧ T.Nu T' w w' := by
  cases hf : T.find k with
  | none =>
    have hlv : T.live.filter (fun q => decide (q.k ≠ k)) = T.live := by
      rw [List.filter_eq_self]
      intro q hq
      simpa using TT.find_none hf q hq
    rw [hlv]
    clear hlv
    have HT := hide (hT.on ((Below.refl _ _).alloc (Nat.le_refl _) (Obj.cells k.cs.toArray 33)))
    have LL := hide ((Hq.nil w T.blocks).new k.cs 33 (Nat.succ_pos _))
    have HL := hide hT.lt
    have HNZ := hide (nu_same hT)
    have HNL := hide (fun q => nu_left hT q)
    clear hT
    rw [show k.agg = .agg k.cs.toArray from rfl]
    go_enter Tryz.func14, Tryz.ntmps14
    go_wp2
    refine wp_region_held_drew (P := Tryz.prog) (S := fun X => T.Is X ∧ Hq w X T.blocks [(w.heap.size, k.cs)]) (by kernel_rfl) ⟨(unhide HT).drew, (unhide LL).drew⟩ (fun hS0 => ?_)
    refine gsem 0 (some 8) (.pointer (some ⟨T.t, 0, none⟩)) rfl (by kernel_rfl) (by kernel_rfl) (by kernel_rfl) (fun _ _ _ h => h) (by kernel_rfl) (by kernel_rfl) (fun _ _ => by kernel_rfl) hS0 ?_
    simp only [Act.put, nzA, nzB, nzC]
    refine gsem 1 (some 9) (.pointer (some ⟨T.t, 0, none⟩)) rfl (by kernel_rfl) (by kernel_rfl) (by kernel_rfl) (fun _ _ _ h => h) (by kernel_rfl) (by kernel_rfl) (fun _ _ => by kernel_rfl) hS0 ?_
    simp only [Act.put, nzA, nzB, nzC]
    refine gsem 2 (some 10) (.pointer (some ⟨T.t, 0, none⟩)) rfl (by kernel_rfl) (by kernel_rfl) (by kernel_rfl) (fun _ _ _ h => h) (by kernel_rfl) (by kernel_rfl) (fun _ _ => by kernel_rfl) hS0 ?_
    simp only [Act.put, nzA, nzB, nzC]
    refine gsem 3 (some 11) (.map (some T.m)) rfl (by kernel_rfl) (by kernel_rfl) (by kernel_rfl) (fun _ _ _ h => h) (by kernel_rfl) (by kernel_rfl) (fun X hX => ex_load1 69 Tryz.isAgg69 rfl rfl (hX.1.tab) rfl) hS0 ?_
    simp only [Act.put, nzA, nzB, nzC]
    refine gsem 4 (some 12) (k.agg) rfl (by kernel_rfl) (by kernel_rfl) (by kernel_rfl) (fun _ _ _ h => h) (by kernel_rfl) (by kernel_rfl) (fun X hX => ex_loadN (vs := k.cs) 33 2 row33x siz33 rfl rfl (hX.2.get 0 rfl) rfl rfl) hS0 ?_
    simp only [Act.put, nzA, nzB, nzC]
    refine gsem 5 (some 13) (.tuple #[pv (none), .bool false]) rfl (by kernel_rfl) (by kernel_rfl) (by kernel_rfl) (fun _ _ _ h => h) (by kernel_rfl) (by kernel_rfl) (fun X hX => ex_look (r := none) rfl rfl rfl hX.1.map hk (by rw [hf]; rfl)) hS0 ?_
    simp only [Act.put, nzA, nzB, nzC]
    refine gsem 6 (some 7) (.tuple #[pv (none), .bool false]) rfl (by kernel_rfl) (by kernel_rfl) (by kernel_rfl) (fun _ _ _ h => h) (by kernel_rfl) (by kernel_rfl) (fun _ _ => by kernel_rfl) hS0 ?_
    simp only [Act.put, nzA, nzB, nzC]
    refine gsem 7 (some 14) (pv (none)) rfl (by kernel_rfl) (by kernel_rfl) (by kernel_rfl) (fun _ _ _ h => h) (by kernel_rfl) (by kernel_rfl) (fun _ _ => by kernel_rfl) hS0 ?_
    simp only [Act.put, nzA, nzB, nzC]
    refine gsem 9 (some 5) (pv (none)) rfl (by kernel_rfl) (by kernel_rfl) (by kernel_rfl) (fun _ _ _ h => h) (by kernel_rfl) (by kernel_rfl) (fun _ _ => by kernel_rfl) hS0 ?_
    simp only [Act.put, nzA, nzB, nzC]
    refine gsem 8 (some 15) (.bool false) rfl (by kernel_rfl) (by kernel_rfl) (by kernel_rfl) (fun _ _ _ h => h) (by kernel_rfl) (by kernel_rfl) (fun _ _ => by kernel_rfl) hS0 ?_
    simp only [Act.put, nzA, nzB, nzC]
    refine gsem 10 (some 6) (.bool false) rfl (by kernel_rfl) (by kernel_rfl) (by kernel_rfl) (fun _ _ _ h => h) (by kernel_rfl) (by kernel_rfl) (fun _ _ => by kernel_rfl) hS0 ?_
    simp only [Act.put, nzA, nzB, nzC]
    refine wpAnyH_done (by kernel_rfl) ?_ _
    try simp only [Act.put, nzA, nzB, nzC]
    replace HT := hide hS0.1
    replace LL := hide hS0.2
    clear hS0
    go_wp2
    go_ret
    exact ⟨rfl, T, unhide HT, rfl, rfl, (unhide LL).fr, fun b hb => .inl hb, rfl, (unhide HNZ) _ (unhide HT) (unhide LL).fr⟩
  | some r =>
    have hrl : r ∈ T.live := List.mem_of_find?_eq_some hf
    obtain ⟨-, hgn, hrk⟩ := TT.find_mem hf
    have HRL := hide (And.intro hrl hrk)
    have H2 : Hid (∀ X, (T.left r.b).Is X → Calls Tryz.prog 38 #[.pointer (some ⟨T.t, 0, none⟩)] X fun e w' => e = .returned (.int .i64 (((T.left r.b).rows.length - (T.left r.b).live.length : Nat) : Int)) ∧ Below X.heap.size X w') := hide (fun X hX => gaps38 (T.left r.b) X hX (by have := hX.len; have e : (T.left r.b).last = T.last := rfl; omega))
    have H3 : Hid (∀ X, (T.left r.b).Is X → Calls Tryz.prog 30 #[.pointer (some ⟨T.t, 0, none⟩)] X fun e w' => e = .returned (.int .i64 (T.left r.b).live.length) ∧ w' = X) := hide (fun X hX => len30 (T.left r.b) X hX)
    have H4 : Hid (∀ X, (T.left r.b).Is X → Calls Tryz.prog 18 #[.pointer (some ⟨T.t, 0, none⟩)] X fun e w' => e = .returned (.tuple #[]) ∧ ∃ m rv, ((T.left r.b).packed m rv).Is w' ∧ Fr X w' [T.t] ∧ (∀ b ∈ ((T.left r.b).packed m rv).blocks, b ∈ (T.left r.b).blocks ∨ X.heap.size ≤ b) ∧ (T.left r.b).Nu ((T.left r.b).packed m rv) X w') := hide (fun X hX => compact18 (T.left r.b) X hX hl)
    have HLV : Hid ((T.left r.b).live = T.live.filter (fun q => decide (q.k ≠ k))) := hide (by rw [TT.left_live' hT hrl, hrk])
    have HAP := hide (TT.apart hT.nd)
    have hk2 := hide hk
    have hf2 := hide hf
    clear hrl hrk hgn hl
    have HT := hide (hT.on ((Below.refl _ _).alloc (Nat.le_refl _) (Obj.cells k.cs.toArray 33)))
    have LL := hide ((Hq.nil w T.blocks).new k.cs 33 (Nat.succ_pos _))
    have HL := hide hT.lt
    have HNZ := hide (nu_same hT)
    have HNL := hide (fun q => nu_left hT q)
    clear hT
    rw [show k.agg = .agg k.cs.toArray from rfl]
    go_enter Tryz.func14, Tryz.ntmps14
    go_wp2
    refine wp_region_held_drew (P := Tryz.prog) (S := fun X => T.Is X ∧ Hq w X T.blocks [(w.heap.size, k.cs)]) (by kernel_rfl) ⟨(unhide HT).drew, (unhide LL).drew⟩ (fun hS0 => ?_)
    refine gsem 0 (some 8) (.pointer (some ⟨T.t, 0, none⟩)) rfl (by kernel_rfl) (by kernel_rfl) (by kernel_rfl) (fun _ _ _ h => h) (by kernel_rfl) (by kernel_rfl) (fun _ _ => by kernel_rfl) hS0 ?_
    simp only [Act.put, nzA, nzB, nzC]
    refine gsem 1 (some 9) (.pointer (some ⟨T.t, 0, none⟩)) rfl (by kernel_rfl) (by kernel_rfl) (by kernel_rfl) (fun _ _ _ h => h) (by kernel_rfl) (by kernel_rfl) (fun _ _ => by kernel_rfl) hS0 ?_
    simp only [Act.put, nzA, nzB, nzC]
    refine gsem 2 (some 10) (.pointer (some ⟨T.t, 0, none⟩)) rfl (by kernel_rfl) (by kernel_rfl) (by kernel_rfl) (fun _ _ _ h => h) (by kernel_rfl) (by kernel_rfl) (fun _ _ => by kernel_rfl) hS0 ?_
    simp only [Act.put, nzA, nzB, nzC]
    refine gsem 3 (some 11) (.map (some T.m)) rfl (by kernel_rfl) (by kernel_rfl) (by kernel_rfl) (fun _ _ _ h => h) (by kernel_rfl) (by kernel_rfl) (fun X hX => ex_load1 69 Tryz.isAgg69 rfl rfl (hX.1.tab) rfl) hS0 ?_
    simp only [Act.put, nzA, nzB, nzC]
    refine gsem 4 (some 12) (k.agg) rfl (by kernel_rfl) (by kernel_rfl) (by kernel_rfl) (fun _ _ _ h => h) (by kernel_rfl) (by kernel_rfl) (fun X hX => ex_loadN (vs := k.cs) 33 2 row33x siz33 rfl rfl (hX.2.get 0 rfl) rfl rfl) hS0 ?_
    simp only [Act.put, nzA, nzB, nzC]
    refine gsem 5 (some 13) (.tuple #[pv (some r.b), .bool true]) rfl (by kernel_rfl) (by kernel_rfl) (by kernel_rfl) (fun _ _ _ h => h) (by kernel_rfl) (by kernel_rfl) (fun X hX => ex_look (r := some r.b) rfl rfl rfl hX.1.map hk (by rw [hf]; rfl)) hS0 ?_
    simp only [Act.put, nzA, nzB, nzC]
    refine gsem 6 (some 7) (.tuple #[pv (some r.b), .bool true]) rfl (by kernel_rfl) (by kernel_rfl) (by kernel_rfl) (fun _ _ _ h => h) (by kernel_rfl) (by kernel_rfl) (fun _ _ => by kernel_rfl) hS0 ?_
    simp only [Act.put, nzA, nzB, nzC]
    refine gsem 7 (some 14) (pv (some r.b)) rfl (by kernel_rfl) (by kernel_rfl) (by kernel_rfl) (fun _ _ _ h => h) (by kernel_rfl) (by kernel_rfl) (fun _ _ => by kernel_rfl) hS0 ?_
    simp only [Act.put, nzA, nzB, nzC]
    refine gsem 9 (some 5) (pv (some r.b)) rfl (by kernel_rfl) (by kernel_rfl) (by kernel_rfl) (fun _ _ _ h => h) (by kernel_rfl) (by kernel_rfl) (fun _ _ => by kernel_rfl) hS0 ?_
    simp only [Act.put, nzA, nzB, nzC]
    refine gsem 8 (some 15) (.bool true) rfl (by kernel_rfl) (by kernel_rfl) (by kernel_rfl) (fun _ _ _ h => h) (by kernel_rfl) (by kernel_rfl) (fun _ _ => by kernel_rfl) hS0 ?_
    simp only [Act.put, nzA, nzB, nzC]
    refine gsem 10 (some 6) (.bool true) rfl (by kernel_rfl) (by kernel_rfl) (by kernel_rfl) (fun _ _ _ h => h) (by kernel_rfl) (by kernel_rfl) (fun _ _ => by kernel_rfl) hS0 ?_
    simp only [Act.put, nzA, nzB, nzC]
    refine wpAnyH_done (by kernel_rfl) ?_ _
    try simp only [Act.put, nzA, nzB, nzC]
    replace HT := hide hS0.1
    replace LL := hide hS0.2
    clear hS0
    unfold pv
    go_wp2
    refine wp_region_held_drew (P := Tryz.prog) (S := fun X => Holds X T.t T.cs ∧ Hq w X T.blocks [(w.heap.size, k.cs)]) (by kernel_rfl) ⟨(unhide HT).tab.block rfl, (unhide LL).drew⟩ (fun hS0 => ?_)
    refine gsem 0 (some 18) (.pointer (some ⟨T.t, 0, none⟩)) rfl (by kernel_rfl) (by kernel_rfl) (by kernel_rfl) (fun _ _ _ h => h) (by kernel_rfl) (by kernel_rfl) (fun _ _ => by kernel_rfl) hS0 ?_
    simp only [Act.put, nzA, nzB, nzC]
    refine gsem 1 (some 19) (.pointer (some ⟨T.t, 0, none⟩)) rfl (by kernel_rfl) (by kernel_rfl) (by kernel_rfl) (fun _ _ _ h => h) (by kernel_rfl) (by kernel_rfl) (fun _ _ => by kernel_rfl) hS0 ?_
    simp only [Act.put, nzA, nzB, nzC]
    refine gsem 2 (some 20) (.pointer (some ⟨T.t, 0, none⟩)) rfl (by kernel_rfl) (by kernel_rfl) (by kernel_rfl) (fun _ _ _ h => h) (by kernel_rfl) (by kernel_rfl) (fun _ _ => by kernel_rfl) hS0 ?_
    simp only [Act.put, nzA, nzB, nzC]
    refine gsem 3 (some 21) (.map (some T.m)) rfl (by kernel_rfl) (by kernel_rfl) (by kernel_rfl) (fun _ _ _ h => h) (by kernel_rfl) (by kernel_rfl) (fun X hX => ex_load1 69 Tryz.isAgg69 rfl rfl (hX.1) rfl) hS0 ?_
    simp only [Act.put, nzA, nzB, nzC]
    refine gsem 4 (some 22) (k.agg) rfl (by kernel_rfl) (by kernel_rfl) (by kernel_rfl) (fun _ _ _ h => h) (by kernel_rfl) (by kernel_rfl) (fun X hX => ex_loadN (vs := k.cs) 33 2 row33x siz33 rfl rfl (hX.2.get 0 rfl) rfl rfl) hS0 ?_
    simp only [Act.put, nzA, nzB, nzC]
    have hmt : T.t ∉ [T.m] := by simpa using (unhide HAP).tm
    have hkm : w.heap.size ≠ T.m := by have := (unhide HL) T.m (by simp [TT.blocks]); omega
    have hmb : ∀ b ∈ [T.m], b ∈ T.blocks ∨ w.heap.size ≤ b := fun b hb => .inl (by obtain rfl : b = T.m := (by simpa using hb); simp [TT.blocks])
    refine wpAnyH_ready (rs := [5]) (by kernel_rfl) (by simp) (gdel 5 rfl (by kernel_rfl) (by kernel_rfl) rfl rfl rfl (unhide HT).drew.map (unhide hk2) (fun X hX => ⟨hS0.1.block (hX.block T.t (hS0.1.lt (by simp [TT.cs])) hmt), hS0.2.step hX hmb (fun q hq => by obtain rfl : q = (w.heap.size, k.cs) := (by simpa using hq); simpa using hkm)⟩) ?_ AllReadyH.nil)
    intro X hM hX
    have hTd := (unhide HT).drew
    have hLX := hS0.2.step hX hmb (fun q hq => by obtain rfl : q = (w.heap.size, k.cs) := (by simpa using hq); simpa using hkm)
    have hm3 : MapIs X T.m T.last (T.live.length - 1) (putF (fun q => (T.find q).map (·.b)) k none) := by
      have e := unhide hf2
      have := hM
      simp only [e, Option.map_some, Option.isSome_some, if_true] at this
      exact this
    have hap := unhide HAP
    have hbl : ∀ b, b ≠ T.m → b < w.heap.size → X.heap[b]? = (World.drew _).heap[b]? := fun b hb hlt => hX.block b (by have := hS0.2.fr.size; omega) (by simpa using hb)
    have HOWN : Hid (OwnP X T.rv (T.rows.map (·.b))) := hide (hTd.own.block (fun g hg => hX.block g (World.ownsRow.lt hTd.own g hg).2 (fun hm => (hap.tv g hg).2.1 (by simpa using hm))))
    have HROW : Hid (∀ q ∈ T.rows, Holds X q.b q.cs) := hide (fun q hq => (hTd.rows q hq).block (hX.block q.b ((hTd.rows q hq).lt (by simp [rcs_length])) (fun hm => hap.mr (by obtain h1 : q.b = T.m := (by simpa using hm); exact h1 ▸ List.mem_map.2 ⟨q, hq, rfl⟩))))
    have HTAB : Hid (Holds X T.t T.cs) := hide (hS0.1.block (hX.block T.t (hS0.1.lt (by simp [TT.cs])) hmt))
    have HM3 := hide hm3
    have hS1 : Holds X T.t T.cs ∧ Hq w X T.blocks [(w.heap.size, k.cs)] := ⟨unhide HTAB, hLX⟩
    replace LL := hide hLX
    clear hS0 hM hX hTd hLX hm3 hbl hmt hkm hmb
    simp only [Act.put, nzA, nzB, nzC]
    refine wpAnyH_done (by kernel_rfl) ?_ _
    try simp only [Act.put, nzA, nzB, nzC]
    clear hS1
    go_wp2_with fail
    refine (leave37 r X ((unhide HROW) r (live_mem (unhide HRL).1))).mono ?_
    rintro _ w3 ⟨rfl, hg3, hf3⟩
    have hrm : r.b ∈ T.rows.map (·.b) := List.mem_map.2 ⟨r, live_mem (unhide HRL).1, rfl⟩
    have hT2 : (T.left r.b).Is w3 := by
      have e := (unhide HRL).2
      refine TT.Is.left (unhide HT) (unhide HRL).1 ((unhide HTAB).block (hf3.block T.t ((unhide HTAB).lt (by simp [TT.cs])) ?_)) ?_ ((unhide HOWN).block (fun g hg => hf3.block g (World.ownsRow.lt (unhide HOWN) g hg).2 ?_)) (fun q hq hne => ((unhide HROW) q hq).block (hf3.block q.b (((unhide HROW) q hq).lt (by simp [rcs_length])) (by simpa using hne))) hg3
      · intro hm
        exact hap.tr (by obtain h1 : T.t = r.b := (by simpa using hm); exact h1 ▸ hrm)
      · rw [e]
        exact (unhide HM3).block (hf3.block T.m (unhide HM3).lt (fun hm => hap.mr (by obtain h1 : T.m = r.b := (by simpa using hm); exact h1 ▸ hrm)))
      · intro hm
        exact (hap.tv g hg).2.2 (by obtain h1 : g = r.b := (by simpa using hm); exact h1 ▸ hrm)
    have HFR : Hid (Fr w w3 T.blocks) := hide ((unhide LL).fr.trans hf3 (fun b hb => .inl (by
      obtain rfl : b = r.b := by simpa using hb
      unfold TT.blocks
      simp only [List.mem_cons, List.mem_append]
      exact .inr (.inr (.inr hrm)))))
    have HT2 := hide hT2
    clear hT2 hg3 hf3 hrm hap HOWN HROW HTAB HM3 LL
    go_wp2_with fail
    refine ((unhide H2) w3 (unhide HT2)).mono ?_
    rintro _ w4 ⟨rfl, hb⟩
    replace HFR := hide ((unhide HFR).on hb)
    replace HT2 := hide ((unhide HT2).on hb)
    clear hb
    go_wp2_with fail
    refine ((unhide H3) w4 (unhide HT2)).mono ?_
    rintro _ x4 ⟨rfl, e4⟩
    rw [e4]
    clear e4 x4
    obtain ⟨g1, hg1⟩ : ∃ g1, g1 = (T.left r.b).rows.length - (T.left r.b).live.length := ⟨_, rfl⟩
    obtain ⟨g2, hg2⟩ : ∃ g2, g2 = (T.left r.b).live.length := ⟨_, rfl⟩
    rw [← hg1, ← hg2]
    clear hg1 hg2
    by_cases hgt : g2 < g1
    · have hgz : (g2 : Int) < g1 := by omega
      go_wp2_with fail
      refine ((unhide H4) w4 (unhide HT2)).mono ?_
      rintro _ w5 ⟨rfl, m, rv, hT5, hf5, hb5, hn5⟩
      have HN5 := hide (((unhide HNL) r.b w4 (unhide HT2) (unhide HFR)).trans hn5 (unhide HFR).size)
      clear hn5
      have HF5 := hide hf5
      have HT5 := hide hT5
      have HB5 := hide hb5
      clear hf5 hT5 hb5
      go_wp2
      go_ret
      refine ⟨rfl, _, unhide HT5, rfl, rfl, (unhide HFR).trans (unhide HF5) (fun b hb => .inl (by obtain rfl : b = T.t := (by simpa using hb); simp [TT.blocks])), fun b hb => ?_, ?_, unhide HN5⟩
      · rcases (unhide HB5) b hb with h1 | h1
        · rw [TT.left_blocks] at h1
          exact .inl h1
        · exact .inr (Nat.le_trans (unhide HFR).size h1)
      · rw [TT.packed_live]
        exact unhide HLV
    · have hgz : ¬ (g2 : Int) < g1 := by omega
      go_wp2
      go_ret
      refine ⟨rfl, _, unhide HT2, rfl, rfl, unhide HFR, fun b hb => ?_, unhide HLV, (unhide HNL) r.b _ (unhide HT2) (unhide HFR)⟩
      rw [TT.left_blocks] at hb
      exact .inl hb
