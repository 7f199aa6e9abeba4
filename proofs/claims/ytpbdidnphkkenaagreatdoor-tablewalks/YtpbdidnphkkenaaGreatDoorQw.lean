import Derived.Test.YtpbdidnphkkenaaGreatDoorQv
set_option linter.all false
namespace Go.Proofs.YtpbdidnphkkenaaGreatDoor
set_option maxHeartbeats 2000000
section
open Go Go.Proofs Go.Maps Go.RowKit
theorem ex_loadC {o : Oper} {a : Act} {W : World} {x : Operand} {B p : Nat} {v : Value} (t : TypeId) (hna : ∀ w, (isAgg t).run Tryz.prog w = .ok false w) (ho : o.op = .load t x) (hx : a.eval x = .pointer (some ⟨B, p, none⟩)) (h0 : W.cell? ⟨B, p, none⟩ = some v) : (execOp a.eval o).run Tryz.prog W = .ok (.value v) W := by
  unfold execOp
  simp only [ho, hx]
  simp [go_sem, h0, hna]
theorem index70 (g off n cap j : Nat) (hj : j < n) (w : World) : (Instr.indexAt 70 (.slice (some ⟨g, off, none⟩) n cap) (.int .i64 j)).run Tryz.prog w = .ok (.pointer (some ⟨g, off + j, none⟩)) w := by
  rw [run_indexAt_slice (h := by kernel_rfl), if_pos ⟨by omega, by omega⟩]
  have e : (sizeOf (Tryz.prog.elem 70)).run Tryz.prog w = .ok 1 w := by kernel_rfl
  rw [e]
  have e2 : (Addr.add ⟨g, off, none⟩ ((j : Int).toNat * 1)) = ⟨g, off + j, none⟩ := by
    rw [Addr.add_mid]
    simp
  show Result.ok (Value.pointer (some (Addr.add ⟨g, off, none⟩ ((j : Int).toNat * 1)))) w = _
  rw [e2]
theorem ex_index70 {o : Oper} {a : Act} {w : World} {x ix : Operand} {g off n cap : Nat} (j : Nat) (ho : o.op = .indexAddr 70 x ix) (hx : a.eval x = .slice (some ⟨g, off, none⟩) n cap) (hix : a.eval ix = .int .i64 j) (hj : j < n) : (execOp a.eval o).run Tryz.prog w = .ok (.value (.pointer (some ⟨g, off + j, none⟩))) w := by
  unfold execOp
  simp only [ho, hx, hix]
  have := index70 g off n cap j hj w
  simp [this]
theorem OwnP.cell {W : World} {g cap n : Nat} {l : List Nat} (h : OwnP W (.slice (some ⟨g, 0, none⟩) n cap) l) (j : Nat) (hj : j < l.length) : W.cell? ⟨g, j, none⟩ = some (.pointer (some ⟨l[j], 0, none⟩)) := by
  rcases h.2 with ⟨h1, -⟩ | ⟨g', cap', cur, h1, h2, h3, h4, h5, h6, h7⟩
  · cases h1
  · cases h1
    have e : cur.toList[j]? = some (.pointer (some ⟨l[j], 0, none⟩)) := by
      have h8 : (cur.toList.take (l.length * 1))[j]? = (ptrs l)[j]? := by rw [h7]
      rw [List.getElem?_take, if_pos (by omega)] at h8
      rw [h8]
      simp [ptrs, hj]
    have e2 : cur[j]? = some (.pointer (some ⟨l[j], 0, none⟩)) := by simpa using e
    simp [World.cell?, h3, e2]
theorem bs_rows (g cap y : Nat) (l : List RR) (w : World) (ho : OwnP w (.slice (some ⟨g, 0, none⟩) l.length cap) (l.map (·.b))) (hr : ∀ r ∈ l, Holds w r.b r.cs) (hs : l.Pairwise (fun a b => a.n < b.n)) (hl : l.length ≤ 4000000) :
    Calls Tryz.prog 57 #[.slice (some ⟨g, 0, none⟩) l.length cap, .int .u64 y, .func (.func 58) #[] #[]] w fun e w' => ∃ (p : Nat) (f : Value), e = .returned (.tuple #[.int .i64 p, f]) ∧ p ≤ l.length ∧ (∀ t (h : t < l.length), t < p → l[t].n < y) ∧ (∀ t (h : t < l.length), p ≤ t → y ≤ l[t].n) ∧ w' = w := by
  have HO := hide ho
  have HR := hide hr
  have HS := hide hs
  clear ho hr hs
  go_enter Tryz.func57, Tryz.ntmps57
  go_wp2_with fail
  go_loopg [9, 10, 11] l.length (fun gm s9 s10 s11 wr => ∃ i j : Nat, s9 = .int .i64 i ∧ s10 = .int .i64 j ∧ i ≤ j ∧ j ≤ l.length ∧ j - i ≤ gm ∧ Hid ((∀ t (h : t < l.length), t < i → l[t].n < y) ∧ (∀ t (h : t < l.length), j ≤ t → y ≤ l[t].n)) ∧ wr = w)
  case atStart => exact ⟨0, l.length, rfl, rfl, by omega, by omega, by omega, hide ⟨fun t h h2 => by omega, fun t h h2 => by omega⟩, rfl⟩
  case round =>
    obtain ⟨i, j, rfl, rfl, hij, hjl, hg, H3, rfl⟩ := hrel
    by_cases hlt : i < j
    · have hlz : (i : Int) < j := by omega
      have hm : (i + j) / 2 < l.length := by omega
      obtain ⟨r, hr⟩ : ∃ r, r = l[(i + j) / 2] := ⟨_, rfl⟩
      have HC : Hid (wr.cell? ⟨g, (i + j) / 2, none⟩ = some (.pointer (some ⟨r.b, 0, none⟩))) := hide (by
        have := (unhide HO).cell ((i + j) / 2) (by simpa using hm)
        rw [this, hr]; simp)
      have HB := hide (byNumber58 r y wr (unhide HR r (by rw [hr]; exact List.getElem_mem hm)))
      by_cases hc : r.n < y
      · have ec : cu r.n y = -1 := by unfold cu; rw [if_pos hc]
        rw [ec] at HB
        have HQ : Hid ((∀ t (h : t < l.length), t < (i + j) / 2 + 1 → l[t].n < y) ∧ (∀ t (h : t < l.length), j ≤ t → y ≤ l[t].n)) := hide ⟨fun t h h2 => (by
          rcases Nat.lt_or_ge t ((i + j) / 2) with h3 | h3
          · have h4 := (List.pairwise_iff_getElem.1 (unhide HS)) t ((i + j) / 2) h hm h3
            rw [← hr] at h4
            omega
          · have h4 : t = (i + j) / 2 := by omega
            subst h4
            rw [← hr]; exact hc), (unhide H3).2⟩
        clear hr hc ec H3
        go_wp2_with (first | go_skip | ((refine rd (by rfl) (ex_loadC 74 Tryz.isAgg74 rfl rfl (unhide HC)) ?_); simp only [Act.put, nzA, nzB, nzC]))
        refine (unhide HB).mono ?_
        rintro _ _ ⟨rfl, rfl⟩
        go_wp2
        go_roundg (j - ((i + j) / 2 + 1))
        case measure => omega
        case rel => exact ⟨(i + j) / 2 + 1, j, by first | rfl | (congr 1; omega), rfl, by omega, hjl, by omega, HQ, rfl⟩
      · have ec : ¬ cu r.n y < 0 := by unfold cu; rw [if_neg hc]; split <;> omega
        generalize cu r.n y = c at *
        have HQ : Hid ((∀ t (h : t < l.length), t < i → l[t].n < y) ∧ (∀ t (h : t < l.length), (i + j) / 2 ≤ t → y ≤ l[t].n)) := hide ⟨(unhide H3).1, fun t h h2 => (by
          rcases Nat.lt_or_ge ((i + j) / 2) t with h3 | h3
          · have h4 := (List.pairwise_iff_getElem.1 (unhide HS)) ((i + j) / 2) t hm h h3
            rw [← hr] at h4
            omega
          · have h4 : t = (i + j) / 2 := by omega
            subst h4
            rw [← hr]; omega)⟩
        clear hr hc H3
        go_wp2_with (first | go_skip | ((refine rd (by rfl) (ex_loadC 74 Tryz.isAgg74 rfl rfl (unhide HC)) ?_); simp only [Act.put, nzA, nzB, nzC]))
        refine (unhide HB).mono ?_
        rintro _ _ ⟨rfl, rfl⟩
        go_wp2
        go_roundg ((i + j) / 2 - i)
        case measure => omega
        case rel => exact ⟨i, (i + j) / 2, rfl, by first | rfl | (congr 1; omega), by omega, by omega, by omega, HQ, rfl⟩
    · have hlz : ¬ (i : Int) < j := by omega
      have hij2 : i = j := by omega
      subst hij2
      by_cases he : i < l.length
      · have hez : (i : Int) < l.length := by omega
        obtain ⟨r, hr⟩ : ∃ r, r = l[i] := ⟨_, rfl⟩
        have HC : Hid (wr.cell? ⟨g, i, none⟩ = some (.pointer (some ⟨r.b, 0, none⟩))) := hide (by
          have := (unhide HO).cell i (by simpa using he)
          rw [this, hr]; simp)
        have HB := hide (byNumber58 r y wr (unhide HR r (by rw [hr]; exact List.getElem_mem he)))
        generalize cu r.n y = c at *
        clear hr
        go_wp2_with (first | go_skip | ((refine rd (by rfl) (ex_loadC 74 Tryz.isAgg74 rfl rfl (unhide HC)) ?_); simp only [Act.put, nzA, nzB, nzC]))
        refine (unhide HB).mono ?_
        rintro _ _ ⟨rfl, rfl⟩
        go_wp2
        go_ret2
        exact ⟨i, _, rfl, hjl, (unhide H3).1, (unhide H3).2, rfl⟩
      · have hez : ¬ (i : Int) < l.length := by omega
        go_wp2
        go_ret2
        exact ⟨i, ⟨_, rfl⟩, hjl, (unhide H3).1, (unhide H3).2, rfl⟩
theorem bs_nil (y : Nat) (A : Option Addr) (cap : Nat) (w : World) :
    Calls Tryz.prog 57 #[.slice A 0 cap, .int .u64 y, .func (.func 58) #[] #[]] w fun e w' => ∃ (p : Nat) (f : Value), e = .returned (.tuple #[.int .i64 p, f]) ∧ p = 0 ∧ w' = w := by
  go_enter Tryz.func57, Tryz.ntmps57
  go_wp2_with fail
  go_loopg [9, 10, 11] 0 (fun gm s9 s10 s11 wr => s9 = .int .i64 0 ∧ s10 = .int .i64 0 ∧ wr = w)
  case atStart => exact ⟨rfl, rfl, rfl⟩
  case round =>
    obtain ⟨rfl, rfl, rfl⟩ := hrel
    go_wp2
    go_ret2
    exact ⟨0, _, rfl, rfl, rfl⟩
theorem find_at {l : List RR} {P : RR → Bool} {j : Nat} (hj : j < l.length) (h : P l[j] = true) (hb : ∀ t (ht : t < l.length), t < j → P l[t] = false) : l.find? P = some l[j] := by
  rw [List.find?_eq_some_iff_getElem]
  exact ⟨h, j, hj, rfl, fun t ht => by rw [hb t (by omega) ht]; rfl⟩
theorem find_none {l : List RR} {P : RR → Bool} (hb : ∀ t (ht : t < l.length), P l[t] = false) : l.find? P = none := by
  rw [List.find?_eq_none]
  intro x hx
  obtain ⟨t, ht, rfl⟩ := List.getElem_of_mem hx
  rw [hb t ht]
  simp
/-- The first row that stands behind the number n. -/
def after (n : Nat) (r : RR) : Bool := decide (n < r.n) && !r.gone
def TT.next (T : TT) (n : Nat) : Option RR := T.rows.find? (after n)
theorem slice70 (g n cap p : Nat) (hp : p ≤ n) (hn : n ≤ cap) (w : World) : ∃ off, (n - p ≠ 0 → off = p) ∧ (Instr.sliceAt 70 (.slice (some ⟨g, 0, none⟩) n cap) (some (.int .i64 (p : Nat))) none none).run Tryz.prog w = .ok (.slice (some ⟨g, off, none⟩) (n - p) (cap - p)) w := by
  refine ⟨if cap = p then 0 else p, fun h => by rw [if_neg (by omega)], ?_⟩
  rw [run_sliceAt_slice (h := by kernel_rfl), run_slice_l (ht := by kernel_rfl) (h0 := by omega) (h1 := by omega)]
  have e : (sizeOf (Tryz.prog.elem 70)).run Tryz.prog w = .ok 1 w := by kernel_rfl
  rw [e]
  by_cases h0 : p = 0
  · subst h0
    simp [sliced, Addr.add, Result.andThen]
  · by_cases h1 : cap = p
    · simp [sliced, Addr.add, Result.andThen, h0, h1]
    · simp [sliced, Addr.add, Result.andThen, h0, h1]
theorem slice70_nil (w : World) : (Instr.sliceAt 70 (.slice none 0 0) (some (.int .i64 (0 : Nat))) none none).run Tryz.prog w = .ok (.slice none 0 0) w := by kernel_rfl
theorem ex_slice70 {o : Oper} {a : Act} {w : World} {x ix : Operand} {v u : Value} {p : Nat} (ho : o.op = .slice 70 x (some ix) none none) (hx : a.eval x = v) (hix : a.eval ix = .int .i64 (p : Nat)) (h : (Instr.sliceAt 70 v (some (.int .i64 (p : Nat))) none none).run Tryz.prog w = .ok u w) : (execOp a.eval o).run Tryz.prog w = .ok (.value u) w := by
  unfold execOp
  simp only [ho, hx]
  simp [hix, h]
set_option maxRecDepth 100000 in
theorem next_rows (T : TT) (n g cap : Nat) (w : World) (hT : T.Is w) (hl : T.last ≤ 4000000) (hn : n < 4000000) (hv : T.rv = .slice (some ⟨g, 0, none⟩) T.rows.length cap) (hcap : T.rows.length ≤ cap) : Calls Tryz.prog 50 #[.pointer (some ⟨T.t, 0, none⟩), .int .u64 n] w fun e w' => e = .returned (pv ((T.next n).map (·.b))) ∧ w' = w := by
  have hlen := hT.len
  have HO : Hid (OwnP w (.slice (some ⟨g, 0, none⟩) T.rows.length cap) (T.rows.map (·.b))) := hide (hv ▸ hT.own)
  have HB := hide (bs_rows g cap (n + 1) T.rows w (unhide HO) hT.rows hT.rise (by omega))
  have HS := hide (fun p hp => slice70 g T.rows.length cap p hp hcap w)
  have hlen2 := hide hlen
  have HT := hide hT
  have hl2 := hide hl
  have hn2 := hide hn
  have HV : Hid (Holds w T.t [.map (some T.m), .slice (some ⟨g, 0, none⟩) T.rows.length cap, .int .u64 T.last]) := hide (by have := hT.tab; unfold TT.cs at this; rw [hv] at this; exact this)
  have HX : Hid (∀ j, (hj : j < T.rows.length) → w.cell? ⟨g, j, none⟩ = some (.pointer (some ⟨T.rows[j].b, 0, none⟩)) ∧ Holds w T.rows[j].b T.rows[j].cs) := hide (fun j hj => ⟨by
    have := (unhide HO).cell j (by simpa using hj)
    rw [this]; simp, hT.rows _ (List.getElem_mem hj)⟩)
  unfold TT.next
  obtain ⟨l, hle⟩ : ∃ l, l = T.rows := ⟨_, rfl⟩
  rw [← hle] at HB HS hlen2 HV HX HO ⊢
  clear hle hv hcap hT hlen hl hn HO
  go_enter Tryz.func50, Tryz.ntmps50
  go_wp2_with (first | go_skip | ((refine rd (by rfl) (ex_load1 70 Tryz.isAgg70 rfl rfl (unhide HV) rfl) ?_); simp only [Act.put, nzA, nzB, nzC]) | ((refine rd (by rfl) (ex_addu rfl rfl rfl (unhide hn2)) ?_); simp only [Act.put, nzA, nzB, nzC]))
  refine (unhide HB).mono ?_
  rintro _ w1 ⟨p, f, rfl, hp, h1, h2, rfl⟩
  obtain ⟨off, ho, hs⟩ := (unhide HS) p hp
  have HX := HX
  have H1 := hide h1
  have H2 := hide h2
  have HSl := hide hs
  have Ho := hide ho
  clear h1 h2 hs HS ho HB
  go_wp2_with (first | go_skip | ((refine rd (by rfl) (ex_load1 70 Tryz.isAgg70 rfl rfl (unhide HV) rfl) ?_); simp only [Act.put, nzA, nzB, nzC]) | ((refine rd (by rfl) (ex_slice70 rfl rfl rfl (unhide HSl)) ?_); simp only [Act.put, nzA, nzB, nzC]))
  go_loopg [26, 8] l.length (fun gm s26 s8 wr => ∃ i : Nat, s26 = .int .i64 i ∧ i ≤ l.length - p ∧ l.length - p - i ≤ gm ∧ Hid (∀ t (h : t < l.length), p ≤ t → t < p + i → l[t].gone = true) ∧ wr = w1)
  case atStart => exact ⟨0, rfl, by omega, by omega, hide (fun t h h2 h3 => by omega), rfl⟩
  case round =>
    obtain ⟨i, rfl, hi, hg, H3, rfl⟩ := hrel
    have hL : l.length ≤ 4000000 := by have a := unhide hlen2; have b := unhide hl2; omega
    have hiz : i ≤ 4000000 := by omega
    by_cases hlt : i < l.length - p
    · have hlz : (i : Int) < ((l.length - p : Nat) : Int) := by omega
      have hm : p + i < l.length := by omega
      obtain ⟨r, hr⟩ : ∃ r, r = l[p + i] := ⟨_, rfl⟩
      obtain ⟨hc1, hc2⟩ := (unhide HX) (p + i) hm
      rw [← hr] at hc1 hc2
      have HC : Hid (wr.cell? ⟨g, off + i, none⟩ = some (.pointer (some ⟨r.b, 0, none⟩))) := hide (by rw [(unhide Ho) (by omega)]; exact hc1)
      have HR := hide hc2
      clear hc1 hc2
      cases hgn : r.gone with
      | true =>
        have HR2 : Hid (Holds wr r.b (r.k.cs ++ (r.d.cs ++ [.int .u64 r.n, .bool true]))) := hide (hgn ▸ unhide HR)
        have HQ : Hid (∀ t (h : t < l.length), p ≤ t → t < p + (i + 1) → l[t].gone = true) := hide (fun t h h2 h3 => by
          rcases Nat.lt_or_ge t (p + i) with h4 | h4
          · exact (unhide H3) t h h2 h4
          · have h5 : t = p + i := by omega
            subst h5
            rw [← hr]; exact hgn)
        clear hr hgn H3 HR
        go_wp2_with (first | go_skip | ((refine rd (by rfl) (ex_loadC 74 Tryz.isAgg74 rfl rfl (unhide HC)) ?_); simp only [Act.put, nzA, nzB, nzC]) | ((refine rd (by rfl) (ex_load1 4 Tryz.isAgg4 rfl rfl (unhide HR2) rfl) ?_); simp only [Act.put, nzA, nzB, nzC]))
        go_roundg (l.length - p - (i + 1))
        case measure => omega
        case rel => exact ⟨i + 1, by go_num, hlt, Nat.le_refl _, HQ, rfl⟩
      | false =>
        have HR2 : Hid (Holds wr r.b (r.k.cs ++ (r.d.cs ++ [.int .u64 r.n, .bool false]))) := hide (hgn ▸ unhide HR)
        have hfnd : l.find? (after n) = some r := by
          rw [hr]
          refine find_at hm ?_ (fun t ht h4 => ?_)
          · have := (unhide H2) (p + i) hm (by omega)
            rw [← hr] at this ⊢
            simp [after, hgn]; omega
          · rcases Nat.lt_or_ge t p with h5 | h5
            · have := (unhide H1) t ht h5
              simp [after]; omega
            · have := (unhide H3) t ht h5 h4
              simp [after, this]
        have HF := hide hfnd
        clear hr hgn H3 HR hfnd
        go_wp2_with (first | go_skip | ((refine rd (by rfl) (ex_loadC 74 Tryz.isAgg74 rfl rfl (unhide HC)) ?_); simp only [Act.put, nzA, nzB, nzC]) | ((refine rd (by rfl) (ex_load1 4 Tryz.isAgg4 rfl rfl (unhide HR2) rfl) ?_); simp only [Act.put, nzA, nzB, nzC]))
        go_ret
        refine ⟨?_, rfl⟩
        rw [unhide HF]
        rfl
    · have hlz : ¬ (i : Int) < ((l.length - p : Nat) : Int) := by omega
      have hfnd : l.find? (after n) = none := by
        refine find_none (fun t ht => ?_)
        rcases Nat.lt_or_ge t p with h5 | h5
        · have := (unhide H1) t ht h5
          simp [after]; omega
        · have := (unhide H3) t ht h5 (by omega)
          simp [after, this]
      have HF := hide hfnd
      clear hfnd
      go_wp2
      go_ret
      refine ⟨?_, rfl⟩
      rw [unhide HF]
      rfl
set_option maxRecDepth 100000 in
theorem next50 (T : TT) (n : Nat) (w : World) (hT : T.Is w) (hl : T.last ≤ 4000000) (hn : n < 4000000) : Calls Tryz.prog 50 #[.pointer (some ⟨T.t, 0, none⟩), .int .u64 n] w fun e w' => e = .returned (pv ((T.next n).map (·.b))) ∧ w' = w := by
  rcases hT.own.2 with ⟨h1, h2⟩ | ⟨g, cap, cur, h1, h2, h3, h4, h5⟩
  · have hr : T.rows = [] := by simpa using h2
    have HV : Hid (Holds w T.t [.map (some T.m), .slice none 0 0, .int .u64 T.last]) := hide (by have := hT.tab; unfold TT.cs at this; rw [h1] at this; exact this)
    have HB := hide (bs_nil (n + 1) none 0 w)
    have HS := hide (slice70_nil w)
    have hn2 := hide hn
    have HE : Hid (T.next n = none) := hide (by unfold TT.next; rw [hr]; rfl)
    clear hT hl hn h1 h2 hr
    go_enter Tryz.func50, Tryz.ntmps50
    go_wp2_with (first | go_skip | ((refine rd (by rfl) (ex_load1 70 Tryz.isAgg70 rfl rfl (unhide HV) rfl) ?_); simp only [Act.put, nzA, nzB, nzC]) | ((refine rd (by rfl) (ex_addu rfl rfl rfl (unhide hn2)) ?_); simp only [Act.put, nzA, nzB, nzC]))
    refine (unhide HB).mono ?_
    rintro _ w1 ⟨p, f, rfl, rfl, rfl⟩
    go_wp2_with (first | go_skip | ((refine rd (by rfl) (ex_load1 70 Tryz.isAgg70 rfl rfl (unhide HV) rfl) ?_); simp only [Act.put, nzA, nzB, nzC]) | ((refine rd (by rfl) (ex_slice70 rfl rfl rfl (unhide HS)) ?_); simp only [Act.put, nzA, nzB, nzC]))
    go_loopg [26, 8] 0 (fun gm s26 s8 wr => s26 = .int .i64 0 ∧ wr = w1)
    case atStart => exact ⟨rfl, rfl⟩
    case round =>
      obtain ⟨rfl, rfl⟩ := hrel
      go_wp2
      go_ret
      refine ⟨?_, rfl⟩
      rw [unhide HE]
      rfl
  · have e : T.rv = .slice (some ⟨g, 0, none⟩) T.rows.length cap := by rw [h1]; simp
    exact next_rows T n g cap w hT hl hn e (by simpa using h4)
