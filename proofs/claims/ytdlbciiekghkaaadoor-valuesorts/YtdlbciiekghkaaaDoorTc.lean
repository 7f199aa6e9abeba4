import Derived.Test.YtdlbciiekghkaaaDoorTb
namespace Go.Proofs.YtdlbciiekghkaaaDoor
open Go Go.Proofs Go.Shelf Go.RowKit Go.Lib Go.Sort FM
attribute [local go_sem] bits_run run_store_float
theorem eqAll_rows (b off cap b2 off2 cap2 : Nat) (l m : List VV) (w : World) (h1 : Rows5 w b off l) (hb : b < w.heap.size) (h2 : Rows5 w b2 off2 m) (hb2 : b2 < w.heap.size) (hl : l.length = m.length) (he : ∀ j, j < l.length → eqB l[j]! m[j]! = true) (hn : l.length ≤ 2932031007402) :
    Calls Tryd.prog 30 #[.slice (some ⟨b, off, none⟩) l.length cap, .slice (some ⟨b2, off2, none⟩) l.length cap2] w fun e w' => e = .returned (.bool true) ∧ RowKit.Below w.heap.size w w' := by
  have H1 := hide h1
  have H2 := hide h2
  have HE := hide he
  have HL := hide hl
  clear h1 h2 he hl
  go_enter Tryd.func30, Tryd.ntmps30
  go_wp2_with fail
  go_loopg [5] l.length (fun g s5 wr => ∃ j : Nat, s5 = .int .i64 j ∧ j ≤ l.length ∧ l.length - j ≤ g ∧ Hid (RowKit.Below w.heap.size w wr))
  case atStart => exact ⟨0, rfl, by omega, by omega, hide (RowKit.Below.refl _ _)⟩
  case round =>
    obtain ⟨j, rfl, hj, hg, hB⟩ := hrel
    by_cases hlt : j < l.length
    · have k1 : At5 wr b (off + j * 5) l[j]! := At5.keep (w := w) (unhide H1 j hlt) ((unhide hB).block b hb)
      have k2 : At5 wr b2 (off2 + j * 5) m[j]! := At5.keep (w := w) (unhide H2 j (by rw [← unhide HL]; exact hlt)) ((unhide hB).block b2 hb2)
      have HQ := hide (fun w => eq_any l[j]! m[j]! w)
      rw [unhide HE j hlt] at HQ
      have hjz : (j : Int) < l.length := by omega
      generalize l[j]! = u at *
      generalize m[j]! = v at *
      have K1 := hide k1
      have K2 := hide k2
      have hbw : b < wr.heap.size := Nat.lt_of_lt_of_le hb (unhide hB).size
      have hbw2 : b2 < wr.heap.size := Nat.lt_of_lt_of_le hb2 (unhide hB).size
      unfold VV.agg at HQ
      unfold At5 at k1 k2
      go_wp2_with fail
      go_region_held3 (fun X => X.cell? ⟨b, off + j * 5, none⟩ = some (.int .i64 u.k) ∧ X.cell? ⟨b, off + j * 5 + 1, none⟩ = some (.bool u.b) ∧ X.cell? ⟨b, off + j * 5 + 2, none⟩ = some (.float .f64 u.x) ∧ X.cell? ⟨b, off + j * 5 + 3, none⟩ = some (.string u.s) ∧ X.cell? ⟨b, off + j * 5 + 4, none⟩ = some (.int .i64 u.i) ∧ X.cell? ⟨b2, off2 + j * 5, none⟩ = some (.int .i64 v.k) ∧ X.cell? ⟨b2, off2 + j * 5 + 1, none⟩ = some (.bool v.b) ∧ X.cell? ⟨b2, off2 + j * 5 + 2, none⟩ = some (.float .f64 v.x) ∧ X.cell? ⟨b2, off2 + j * 5 + 3, none⟩ = some (.string v.s) ∧ X.cell? ⟨b2, off2 + j * 5 + 4, none⟩ = some (.int .i64 v.i)) (first | exact at10 q1 q2 | go_keep)
        ((first
          | (go_at_call 14; refine (unhide HQ _).mono ?_; rintro e w1 ⟨rfl, hb1⟩; have q1 : At5 w1 b (off + j * 5) u := (unhide K1).keep (hb1.block b hbw); have q2 : At5 w1 b2 (off2 + j * 5) v := (unhide K2).keep (hb1.block b2 hbw2))))
      have hB1 := hide (bt' (unhide hB) ⟨hb1.os, hb1.tape, hb1.output, hb1.size, hb1.block⟩)
      clear hb1 k1 k2 q1 q2
      go_wp2
      go_roundg (l.length - (j + 1))
      case measure => omega
      case rel => exact ⟨j + 1, by go_num, by omega, Nat.le_refl _, hB1⟩
    · have hjz : ¬ (j : Int) < l.length := by omega
      go_wp2
      go_ret
      exact ⟨rfl, unhide hB⟩
theorem eqAll_nil (A A2 : Option Addr) (cap cap2 : Nat) (w : World) :
    Calls Tryd.prog 30 #[.slice A 0 cap, .slice A2 0 cap2] w fun e w' => e = .returned (.bool true) ∧ RowKit.Below w.heap.size w w' := by
  go_enter Tryd.func30, Tryd.ntmps30
  go_wp2_with fail
  go_loopg [5] 0 (fun g s5 wr => s5 = .int .i64 0 ∧ wr = w)
  case atStart => exact ⟨rfl, rfl⟩
  case round =>
    obtain ⟨rfl, rfl⟩ := hrel
    go_wp2
    go_ret
    exact ⟨rfl, RowKit.Below.refl _ _⟩
/-- EqAll of two rows that are alike place by place. -/
theorem eqAll_any (A A2 : Option Addr) (cap cap2 : Nat) (l m : List VV) (w : World) (h1 : ReadsV w (.slice A l.length cap) l) (h2 : ReadsV w (.slice A2 m.length cap2) m) (hl : l.length = m.length) (he : ∀ j, j < l.length → eqB l[j]! m[j]! = true) (hn : l.length ≤ 2932031007402) :
    Calls Tryd.prog 30 #[.slice A l.length cap, .slice A2 m.length cap2] w fun e w' => e = .returned (.bool true) ∧ RowKit.Below w.heap.size w w' := by
  by_cases h0 : l.length = 0
  · rw [← hl, h0]
    exact eqAll_nil A A2 cap cap2 w
  · rcases h1 with ⟨_, _, _, rfl⟩ | ⟨b, off, c, e, hb, hr⟩
    · exact absurd rfl h0
    · rcases h2 with ⟨_, _, _, rfl⟩ | ⟨b2, off2, c2, e2, hb2, hr2⟩
      · exact absurd hl h0
      · cases e
        cases e2
        rw [← hl]
        exact eqAll_rows b off cap b2 off2 cap2 l m w hr hb hr2 hb2 hl he hn
theorem eqB_refl (v : VV) : eqB v v = true := by unfold eqB; simp
theorem alike_eqB (a b : VV) (ha : a.good = true) (hb : b.good = true) (h : alikeV sameV a b = true) : eqB a b = true := by
  obtain ⟨k, c, x, s, i⟩ := a
  obtain ⟨k', c', x', s', i'⟩ := b
  unfold alikeV at h
  dsimp only at h
  rw [Bool.and_eq_true] at h
  obtain ⟨hk, h⟩ := h
  have hk' : k = k' := by simpa using hk
  subst hk'
  unfold eqB
  dsimp only
  have ha' : goodV k c x s i = true := ha
  have hb' : goodV k c' x' s' i' = true := hb
  clear ha hb hk
  rcases good_cases ha' with ⟨rfl, rfl, rfl, rfl, rfl⟩ | ⟨rfl, rfl, rfl, rfl, rfl⟩ | ⟨rfl, rfl, rfl, rfl⟩ | ⟨rfl, rfl, rfl, rfl⟩ | ⟨rfl, rfl, rfl, rfl, hs⟩ | ⟨rfl, rfl, rfl, rfl, -, -⟩ | ⟨rfl, rfl, rfl, rfl, -, -⟩
  all_goals
    rcases good_cases hb' with ⟨h1, rfl, rfl, rfl, rfl⟩ | ⟨h1, rfl, rfl, rfl, rfl⟩ | ⟨h1, rfl, rfl, rfl⟩ | ⟨h1, rfl, rfl, rfl⟩ | ⟨h1, rfl, rfl, rfl, hs'⟩ | ⟨h1, rfl, rfl, rfl, -, -⟩ | ⟨h1, rfl, rfl, rfl, -, -⟩
    all_goals first | omega | (simp; done) | (simp at h; simp [h]; done) | (simp [sameV] at h; rcases h with h | h <;> simp [h])
/-- What value.Sort answers, and its error. -/
def SortR (l ks : List VV) (e : Int) : Prop :=
  ((∃ v ∈ l, v.good = false) ∧ e = 5 ∧ ks = []) ∨ ∃ d kg : List GV, d.map (·.1) = l ∧ e = 0 ∧ ks = kg.map (·.1) ∧ All2 (fun a b : GV => alikeV sameV a.1 b.1 = true) kg (sortC cmpG d)
theorem map_inj {d d' : List GV} (h : d.map (·.1) = d'.map (·.1)) : d = d' := by
  induction d generalizing d' with
  | nil => cases d' with
    | nil => rfl
    | cons b d' => cases h
  | cons a d ih => cases d' with
    | nil => cases h
    | cons b d' =>
      simp only [List.map_cons, List.cons.injEq] at h
      rw [ih h.2, Subtype.ext h.1]
theorem sorts_agree {l ks out : List VV} {e f : Int} (h : SortR l ks e) (k : RefR l out f) : e = f ∧ ks.length = out.length ∧ ∀ j, j < ks.length → eqB ks[j]! out[j]! = true := by
  rcases h with ⟨⟨v, hv, hg⟩, rfl, rfl⟩ | ⟨d, kg, hd, rfl, rfl, ha⟩
  · rcases k with ⟨_, rfl, rfl⟩ | ⟨d', hd', rfl, rfl⟩
    · exact ⟨rfl, rfl, fun j hj => by cases hj⟩
    · rw [← hd'] at hv
      obtain ⟨z, hz, rfl⟩ := List.mem_map.1 hv
      rw [z.2.1] at hg
      cases hg
  · rcases k with ⟨⟨v, hv, hg⟩, rfl, rfl⟩ | ⟨d', hd', rfl, rfl⟩
    · rw [← hd] at hv
      obtain ⟨z, hz, rfl⟩ := List.mem_map.1 hv
      rw [z.2.1] at hg
      cases hg
    · obtain rfl := map_inj (hd.trans hd'.symm)
      have hlen := ha.length
      refine ⟨rfl, by simpa using hlen, fun j hj => ?_⟩
      rw [List.length_map] at hj
      rw [getElem!_pos (kg.map (·.1)) j (by simpa using hj), getElem!_pos ((sortC cmpG d).map (·.1)) j (by simpa using hlen ▸ hj), List.getElem_map, List.getElem_map]
      have := ha.get j hj
      rw [getElem!_pos kg j hj, getElem!_pos (sortC cmpG d) j (by rw [← hlen]; exact hj)] at this
      exact alike_eqB _ _ kg[j].2.1 ((sortC cmpG d)[j]'(by rw [← hlen]; exact hj)).2.1 this
theorem refR_self {l out out' : List VV} {e f : Int} (h : RefR l out e) (k : RefR l out' f) : out = out' := by
  rcases h with ⟨⟨v, hv, hg⟩, rfl, rfl⟩ | ⟨d, hd, rfl, rfl⟩
  · rcases k with ⟨_, rfl, rfl⟩ | ⟨d', hd', rfl, rfl⟩
    · rfl
    · rw [← hd'] at hv
      obtain ⟨z, hz, rfl⟩ := List.mem_map.1 hv
      rw [z.2.1] at hg
      cases hg
  · rcases k with ⟨⟨v, hv, hg⟩, rfl, rfl⟩ | ⟨d', hd', rfl, rfl⟩
    · rw [← hd] at hv
      obtain ⟨z, hz, rfl⟩ := List.mem_map.1 hv
      rw [z.2.1] at hg
      cases hg
    · obtain rfl := map_inj (hd.trans hd'.symm)
      rfl
end Go.Proofs.YtdlbciiekghkaaaDoor
