import Derived.Test.YtpbdidnphkkenaaGreatDoorRs
set_option linter.all false
namespace Go.Proofs.YtpbdidnphkkenaaGreatDoor
set_option maxHeartbeats 1000000
section
open Go Go.Proofs Go.Maps Go.RowKit
def zeroE : EE := ⟨zeroK, zeroD, 0⟩
/-- The next entry behind a number. -/
def RT.behind (R : RT) (a : Int) : Option EE := R.es.find? (fun e => decide (a < e.n))
theorem ecs_length (x : EE) : x.cs.length = 21 := rfl
theorem ecs_one (x : EE) : ∀ u ∈ x.cs, u.oneCell' = true := by simp [EE.cs, KK.cs, DD.cs, VV.cs, Value.oneCell']
theorem row82w : ∃ d, Tryz.prog.underlying 82 = some d ∧ d.isRow = true := ⟨_, Tryz.underlying82, rfl⟩
theorem siz82w : (Tryz.prog.info? 82).map (·.size) = some 21 := by kernel_rfl
theorem ret_ct82 {fn : Func} {R : Ending → World → Prop} {a : Act} {w : World} {b r q : Nat} {vs : List Value} {v : Value} {cs : List Value} (hr : fn.results = #[.cell r 82, .tmp q]) (hdf : a.defers = [])
    (hx : a.tmps.getD r undef = .pointer (some ⟨b, 0, none⟩)) (hq : a.tmps.getD q undef = v) (hc : Holds w b cs) (hcs : (cs.drop 0).take 21 = vs) (hvl : vs.length = 21) (h : R (.returned (.tuple #[.agg vs.toArray, v])) w) : bodyPost Tryz.prog fn R .ret a w := by
  obtain ⟨t, hu, hd⟩ := row82w
  have h0 := hc.mid 0 21
  rw [hcs] at h0
  have hl := run_loadVar_mid (P := Tryz.prog) w b 0 82 _ t h0 hu hd (by rw [hvl]; exact siz82w)
  refine ⟨hdf, _, ?_, h⟩
  simp only [Array.getD_eq_getD_getElem?] at hx hq
  unfold results
  simp [hr, hx, hq, hl, asAddr]
  try rfl
theorem ex_b82 {o : Oper} {a : Act} {w : World} (ho : o.op = .build 82 #[]) : (execOp a.eval o).run Tryz.prog w = .ok (.value (.agg zeroE.cs.toArray)) w := by
  have e : (Instr.build 82 #[]).run Tryz.prog w = .ok (.agg zeroE.cs.toArray) w := by kernel_rfl
  unfold execOp
  simp only [ho, List.map_toArray, List.map_nil]
  simp [e]
theorem zero82 (w : World) : (zeroValue 82).run Tryz.prog w = .ok (.agg zeroE.cs.toArray) w := by kernel_rfl
theorem alK82 {ops : Array Oper} {rest : List Oper} {Q : Exit → Act → World → Prop} {w0 w : World} {a : Act} {o : Oper} {E : List Nat} {L : List (Nat × List Value)} (hw : Region.wanted o (yielded ops a.tmps) = true) (ho : o.op = .alloc 82) (hL : Hq w0 w E L)
    (h : ∀ X B, B = w.heap.size → Hq w0 X E (L ++ [(B, zeroE.cs)]) → Below w.heap.size w X → wpList Tryz.prog ops Q rest (a.put o.dst (.pointer (some ⟨B, 0, none⟩))) X) : wpList Tryz.prog ops Q (o :: rest) a w :=
  vl hw (ex_al 82 zeroE.cs ho zero82 rfl) (h _ _ rfl (hL.new zeroE.cs 82 (Nat.succ_pos _)) ((Below.refl _ _).alloc (Nat.le_refl _) _))
theorem find_first {α : Type} {l : List α} {p : α → Bool} {j : Nat} (hj : j < l.length) (hp : p l[j] = true) (hn : ∀ t (h : t < l.length), t < j → p l[t] = false) : l.find? p = some l[j] := by
  rw [List.find?_eq_some_iff_getElem]
  exact ⟨hp, j, hj, rfl, fun i hi => by simp [hn i (by omega) hi]⟩
set_option maxRecDepth 100000 in
theorem behind42 (R : RT) (a : Int) (w : World) (hR : R.Is w) (hl : R.es.length ≤ 3000000) : Calls Tryz.prog 42 #[.pointer (some ⟨R.t, 0, none⟩), .int .i64 a] w fun e w' => e = .returned (.tuple #[.agg ((R.behind a).getD zeroE).cs.toArray, .bool (R.behind a).isSome]) ∧ Below w.heap.size w w' := by
  obtain ⟨A, cap, hlv⟩ := own_form hR.own
  have HX : Hid (∀ X, R.Is X → Holds X R.t [.slice A R.es.length cap, .int .i64 R.nx]) := hide (fun X hX => by have := hX.tab; unfold RT.cs at this; rw [hlv] at this; exact this)
  have HO : Hid (∀ X, R.Is X → ∀ g, A = some ⟨g, 0, none⟩ → ∀ j, (hj : j < R.es.length) → X.rangeAt g (j * 21) R.es[j].cs) := hide (fun X hX g hg => own_rows (f := EE.cs) (s := 21) (fun _ => rfl) (by have := hX.own; rw [hlv, hg] at this; exact this))
  have HA : Hid (0 < R.es.length → ∃ g, A = some ⟨g, 0, none⟩) := hide (fun h0 => by
    rcases hR.own.2 with ⟨h1, h2⟩ | ⟨g, cap', cur, h1, h2⟩
    · omega
    · rw [hlv] at h1
      injection h1 with h3 _ _
      exact ⟨g, h3⟩)
  obtain ⟨n, hn⟩ : ∃ n, n = R.es.length := ⟨_, rfl⟩
  have Hn := hide hn
  rw [← hn] at HX HA hl
  have HR := hide hR
  unfold RT.behind
  clear hlv hR hn
  go_enter Tryz.func42, Tryz.ntmps42
  go_wp2_with (first | go_skip | ((with_reducible show wpList _ _ _ _ _ _); first | ((refine alK82 (by rfl) rfl (Hq.nil w []) ?_); intro w1 B hB L1 hb1; have LL := hide L1; replace HR := hide ((unhide HR).on hb1); have HBl : Hid (w.heap.size ≤ B) := hide (Nat.le_of_eq hB.symm); clear hB L1 hb1; simp only [Act.put, nzA, nzB, nzC])))
  go_loopg [6] n (fun gm s6 wr => ∃ j : Nat, s6 = .int .i64 j ∧ j ≤ n ∧ n - j ≤ gm ∧ Hid (Hq w wr [] [(B, zeroE.cs)] ∧ R.Is wr) ∧ Hid (∀ t (h : t < R.es.length), t < j → decide (a < R.es[t].n) = false))
  case atStart => exact ⟨0, rfl, by omega, by omega, hide ⟨unhide LL, unhide HR⟩, hide (fun t h h2 => by omega)⟩
  case round =>
    obtain ⟨j, rfl, hj, hg, HB, HN⟩ := hrel
    have HV2 := hide ((unhide HX) wr (unhide HB).2)
    replace LL := hide (unhide HB).1
    by_cases hjl : j < n
    · have hjz : (j : Int) < n := by omega
      obtain ⟨g, rfl⟩ := (unhide HA) (by omega)
      have hjr : j < R.es.length := by have := unhide Hn; omega
      obtain ⟨x, hx⟩ : ∃ x, x = R.es[j] := ⟨_, rfl⟩
      have HRG : Hid (wr.rangeAt g (j * 21) x.cs) := hide (by rw [hx]; exact (unhide HO) wr (unhide HB).2 g rfl j hjr)
      have HCN : Hid (wr.cell? ⟨g, j * 21 + 20, none⟩ = some (.int .i64 x.n)) := hide ((unhide HRG) 20 _ rfl)
      by_cases ha : a < x.n
      · have HF : Hid (R.es.find? (fun e => decide (a < e.n)) = some x) := hide (by rw [hx]; exact find_first hjr (by rw [← hx]; simpa using ha) (unhide HN))
        clear hx
        go_wp2_with (first | go_skip | ((with_reducible show wpList _ _ _ _ _ _); first | ((refine rd (by rfl) (ex_load1 46 Tryz.isAgg46 rfl rfl (unhide HV2) rfl) ?_); simp only [Act.put, nzA, nzB, nzC]) | ((refine rd (by rfl) (ex_index46 j rfl rfl rfl hjl) ?_); simp only [Act.put, nzA, nzB, nzC]) | ((refine rd (by rfl) (ex_loadC (B := g) (p := j * 21 + 20) 3 Tryz.isAgg3 rfl rfl (unhide HCN)) ?_); simp only [Act.put, nzA, nzB, nzC]) | ((refine rd (by rfl) (ex_loadR (B := g) (p := j * 21) (vs := x.cs) 82 21 row82w siz82w rfl rfl (unhide HRG) rfl) ?_); simp only [Act.put, nzA, nzB, nzC]) | ((refine st (vs := x.cs) 0 82 (by rfl) rfl rfl rfl rfl (ecs_one x) siz82w (unhide LL) rfl (by simp [ecs_length]) (Or.inr (unhide HBl)) ?_); intro w3 L3 hf3 hs3; replace LL := hide L3; clear L3 hf3 hs3; simp only [Act.put, nzA, nzB, nzC])))
        refine ret_ct82 (vs := x.cs) (r := 4) (q := 5) (b := B) rfl rfl rfl rfl ((unhide LL).get 0 rfl) rfl rfl ⟨?_, (unhide LL).fr.below⟩
        rw [unhide HF]
        rfl
      · have hna : ¬ x.n > a := by omega
        have HN2 : Hid (∀ t (h : t < R.es.length), t < j + 1 → decide (a < R.es[t].n) = false) := hide (fun t h h2 => by
          rcases Nat.lt_or_ge t j with h3 | h3
          · exact (unhide HN) t h h3
          · obtain rfl : t = j := by omega
            rw [← hx]
            exact decide_eq_false ha)
        clear hx
        go_wp2_with (first | go_skip | ((with_reducible show wpList _ _ _ _ _ _); first | ((refine rd (by rfl) (ex_load1 46 Tryz.isAgg46 rfl rfl (unhide HV2) rfl) ?_); simp only [Act.put, nzA, nzB, nzC]) | ((refine rd (by rfl) (ex_index46 j rfl rfl rfl hjl) ?_); simp only [Act.put, nzA, nzB, nzC]) | ((refine rd (by rfl) (ex_loadC (B := g) (p := j * 21 + 20) 3 Tryz.isAgg3 rfl rfl (unhide HCN)) ?_); simp only [Act.put, nzA, nzB, nzC])))
        go_roundg (n - (j + 1))
        case measure => omega
        case rel => exact ⟨j + 1, by go_num, by omega, Nat.le_refl _, HB, HN2⟩
    · have hjz : ¬ (j : Int) < n := by omega
      have HF : Hid (R.es.find? (fun e => decide (a < e.n)) = none) := hide (by
        rw [List.find?_eq_none]
        intro y hy
        obtain ⟨t, ht, rfl⟩ := List.getElem_of_mem hy
        have e := unhide Hn
        rw [(unhide HN) t ht (by omega)]
        simp)
      go_wp2_with (first | go_skip | ((with_reducible show wpList _ _ _ _ _ _); first | ((refine rd (by rfl) (ex_load1 46 Tryz.isAgg46 rfl rfl (unhide HV2) rfl) ?_); simp only [Act.put, nzA, nzB, nzC]) | ((refine rd (by rfl) (ex_b82 rfl) ?_); simp only [Act.put, nzA, nzB, nzC]) | ((refine st (vs := zeroE.cs) 0 82 (by rfl) rfl rfl rfl rfl (ecs_one zeroE) siz82w (unhide LL) rfl (by simp [ecs_length]) (Or.inr (unhide HBl)) ?_); intro w3 L3 hf3 hs3; replace LL := hide L3; clear L3 hf3 hs3; simp only [Act.put, nzA, nzB, nzC])))
      refine ret_ct82 (vs := zeroE.cs) (r := 4) (q := 5) (b := B) rfl rfl rfl rfl ((unhide LL).get 0 rfl) rfl rfl ⟨?_, (unhide LL).fr.below⟩
      rw [unhide HF]
      rfl
theorem n1 {α : Type} (l : List α) (i : Nat) (a : α) : l.toArray.setIfInBounds i a = (l.set i a).toArray := List.setIfInBounds_toArray l i a
theorem n2 {α : Type} (x : α) (l : List α) (i : Nat) (a : α) : (x :: l).set (i + 1) a = x :: l.set i a := List.set_cons_succ
theorem n3 {α : Type} (x : α) (l : List α) (a : α) : (x :: l).set 0 a = a :: l := List.set_cons_zero
theorem cut_none {T : TT} {R : RT} {m : Nat} {a : Int} (hal : T.live.map (fun r => decide (m < r.n)) = R.es.map (fun e => decide (a < e.n))) (h : T.next m = none) : R.behind a = none := by
  rw [next_live, List.find?_eq_none] at h
  unfold RT.behind
  rw [List.find?_eq_none]
  intro e he hb
  have h1 : true ∈ R.es.map (fun e => decide (a < e.n)) := List.mem_map.2 ⟨e, he, hb⟩
  rw [← hal] at h1
  obtain ⟨r, hr, h2⟩ := List.mem_map.1 h1
  exact h r hr h2
theorem cut_some {T : TT} {R : RT} {W : World} {m : Nat} {a : Int} {r : RR} (hrel : Rel T R) (hT : T.Is W) (hris : Ris R) (hal : T.live.map (fun r => decide (m < r.n)) = R.es.map (fun e => decide (a < e.n))) (h : T.next m = some r) :
    ∃ x, R.behind a = some x ∧ x.k = r.k ∧ x.d = r.d ∧ x ∈ R.es ∧ r ∈ T.live ∧ T.live.map (fun q => decide (r.n < q.n)) = R.es.map (fun e => decide (x.n < e.n)) := by
  rw [next_live, List.find?_eq_some_iff_getElem] at h
  obtain ⟨hp, i, hi, rfl, hb⟩ := h
  have hlen := hrel.len
  have hi2 : i < R.es.length := by omega
  have hq : ∀ j (h1 : j < T.live.length) (h2 : j < R.es.length), decide (m < T.live[j].n) = decide (a < R.es[j].n) := fun j h1 h2 => by
    have e := congrArg (fun l => l[j]?) hal
    simpa [h1, h2] using e
  have hpr : RR.pr T.live[i] = EE.pr R.es[i] := by
    have e := congrArg (fun l => l[i]?) hrel
    simpa [hi, hi2] using e
  have hr1 := List.pairwise_iff_getElem.1 (live_rise hT)
  have hr2 : ∀ j k (hj : j < R.es.length) (hk : k < R.es.length), j < k → R.es[j].n < R.es[k].n := fun j k hj hk hjk => by
    have := List.pairwise_iff_getElem.1 hris.1 j k (by simpa using hj) (by simpa using hk) hjk
    simpa using this
  refine ⟨R.es[i], ?_, (congrArg Prod.fst hpr).symm, (congrArg Prod.snd hpr).symm, List.getElem_mem hi2, List.getElem_mem hi, ?_⟩
  · unfold RT.behind
    exact find_first hi2 (by rw [← hq i hi hi2]; exact hp) (fun t ht hti => by
      rw [← hq t (by omega) ht]
      have := hb t hti
      simpa using this)
  · apply List.ext_getElem
    · simpa using hlen
    · intro j h1 h2
      simp only [List.length_map] at h1 h2
      simp only [List.getElem_map]
      rcases Nat.lt_trichotomy j i with h3 | h3 | h3
      · have e1 := hr1 j i h1 hi h3
        have e2 := hr2 j i h2 hi2 h3
        rw [decide_eq_false (by omega), decide_eq_false (by omega)]
      · subst h3
        simp
      · have e1 := hr1 i j hi h1 h3
        have e2 := hr2 i j hi2 h2 h3
        rw [decide_eq_true e1, decide_eq_true e2]
/-- Acts within acts, as deep as f. -/
def RdA : Nat → World → Nat → Value → Prop
  | 0, _, _, _ => True
  | f + 1, w, base, v => ∃ A n c, v = .slice A n c ∧ ∀ j, j < n → ∃ g off kd k d nn inner, A = some ⟨g, off, none⟩ ∧ g < base ∧ OkK k ∧ w.rangeAt g (off + j * 23) (actCs kd k d nn inner) ∧ RdA f w base inner
theorem RdA.on {base : Nat} {w w' : World} (hb : Below base w w') : ∀ (f : Nat) (v : Value), RdA f w base v → RdA f w' base v
  | 0, _, _ => trivial
  | f + 1, v, h => by
    obtain ⟨A, n, c, rfl, h2⟩ := h
    refine ⟨A, n, c, rfl, fun j hj => ?_⟩
    obtain ⟨g, off, kd, k, d, nn, inner, h3, h4, h5, h6, h7⟩ := h2 j hj
    exact ⟨g, off, kd, k, d, nn, inner, h3, h4, h5, rng_on h6 (hb.block g h4), RdA.on hb f inner h7⟩
/-- What the plays may cost yet. -/
def Pot (S : PS) (N : Nat) : Int := (N : Int) + 128 * max S.left 0
def PlayP (S : PS) (w : World) (base : Nat) (M lo : Int) (e : Ending) (w' : World) : Prop := e = .returned (.bool true) ∧ ∃ S' N', S'.Is w' base N' ∧ Wk S S' w w' ∧ Pot S' N' ≤ M ∧ lo ≤ S'.left
def PlayAt (dep : Int) (B E f : Nat) : Prop := ∀ (S : PS) (kd : Int) (k : KK) (d : DD) (nn : Int) (inner : Value) (w : World) (base N : Nat), S.Is w base N → Pot S N + B < 800000 → -1000000 + (E : Int) ≤ min S.left 0 → (∀ X, Below base w X → Lib.Utf8Tabs 2 3 X ∧ TabP X) → OkK k → RdA f w base inner → (kd = 10 → S.C = []) → Calls Tryz.prog 8 #[.pointer (some ⟨S.P, 0, none⟩), actV kd k d nn inner, .int .i64 dep] w (PlayP S w base (Pot S N + B) (min S.left 0 - E))
theorem Pot.lt {S : PS} {N : Nat} {M : Int} (h : Pot S N ≤ M) : (N : Int) ≤ M := by unfold Pot at h; omega
theorem PS.Is.room {S : PS} {W : World} {base N : Nat} (h : S.Is W base N) (hN : (N : Int) < 800000) : S.T0.last < 800000 ∧ S.R0.es.length ≤ 800000 := by
  have h1 := h.last.1
  have h2 := h.es0
  omega
/-- Between two rounds of a walk. -/
def W26 (w : World) (S0 : PS) (base : Nat) (L : Int → Nat → List (Nat × List Value)) (M : Int) (s : WS) (W : World) : Prop :=
  ∃ (S : PS) (N : Nat) (a : Int) (n : Nat), PJ w W S0 S base N (L a n) [] ∧ S.T0 = s.T ∧ S.C = ⟨s.m, a, s.rb⟩ :: S0.C ∧ Pot S N ≤ M ∧ s.left = S.left.toNat + 1 ∧ (n : Int) + max S.left 0 ≤ max S0.left 0 ∧ S.left ≤ S0.left ∧ ((n = 0 ∧ S.left = S0.left) ∨ 0 < S.left)
/-- A walk that has ended. -/
def X26 (w : World) (S0 : PS) (base : Nat) (L : List (Nat × List Value)) (M lo : Int) (ds : List Nat) (W : World) : Prop :=
  ∃ (S : PS) (N : Nat) (c : CT), PJ w W S0 S base N L ds ∧ S.C = c :: S0.C ∧ Pot S N ≤ M ∧ S.left ≤ S0.left ∧ lo ≤ S.left
section
variable {w : World} {S0 : PS} {base : Nat} {M lo : Int} {B : Nat}
theorem W26.ownL {L : Int → Nat → List (Nat × List Value)} (hB : w.heap.size ≤ B) : OwnL B (W26 w S0 base L M) := fun s X Y row hs hg hr => by
  obtain ⟨S, N, a, n, h1, h2⟩ := hs
  exact ⟨S, N, a, n, h1.grownL hg (fun r e => ⟨Nat.le_trans hB (hr r e).1, (hr r e).2⟩), h2⟩
theorem X26.ownL {L : List (Nat × List Value)} {ds : List Nat} (hB : w.heap.size ≤ B) : OwnL B (fun (_ : Unit) W => X26 w S0 base L M lo ds W) := fun s X Y row hs hg hr => by
  obtain ⟨S, N, c, h1, h2⟩ := hs
  exact ⟨S, N, c, h1.grownL hg (fun r e => ⟨Nat.le_trans hB (hr r e).1, (hr r e).2⟩), h2⟩
theorem W26.on {L : Int → Nat → List (Nat × List Value)} {s : WS} {X Y : World} (h : W26 w S0 base L M s X) (k : Below X.heap.size X Y) : W26 w S0 base L M s Y := by
  obtain ⟨S, N, a, n, h1, h2⟩ := h
  exact ⟨S, N, a, n, h1.on k, h2⟩
theorem W26.tab {L : Int → Nat → List (Nat × List Value)} {s : WS} {W : World} {Bn i : Nat} (hM : M < 800000) (hb : ∀ a n, (L a n)[i]? = some (Bn, [.pointer (some ⟨S0.T0.t, 0, none⟩)])) (h : W26 w S0 base L M s W) : WTab S0.T0.t Bn s W := by
  obtain ⟨S, N, a, n, h1, h2, h3, h4, h5⟩ := h
  have hc := h1.is.cut ⟨s.m, a, s.rb⟩ (by rw [h3]; simp)
  have hr := h1.is.room (by have := Pot.lt h4; omega)
  rw [h2] at hr
  exact ⟨h2 ▸ h1.is.bs.t0, by rw [← h2]; exact h1.t, by omega, by have := hc.m; rw [h2] at this; exact this, (h1.get i (hb _ _)).cell 0 rfl, fun b e => (hc.row b e).2.2⟩
/-- The walk leaves the pair as a play does. -/
theorem X26.out {L : List (Nat × List Value)} {ds : List Nat} {W Z : World} (h : X26 w S0 base L M lo ds W) (hZ : Fr W Z ds) : ∃ S' N', S'.Is Z base N' ∧ Wk S0 S' w Z ∧ Pot S' N' ≤ M ∧ lo ≤ S'.left := by
  obtain ⟨S, N, c, h1, h2, h3, h4, h5⟩ := h
  have hI : S.Is Z base N := h1.is.fr hZ (fun b hb hm => h1.is.bs.def hb (h1.mkd b hm)) (fun c' hc b e hm => by
    have h6 := ((h1.is.cut c' hc).row b e).2.2
    have h7 := h1.mkd b hm
    simp [World.cell?, h7] at h6)
  refine ⟨{ S with C := S0.C }, N, hI.setC (fun c' hc => hI.cut c' (by rw [h2]; exact List.mem_cons_of_mem _ hc)), ⟨h1.P, h1.fr.trans hZ (fun b hb => .inr (h1.dlow b hb)), h1.new, rfl, h4, fun _ => ⟨h1.t, h1.r⟩⟩, h3, h5⟩
end
/-- The body returns; it does nothing else. -/
def RetM (fn : Func) (n : Nat) (R : Ending → World → Prop) : Exit → Act → World → Prop
  | .normal, a, w | .ret, a, w => LeavesInM Fence.wide n Tryz.prog fn a.tmps R a.defers .returning w
  | _, _, _ => False
theorem retM_post {fn : Func} {n : Nat} {R : Ending → World → Prop} : ∀ (e : Exit) (a : Act) (w : World), RetM fn n R e a w → bodyPostM Fence.wide n Tryz.prog fn R e a w
  | .normal, _, _, h => h
  | .ret, _, _, h => h
  | .panic _, _, _, h => h.elim
  | .outgrown, _, _, h => h.elim
  | .exit _, _, _, h => h.elim
  | .goto _, _, _, h => h.elim
theorem zip2 (p1 p2 : Tmp) (v1 v2 : Value) (t : Array Value) : ((#[p1, p2] : Array Tmp).zip #[v1, v2]).foldl (fun t (x : Tmp × Value) => t.setIfInBounds x.1 x.2) t = (t.setIfInBounds p1 v1).setIfInBounds p2 v2 := by simp
theorem ex_eqFn {o : Oper} {a : Act} {w : World} {x : Operand} {lb : Array Value} (ho : o.op = .binOp .eql 85 x (.const .nilFunc) 85) (hx : a.eval x = .func (.func 49) #[] lb) : (execOp a.eval o).run Tryz.prog w = .ok (.value (.bool false)) w := by
  have e : (binOp .eql 85 (.func (.func 49) #[] lb) .nilFunc).run Tryz.prog w = .ok (.bool false) w := by kernel_rfl
  have e2 : (eqGuard .eql 85 x (.const .nilFunc) (.func (.func 49) #[] lb) .nilFunc).run Tryz.prog w = .ok () w := by kernel_rfl
  have e3 : a.eval (.const .nilFunc) = .nilFunc := rfl
  unfold execOp
  simp only [ho, hx, e3]
  simp [e, e2]
theorem neqKK (k : KK) (w : World) : (binOp .neq 33 k.agg k.agg).run Tryz.prog w = .ok (.bool false) w := by
  unfold KK.agg
  have ht : Tryz.prog.underlying 33 = some (.struct (Tryz.prog.fieldsOf 33)) := by kernel_rfl
  rw [run_neq_struct, show (10000 : Nat) = 9998 + 1 + 1 from rfl, run_equalIn_struct _ _ _ _ _ ht (by kernel_rfl)]
  have hf : Tryz.prog.fieldsOf 33 = (match Tryz.prog.underlying 33 with | some (.struct f) => f | _ => #[]) := by kernel_rfl
  rw [hf, Tryz.underlying33]
  simp [Op.eqFields, go_sem, part]
theorem ex_neqKK {o : Oper} {a : Act} {w : World} {x y : Operand} (k : KK) (ho : o.op = .binOp .neq 33 x y 33) (hx : a.eval x = k.agg) (hy : a.eval y = k.agg) : (execOp a.eval o).run Tryz.prog w = .ok (.value (.bool false)) w := by
  have e := neqKK k w
  have e2 : (eqGuard .neq 33 x y k.agg k.agg).run Tryz.prog w = .ok () w := by kernel_rfl
  unfold execOp
  simp only [ho, hx, hy]
  simp [e, e2]
theorem ex_mulW {o : Oper} {a : Act} {w : World} {x y : Operand} {n m z : Int} (ho : o.op = .binOp .mul 3 x y 3) (hx : a.eval x = .int .i64 n) (hy : a.eval y = .int .i64 m) (h : IntKind.i64.wrap (n * m) = z) : (execOp a.eval o).run Tryz.prog w = .ok (.value (.int .i64 z)) w := by
  rw [← h]
  unfold execOp
  simp only [ho, hx, hy]
  simp [go_sem, eqGuard]
theorem ex_addW {o : Oper} {a : Act} {w : World} {x y : Operand} {n m z : Int} (ho : o.op = .binOp .add 3 x y 3) (hx : a.eval x = .int .i64 n) (hy : a.eval y = .int .i64 m) (h : IntKind.i64.wrap (n + m) = z) : (execOp a.eval o).run Tryz.prog w = .ok (.value (.int .i64 z)) w := by
  rw [← h]
  unfold execOp
  simp only [ho, hx, hy]
  simp [go_sem, eqGuard]
theorem ex_subW {o : Oper} {a : Act} {w : World} {x y : Operand} {n m z : Int} (ho : o.op = .binOp .sub 3 x y 3) (hx : a.eval x = .int .i64 n) (hy : a.eval y = .int .i64 m) (h : IntKind.i64.wrap (n - m) = z) : (execOp a.eval o).run Tryz.prog w = .ok (.value (.int .i64 z)) w := by
  rw [← h]
  unfold execOp
  simp only [ho, hx, hy]
  simp [go_sem, eqGuard]
theorem ex_cmpI {o : Oper} {a : Act} {w : World} {x y : Operand} {n m : Int} {b : BinOp} {r : Bool} (ho : o.op = .binOp b 3 x y 3) (hx : a.eval x = .int .i64 n) (hy : a.eval y = .int .i64 m) (h : (b = .lss ∧ decide (n < m) = r) ∨ (b = .leq ∧ decide (n ≤ m) = r) ∨ (b = .geq ∧ decide (n ≥ m) = r) ∨ (b = .neq ∧ (n != m) = r)) : (execOp a.eval o).run Tryz.prog w = .ok (.value (.bool r)) w := by
  rcases h with ⟨rfl, h⟩ | ⟨rfl, h⟩ | ⟨rfl, h⟩ | ⟨rfl, h⟩ <;> (unfold execOp; simp only [ho, hx, hy]; simp [go_sem, eqGuard, h])
theorem res26 {X : World} {B : Nat} {b : Bool} {tmps : Array Value} (h : Holds X B [.bool b]) (hx : tmps.getD 6 undef = .pointer (some ⟨B, 0, none⟩)) : (results Tryz.f26 tmps).run Tryz.prog X = .ok (.bool b) X := by
  have h0 := h.cell 0 (v := .bool b) rfl
  have hl : (loadVar 4 ⟨B, 0, none⟩).run Tryz.prog X = .ok (.bool b) X := by simp [loadVar, Tryz.isAgg4, h0, go_sem]
  simp only [Array.getD_eq_getD_getElem?] at hx
  unfold results
  simp [show Tryz.f26.results = #[.cell 6 4] from rfl, hx, hl, asAddr]
theorem leave26 {w Y : World} {S0 : PS} {base : Nat} {L : List (Nat × List Value)} {M lo : Int} {ds : List Nat} {B i n : Nat} {tmps : Array Value} (h : X26 w S0 base L M lo ds Y) (hi : L[i]? = some (B, [.bool true])) (hx : tmps.getD 6 undef = .pointer (some ⟨B, 0, none⟩)) : LeavesInM Fence.wide n Tryz.prog Tryz.f26 tmps (PlayP S0 w base M lo) (marks ds) .returning Y := by
  obtain ⟨S, N, c, h1, h2⟩ := h
  refine leaves_marks ds _ h1.dnd h1.mkd (fun Z hZ => ?_)
  have hb := h1.get i hi
  have hne : B ∉ ds := fun hm => hold_def hb (Nat.succ_pos _) (h1.mkd B hm)
  have hb2 : Holds Z B [.bool true] := hb.block (hZ.block B (hb.lt (Nat.succ_pos _)) hne)
  exact ⟨_, res26 hb2 hx, rfl, X26.out ⟨S, N, c, h1, h2⟩ hZ⟩
theorem each41j {w X : World} {S0 S : PS} {base N : Nat} {L : List (Nat × List Value)} {ds : List Nat} (hL : PJ w X S0 S base N L ds) : Calls Tryz.prog 41 #[.pointer (some ⟨S0.T0.t, 0, none⟩)] X fun e Y => ∃ Bn, e = .returned (.func (.func 49) #[] #[.pointer (some ⟨Bn, 0, none⟩)]) ∧ PJ w Y S0 S base N (L ++ [(Bn, [.pointer (some ⟨S0.T0.t, 0, none⟩)])]) ds := by
  have LL := hide hL
  clear hL
  go_enter Tryz.func41, Tryz.ntmps41
  go_wp2_with (first | go_skip | ((with_reducible show wpList _ _ _ _ _ _); first | ((refine bxP 26 ([.pointer (some ⟨S0.T0.t, 0, none⟩)]) (by rfl) rfl rfl rfl (Nat.succ_pos _) (unhide LL) ?_); intro Y1 B1 L1; replace LL := hide L1; clear L1; simp only [Act.put, n1, n2, n3])))
  go_ret
  exact ⟨_, rfl, unhide LL⟩
theorem clL {ops : Array Oper} {rest : List Oper} {Q : Exit → Act → World → Prop} {w : World} {a : Act} {o : Oper} {f : FuncId} {args : Array Value} {R : Ending → World → Prop} (hw : Region.wanted o (yielded ops a.tmps) = true) (he : (execOp a.eval o).run Tryz.prog w = .ok (.enter f args) w) (hC : Calls Tryz.prog f args w R)
    (h : ∀ e X, R e X → ∃ V, e = .returned V ∧ wpList Tryz.prog ops Q rest (a.put o.dst V) X) : wpList Tryz.prog ops Q (o :: rest) a w := by
  refine BigFrame.wpList_want hw fun K hK => ?_
  unfold Oper.wp
  rw [he, Oper.upon_enter]
  refine hC.mono ?_
  intro e X hR
  obtain ⟨V, rfl, hV⟩ := h e X hR
  exact hK _ _ hV
