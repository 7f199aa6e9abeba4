import Derived.Test.YtpbdidnphkkenaaGreatDoorRd
set_option linter.all false
namespace Go.Proofs.YtpbdidnphkkenaaGreatDoor
set_option maxHeartbeats 1000000
section
open Go Go.Proofs Go.Maps Go.RowKit
theorem own_some {w : World} {base e s n : Nat} {A : Option Addr} {c : Nat} {xs : List Value} (h : w.ownsRow base e s (.slice A n c) n xs) (hn : 0 < n) : ∃ g, A = some ⟨g, 0, none⟩ ∧ base ≤ g ∧ g < w.heap.size := by
  rcases h.2 with ⟨h1, h2⟩ | ⟨g, cap, cur, h1, h2⟩
  · omega
  · have hA : A = some ⟨g, 0, none⟩ := by injection h1
    subst hA
    have := World.ownsRow.lt h g rfl
    exact ⟨g, rfl, this.1, this.2⟩
theorem own_len {w : World} {base e s n : Nat} {v : Value} {xs : List Value} (h : w.ownsRow base e s v n xs) : xs.length = n * s := h.1
theorem stx {ops : Array Oper} {rest : List Oper} {Q : Exit → Act → World → Prop} {w : World} {a : Act} {o : Oper} {t : TypeId} {b p : Nat} {cs vs : List Value} {v : Value} {x y : Operand} (hw : Region.wanted o (yielded ops a.tmps) = true) (ho : o.op = .store t x y) (hx : a.eval x = .pointer (some ⟨b, p, none⟩)) (hy : a.eval y = v) (hv : v.cells.toList = vs) (h1 : ∀ u ∈ vs, u.oneCell' = true) (hi : (Tryz.prog.info? t).map (·.size) = some vs.length) (hH : Holds w b cs) (hp : p + vs.length ≤ cs.length)
    (h : wpList Tryz.prog ops Q rest (a.put o.dst undef) (w.setCells b p vs)) : wpList Tryz.prog ops Q (o :: rest) a w := by
  refine BigFrame.wpList_want hw fun K hK => ?_
  have hP := hK _ _ h
  unfold Oper.wp
  rw [ex_store ho hx hy hv h1 hi hH hp]
  exact hP
theorem ordK_len (l : List KK) : (ordK l).length ≤ 3 * l.length := by
  unfold ordK outK strs syms
  rw [List.length_append, List.length_append, List.length_map, mg_len]
  have h1 := ixs_len l
  have h2 := List.length_filter_le (fun k => kd k == 1) l
  have h3 := List.length_filter_le (fun k => kd k == 2) l
  omega
def minusK : KK := ⟨ByteArray.empty, -5⟩
theorem ex_build33m {o : Oper} {a : Act} {w : World} {c : Operand} (ho : o.op = .build 33 #[(1, c)]) (hc : a.eval c = .int .i64 (-5)) : (execOp a.eval o).run Tryz.prog w = .ok (.value (.agg minusK.cs.toArray)) w := by
  have e : (Instr.build 33 #[(1, .int .i64 (-5))]).run Tryz.prog w = .ok (.agg minusK.cs.toArray) w := by kernel_rfl
  unfold execOp
  simp only [ho, List.map_toArray, List.map_cons, List.map_nil, hc]
  simp [e]
theorem ex_build58m {o : Oper} {a : Act} {w : World} {c : Operand} (ho : o.op = .build 58 #[(0, c)]) (hc : a.eval c = .agg minusK.cs.toArray) : (execOp a.eval o).run Tryz.prog w = .ok (.value (.agg (minusK.cs ++ zeroD.cs).toArray)) w := by
  have e : (Instr.build 58 #[(0, .agg minusK.cs.toArray)]).run Tryz.prog w = .ok (.agg (minusK.cs ++ zeroD.cs).toArray) w := by kernel_rfl
  unfold execOp
  simp only [ho, List.map_toArray, List.map_cons, List.map_nil, hc]
  simp [e]
theorem one58m : ∀ u ∈ minusK.cs ++ zeroD.cs, u.oneCell' = true := by simp [minusK, zeroD, zeroV, KK.cs, DD.cs, VV.cs, Value.oneCell']
theorem siz58m : (Tryz.prog.info? 58).map (·.size) = some (minusK.cs ++ zeroD.cs).length := siz58.trans (by rw [show (minusK.cs ++ zeroD.cs).length = 20 from rfl])
theorem siz33m : (Tryz.prog.info? 33).map (·.size) = some minusK.cs.length := siz33.trans (by rw [show minusK.cs.length = 2 from rfl])
theorem cel58m : (Value.agg (minusK.cs ++ zeroD.cs).toArray).cells.toList = minusK.cs ++ zeroD.cs := rfl
theorem cel33m : (Value.agg minusK.cs.toArray).cells.toList = minusK.cs := rfl
theorem one33m : ∀ u ∈ minusK.cs, u.oneCell' = true := by simp [minusK, KK.cs, Value.oneCell']
/-- The rows that were handed out are written over: ours alone. -/
structure Over (w6 wr : World) (A : Option Addr) (n c base e s : Nat) : Prop where
  own : ∃ xs, wr.ownsRow base e s (.slice A n c) n xs
  size : wr.heap.size = w6.heap.size
  os : wr.os = w6.os ∧ wr.tape = w6.tape ∧ wr.output = w6.output
  block : ∀ b, (Value.slice A n c).ownBlock ≠ some b → wr.heap[b]? = w6.heap[b]?
theorem Over.start {w : World} {A : Option Addr} {n c base e s : Nat} {xs : List Value} (h : w.ownsRow base e s (.slice A n c) n xs) : Over w w A n c base e s := ⟨⟨xs, h⟩, rfl, ⟨rfl, rfl, rfl⟩, fun _ _ => rfl⟩
theorem Over.step {w6 wr : World} {g n c base e s p : Nat} {vs : List Value} (h : Over w6 wr (some ⟨g, 0, none⟩) n c base e s) (hp : p + vs.length ≤ n * s) : Over w6 (wr.setCells g p vs) (some ⟨g, 0, none⟩) n c base e s := by
  obtain ⟨⟨xs, h1⟩, h2, h3, h4⟩ := h
  have hl := own_len h1
  refine ⟨⟨_, own_set h1 (by omega)⟩, by rw [size_setCells]; exact h2, ?_, fun b hb => ?_⟩
  · obtain ⟨k1, k2, k3⟩ := os_setCells g vs p wr
    exact ⟨k1.trans h3.1, k2.trans h3.2.1, k3.trans h3.2.2⟩
  · rw [heap_setCells g vs p wr b (fun e => hb (by rw [e]; rfl))]
    exact h4 b hb
theorem Over.below {w w6 wr : World} {A : Option Addr} {n c base e s m : Nat} (h : Over w6 wr A n c base e s) (hb : Below m w w6) (hm : m ≤ base) : Below m w wr := by
  obtain ⟨⟨xs, h1⟩, h2, h3, h4⟩ := h
  refine ⟨h3.1.trans hb.os, h3.2.1.trans hb.tape, h3.2.2.trans hb.output, by rw [h2]; exact hb.size, fun b hbm => ?_⟩
  rw [h4 b (fun e => ?_)]
  · exact hb.block b hbm
  · have := (World.ownsRow.lt h1 b e).1
    omega
set_option maxRecDepth 100000 in
theorem tells9_0 (T : TT) (R : RT) (P t1 r1 : Nat) (left : Int) (w : World) (hP : Holds w P (pairCs T.t t1 R.t r1 left)) (hT : T.Is w) (hR : R.Is w) (hrel : Rel T R) (hlast : T.last < 4000000) (hl : T.live.length ≤ 800000) (hU : Lib.Utf8Tabs 2 3 w) (hTP : TabP w) :
    Calls Tryz.prog 9 #[.pointer (some ⟨P, 0, none⟩), .int .i64 0] w fun e w' => e = .returned (.bool true) ∧ Below w.heap.size w w' := by
  have hrl := hrel.len
  have hrk := hrel.keys
  have hrg := hrel.good hT
  obtain ⟨n, hn⟩ : ∃ n, n = T.live.length := ⟨_, rfl⟩
  obtain ⟨pl, hpl⟩ : ∃ pl, pl = T.live.map RR.pr := ⟨_, rfl⟩
  obtain ⟨kl, hkl⟩ : ∃ kl, kl = ordK (T.live.map (·.k)) := ⟨_, rfl⟩
  have hplen : pl.length = n := by rw [hpl, hn]; simp
  have hklen : kl.length ≤ 3000000 := by
    have := ordK_len (T.live.map (·.k))
    rw [← hkl, List.length_map] at this
    omega
  have HP := hide hP
  have C27 : Hid (∀ X, Below w.heap.size w X → Calls Tryz.prog 27 #[.pointer (some ⟨T.t, 0, none⟩)] X fun e w' => ∃ v, e = .returned v ∧ w'.ownsRow X.heap.size 58 20 v n (flatP pl) ∧ Below X.heap.size X w') := hide (fun X hX => by rw [hn, hpl]; exact props27 T X (hT.on hX) hlast (by omega))
  have C28 : Hid (∀ X, Below w.heap.size w X → Calls Tryz.prog 28 #[.pointer (some ⟨T.t, 0, none⟩)] X fun e w' => ∃ v, e = .returned v ∧ OwnK w' X.heap.size v kl ∧ Below X.heap.size X w') := hide (fun X hX => by rw [hkl]; exact keys28 T X (hT.on hX) hlast (by omega) (tabs_fr hU (Fr.of_below hX []) (by simp)) (hTP.on hX))
  have C23 : Hid (∀ X, Below w.heap.size w X → Calls Tryz.prog 23 #[.pointer (some ⟨R.t, 0, none⟩)] X fun e w' => ∃ v, e = .returned v ∧ w'.ownsRow X.heap.size 58 20 v n (flatP pl) ∧ Below X.heap.size X w') := hide (fun X hX => by rw [hn, hpl, hrl, hrel]; exact refProps23 R X (hR.on hX) (by omega))
  have C29 : Hid (∀ X, Below w.heap.size w X → Calls Tryz.prog 29 #[.pointer (some ⟨R.t, 0, none⟩)] X fun e w' => ∃ v, e = .returned v ∧ OwnK w' X.heap.size v kl ∧ Below X.heap.size X w') := hide (fun X hX => by rw [hkl, hrk]; exact refKeys29 R X (hR.on hX) (by omega) hrg)
  have C30 : Hid (∀ X, Below w.heap.size w X → Calls Tryz.prog 30 #[.pointer (some ⟨T.t, 0, none⟩)] X fun e w' => e = .returned (.int .i64 n) ∧ w' = X) := hide (fun X hX => by rw [hn]; exact len30 T X (hT.on hX))
  have C31 : Hid (∀ (X : World) (v u : Value) (b1 b2 : Nat), X.ownsRow b1 58 20 v n (flatP pl) → X.ownsRow b2 58 20 u n (flatP pl) → Calls Tryz.prog 31 #[v, u] X fun e w' => e = .returned (.bool true) ∧ Below X.heap.size X w') := hide (fun X v u b1 b2 h1 h2 => sameProps31 v u b1 b2 pl X (by rw [hplen]; exact h1) (by rw [hplen]; exact h2) (by omega))
  have C32 : Hid (∀ (X : World) (v u : Value) (b1 b2 : Nat), OwnK X b1 v kl → OwnK X b2 u kl → Calls Tryz.prog 32 #[v, u] X fun e w' => e = .returned (.bool true) ∧ Below X.heap.size X w') := hide (fun X v u b1 b2 h1 h2 => sameKeys32 v u kl X h1.reads h2.reads hklen)
  have hn3 : n ≤ 800000 := by omega
  have hk3 : kl.length ≤ 3000000 := hklen
  clear hP hT hR hrel hlast hl hU hTP hrl hrk hrg hn hpl hkl hplen hklen
  go_enter Tryz.func9, Tryz.ntmps9
  go_wp2_with (first | go_skip | (refine rd (by rfl) (ex_load1 26 Tryz.isAgg26 rfl rfl (unhide HP) rfl) ?_; simp only [Act.put, nzA, nzB, nzC]) | (refine rd (by rfl) (ex_load1 28 Tryz.isAgg28 rfl rfl (unhide HP) rfl) ?_; simp only [Act.put, nzA, nzB, nzC]))
  have Hw : Hid (Below w.heap.size w w) := hide (Below.refl _ _)
  refine ((unhide C27) w (unhide Hw)).mono ?_
  rintro _ w1 ⟨va, rfl, hO, hb⟩
  have Hw1 : Hid (Below w.heap.size w w1) := hide (hb)
  have Ova := hide hO
  have Kw1 := hide hb
  clear hO hb
  go_wp2_with fail
  refine ((unhide C27) w1 (unhide Hw1)).mono ?_
  rintro _ w2 ⟨vb, rfl, hO, hb⟩
  have Hw2 : Hid (Below w.heap.size w w2) := hide ((unhide Hw1).trans (hb.mono (unhide Hw1).size))
  have Ovb := hide hO
  have Kw2 := hide hb
  clear hO hb
  go_wp2_with fail
  refine ((unhide C28) w2 (unhide Hw2)).mono ?_
  rintro _ w3 ⟨vc, rfl, hO, hb⟩
  have Hw3 : Hid (Below w.heap.size w w3) := hide ((unhide Hw2).trans (hb.mono (unhide Hw2).size))
  have Ovc := hide hO
  have Kw3 := hide hb
  clear hO hb
  go_wp2_with fail
  refine ((unhide C28) w3 (unhide Hw3)).mono ?_
  rintro _ w4 ⟨vd, rfl, hO, hb⟩
  have Hw4 : Hid (Below w.heap.size w w4) := hide ((unhide Hw3).trans (hb.mono (unhide Hw3).size))
  have Ovd := hide hO
  have Kw4 := hide hb
  clear hO hb
  go_wp2_with fail
  refine ((unhide C23) w4 (unhide Hw4)).mono ?_
  rintro _ w5 ⟨vp, rfl, hO, hb⟩
  have Hw5 : Hid (Below w.heap.size w w5) := hide ((unhide Hw4).trans (hb.mono (unhide Hw4).size))
  have Ovp := hide hO
  have Kw5 := hide hb
  clear hO hb
  go_wp2_with fail
  refine ((unhide C29) w5 (unhide Hw5)).mono ?_
  rintro _ w6 ⟨vk, rfl, hO, hb⟩
  have Hw6 : Hid (Below w.heap.size w w6) := hide ((unhide Hw5).trans (hb.mono (unhide Hw5).size))
  have Ovk := hide hO
  have Kw6 := hide hb
  clear hO hb
  have hab : Hid (∀ b, va.ownBlock = some b → w.heap.size ≤ b ∧ b < w1.heap.size) := hide (fun b hb => World.ownsRow.lt (unhide Ova) b hb)
  have hbb : Hid (∀ b, vb.ownBlock = some b → w1.heap.size ≤ b ∧ b < w2.heap.size) := hide (fun b hb => World.ownsRow.lt (unhide Ovb) b hb)
  have hcb : Hid (∀ b, vc.ownBlock = some b → w2.heap.size ≤ b ∧ b < w3.heap.size) := hide (fun b hb => World.ownsRow.lt (unhide Ovc) b hb)
  have hdb : Hid (∀ b, vd.ownBlock = some b → w3.heap.size ≤ b ∧ b < w4.heap.size) := hide (fun b hb => World.ownsRow.lt (unhide Ovd) b hb)
  have hpb : Hid (∀ b, vp.ownBlock = some b → w4.heap.size ≤ b ∧ b < w5.heap.size) := hide (fun b hb => World.ownsRow.lt (unhide Ovp) b hb)
  have hkb : Hid (∀ b, vk.ownBlock = some b → w5.heap.size ≤ b ∧ b < w6.heap.size) := hide (fun b hb => World.ownsRow.lt (unhide Ovk) b hb)
  have B56 := hide (unhide Kw6)
  have B46 := hide ((unhide Kw5).trans ((unhide Kw6).mono (unhide Kw5).size))
  have B36 := hide ((unhide Kw4).trans ((unhide B46).mono (unhide Kw4).size))
  have B26 := hide ((unhide Kw3).trans ((unhide B36).mono (unhide Kw3).size))
  have B16 := hide ((unhide Kw2).trans ((unhide B26).mono (unhide Kw2).size))
  replace Ova := hide (own_block (w' := w6) (unhide Ova) (fun g hg => (unhide B16).block g ((unhide hab) g hg).2))
  replace Ovb := hide (own_block (w' := w6) (unhide Ovb) (fun g hg => (unhide B26).block g ((unhide hbb) g hg).2))
  replace Ovc := hide ((unhide Ovc).block (w' := w6) (fun g hg => (unhide B36).block g ((unhide hcb) g hg).2))
  replace Ovd := hide ((unhide Ovd).block (w' := w6) (fun g hg => (unhide B46).block g ((unhide hdb) g hg).2))
  replace Ovp := hide (own_block (w' := w6) (unhide Ovp) (fun g hg => (unhide B56).block g ((unhide hpb) g hg).2))
  have s1 := hide (And.intro (unhide Kw1).size (And.intro (unhide Kw2).size (And.intro (unhide Kw3).size (And.intro (unhide Kw4).size (And.intro (unhide Kw5).size (unhide Kw6).size)))))
  clear Kw1 Kw2 Kw3 Kw4 Kw5 Kw6 B56 B46 B36 B26 B16 Hw1 Hw2 Hw3 Hw4 Hw5
  obtain ⟨Aa, ca, rfl⟩ := own_form (unhide Ova)
  obtain ⟨Ac, cc, rfl⟩ := own_form (unhide Ovc)
  obtain ⟨Ap, cp, rfl⟩ := own_form (unhide Ovp)
  go_wp2_with fail
  refine ((unhide C30) w6 (unhide Hw6)).mono ?_
  rintro _ x6 ⟨rfl, e6⟩
  rw [e6]
  clear e6 x6
  go_wp2_with fail
  refine ((unhide C31) w6 _ _ _ _ (unhide Ova) (unhide Ovp)).mono ?_
  rintro _ w7 ⟨rfl, hb⟩
  have Hw7 := hide ((unhide Hw6).trans (hb.mono (unhide Hw6).size))
  replace Ova := hide (own_block (w' := w7) (unhide Ova) (fun g hg => hb.block g (World.ownsRow.lt (unhide Ova) g hg).2))
  replace Ovb := hide (own_block (w' := w7) (unhide Ovb) (fun g hg => hb.block g (World.ownsRow.lt (unhide Ovb) g hg).2))
  replace Ovc := hide ((unhide Ovc).on hb)
  replace Ovd := hide ((unhide Ovd).on hb)
  replace Ovp := hide (own_block (w' := w7) (unhide Ovp) (fun g hg => hb.block g (World.ownsRow.lt (unhide Ovp) g hg).2))
  replace Ovk := hide ((unhide Ovk).on hb)
  clear hb
  go_wp2_with fail
  refine ((unhide C31) w7 _ _ _ _ (unhide Ovb) (unhide Ovp)).mono ?_
  rintro _ w8 ⟨rfl, hb⟩
  have Hw8 := hide ((unhide Hw7).trans (hb.mono (unhide Hw7).size))
  replace Ova := hide (own_block (w' := w8) (unhide Ova) (fun g hg => hb.block g (World.ownsRow.lt (unhide Ova) g hg).2))
  replace Ovb := hide (own_block (w' := w8) (unhide Ovb) (fun g hg => hb.block g (World.ownsRow.lt (unhide Ovb) g hg).2))
  replace Ovc := hide ((unhide Ovc).on hb)
  replace Ovd := hide ((unhide Ovd).on hb)
  replace Ovp := hide (own_block (w' := w8) (unhide Ovp) (fun g hg => hb.block g (World.ownsRow.lt (unhide Ovp) g hg).2))
  replace Ovk := hide ((unhide Ovk).on hb)
  clear hb
  go_wp2_with fail
  refine ((unhide C32) w8 _ _ _ _ (unhide Ovc) (unhide Ovk)).mono ?_
  rintro _ w9 ⟨rfl, hb⟩
  have Hw9 := hide ((unhide Hw8).trans (hb.mono (unhide Hw8).size))
  replace Ova := hide (own_block (w' := w9) (unhide Ova) (fun g hg => hb.block g (World.ownsRow.lt (unhide Ova) g hg).2))
  replace Ovb := hide (own_block (w' := w9) (unhide Ovb) (fun g hg => hb.block g (World.ownsRow.lt (unhide Ovb) g hg).2))
  replace Ovc := hide ((unhide Ovc).on hb)
  replace Ovd := hide ((unhide Ovd).on hb)
  replace Ovp := hide (own_block (w' := w9) (unhide Ovp) (fun g hg => hb.block g (World.ownsRow.lt (unhide Ovp) g hg).2))
  replace Ovk := hide ((unhide Ovk).on hb)
  clear hb
  go_wp2_with fail
  refine ((unhide C32) w9 _ _ _ _ (unhide Ovd) (unhide Ovk)).mono ?_
  rintro _ w10 ⟨rfl, hb⟩
  have Hw10 := hide ((unhide Hw9).trans (hb.mono (unhide Hw9).size))
  replace Ova := hide (own_block (w' := w10) (unhide Ova) (fun g hg => hb.block g (World.ownsRow.lt (unhide Ova) g hg).2))
  replace Ovb := hide (own_block (w' := w10) (unhide Ovb) (fun g hg => hb.block g (World.ownsRow.lt (unhide Ovb) g hg).2))
  replace Ovc := hide ((unhide Ovc).on hb)
  replace Ovd := hide ((unhide Ovd).on hb)
  replace Ovp := hide (own_block (w' := w10) (unhide Ovp) (fun g hg => hb.block g (World.ownsRow.lt (unhide Ovp) g hg).2))
  replace Ovk := hide ((unhide Ovk).on hb)
  clear hb
  go_wp2_with fail
  go_loopg [13] n (fun gm s13 wr => ∃ j : Nat, s13 = .int .i64 j ∧ j ≤ n ∧ n - j ≤ gm ∧ Hid (Over w10 wr Aa n ca w.heap.size 58 20))
  case atStart => exact ⟨0, rfl, by omega, by omega, hide (Over.start (unhide Ova))⟩
  case round =>
    obtain ⟨j, rfl, hj, hg, HV⟩ := hrel
    by_cases hjl : j < n
    · have hjz : (j : Int) < n := by omega
      obtain ⟨xs, hxs⟩ := (unhide HV).own
      obtain ⟨g, rfl, hg1, hg2⟩ := own_some hxs (by omega)
      have HH := hide (own_holds hxs)
      have hxl := own_len hxs
      have hp2 : Hid (j * 20 + 20 ≤ n * 20) := hide (by omega)
      have HL : Hid (j * 20 + (minusK.cs ++ zeroD.cs).length ≤ xs.length) := hide (by rw [hxl]; exact unhide hp2)
      clear hg1 hg2 hxl hxs
      go_wp2_with (first | go_skip | ((with_reducible apply rd); (case hw => rfl); (case hy => exact ex_index61 j rfl rfl rfl hjl); simp only [Act.put, nzA, nzB, nzC]) | ((with_reducible apply rd); (case hw => rfl); (case hy => exact ex_build33m rfl rfl); simp only [Act.put, nzA, nzB, nzC]) | ((with_reducible apply rd); (case hw => rfl); (case hy => exact ex_build58m rfl rfl); simp only [Act.put, nzA, nzB, nzC]) | ((with_reducible apply stx (t := 58) (b := g) (p := j * 20) (cs := xs) (vs := minusK.cs ++ zeroD.cs) (x := .tmp 78) (y := .tmp 77) (v := .agg (minusK.cs ++ zeroD.cs).toArray)); (case hw => rfl); (case ho => rfl); (case hx => rfl); (case hy => rfl); (case hv => exact cel58m); (case h1 => exact one58m); (case hi => exact siz58m); (case hH => exact unhide HH); (case hp => exact unhide HL); simp only [Act.put, nzA, nzB, nzC]))
      go_roundg (n - (j + 1))
      case measure => omega
      case rel => exact ⟨j + 1, by go_num, by omega, Nat.le_refl _, hide ((unhide HV).step (by have := unhide hp2; exact this))⟩
    · have hjz : ¬ (j : Int) < n := by omega
      rename World => x1
      have Hx1 := hide ((unhide HV).below (unhide Hw10) (Nat.le_refl _))
      replace Ovb := hide (own_block (w' := x1) (unhide Ovb) (fun g hg => (unhide HV).block g (fun e => by have h1 := (unhide hab) g e; have h2 := (unhide hbb) g hg; omega)))
      replace Ovc := hide ((unhide Ovc).block (w' := x1) (fun g hg => (unhide HV).block g (fun e => by have h1 := (unhide hab) g e; have h2 := (unhide hcb) g hg; have h3 := unhide s1; omega)))
      replace Ovd := hide ((unhide Ovd).block (w' := x1) (fun g hg => (unhide HV).block g (fun e => by have h1 := (unhide hab) g e; have h2 := (unhide hdb) g hg; have h3 := unhide s1; omega)))
      replace Ovp := hide (own_block (w' := x1) (unhide Ovp) (fun g hg => (unhide HV).block g (fun e => by have h1 := (unhide hab) g e; have h2 := (unhide hpb) g hg; have h3 := unhide s1; omega)))
      replace Ovk := hide ((unhide Ovk).block (w' := x1) (fun g hg => (unhide HV).block g (fun e => by have h1 := (unhide hab) g e; have h2 := (unhide hkb) g hg; have h3 := unhide s1; omega)))
      have hs2 : Hid (w.heap.size ≤ w2.heap.size) := hide (by have h3 := unhide s1; omega)
      clear HV Hw6 Hw7 Hw8 Hw9 Hw10 Ova hab
      go_wp2_with fail
      clear hjz hj hg
      go_loopg [14] kl.length (fun gm s14 wr => ∃ j : Nat, s14 = .int .i64 j ∧ j ≤ kl.length ∧ kl.length - j ≤ gm ∧ Hid (Over x1 wr Ac kl.length cc w2.heap.size 33 2))
      case atStart => exact ⟨0, rfl, by omega, by omega, hide (Over.start (unhide Ovc))⟩
      case round =>
        obtain ⟨j2, rfl, hj, hg, HV⟩ := hrel
        by_cases hjl : j2 < kl.length
        · have hjz : (j2 : Int) < kl.length := by omega
          obtain ⟨xs, hxs⟩ := (unhide HV).own
          obtain ⟨g, rfl, hg1, hg2⟩ := own_some hxs (by omega)
          have HH := hide (own_holds hxs)
          have hxl := own_len hxs
          have hp2 : Hid (0 + j2 * 2 + 2 ≤ kl.length * 2) := hide (by omega)
          have HL : Hid (0 + j2 * 2 + minusK.cs.length ≤ xs.length) := hide (by rw [hxl]; exact unhide hp2)
          clear hg1 hg2 hxl hxs
          go_wp2_with (first | go_skip | ((with_reducible apply rd); (case hw => rfl); (case hy => exact ex_index64 (off := 0) j2 rfl rfl rfl hjl); simp only [Act.put, nzA, nzB, nzC]) | ((with_reducible apply rd); (case hw => rfl); (case hy => exact ex_build33m rfl rfl); simp only [Act.put, nzA, nzB, nzC]) | ((with_reducible apply stx (t := 33) (b := g) (p := 0 + j2 * 2) (cs := xs) (vs := minusK.cs) (x := .tmp 88) (y := .tmp 87) (v := .agg minusK.cs.toArray)); (case hw => rfl); (case ho => rfl); (case hx => rfl); (case hy => rfl); (case hv => exact cel33m); (case h1 => exact one33m); (case hi => exact siz33m); (case hH => exact unhide HH); (case hp => exact unhide HL); simp only [Act.put, nzA, nzB, nzC]))
          go_roundg (kl.length - (j2 + 1))
          case measure => omega
          case rel => exact ⟨j2 + 1, by go_num, by omega, Nat.le_refl _, hide ((unhide HV).step (by have := unhide hp2; show j2 * 2 + 2 ≤ kl.length * 2; omega))⟩
        · have hjz : ¬ (j2 : Int) < kl.length := by omega
          rename World => x2
          have Hx2 := hide ((unhide HV).below (unhide Hx1) (unhide hs2))
          replace Ovb := hide (own_block (w' := x2) (unhide Ovb) (fun g hg => (unhide HV).block g (fun e => by have h1 := (unhide hcb) g e; have h2 := (unhide hbb) g hg; omega)))
          replace Ovd := hide ((unhide Ovd).block (w' := x2) (fun g hg => (unhide HV).block g (fun e => by have h1 := (unhide hcb) g e; have h2 := (unhide hdb) g hg; omega)))
          replace Ovp := hide (own_block (w' := x2) (unhide Ovp) (fun g hg => (unhide HV).block g (fun e => by have h1 := (unhide hcb) g e; have h2 := (unhide hpb) g hg; have h3 := unhide s1; omega)))
          replace Ovk := hide ((unhide Ovk).block (w' := x2) (fun g hg => (unhide HV).block g (fun e => by have h1 := (unhide hcb) g e; have h2 := (unhide hkb) g hg; have h3 := unhide s1; omega)))
          clear HV Ovc hcb Hx1 hj hg
          go_wp2_with fail
          refine ((unhide C31) x2 _ _ _ _ (unhide Ovb) (unhide Ovp)).mono ?_
          rintro _ x3 ⟨rfl, hb⟩
          have Hx3 := hide ((unhide Hx2).trans (hb.mono (unhide Hx2).size))
          replace Ovd := hide ((unhide Ovd).on hb)
          replace Ovp := hide (own_block (w' := x3) (unhide Ovp) (fun g hg => hb.block g (World.ownsRow.lt (unhide Ovp) g hg).2))
          replace Ovk := hide ((unhide Ovk).on hb)
          clear hb
          go_wp2_with fail
          refine ((unhide C32) x3 _ _ _ _ (unhide Ovd) (unhide Ovk)).mono ?_
          rintro _ x4 ⟨rfl, hb⟩
          have Hx4 := hide ((unhide Hx3).trans (hb.mono (unhide Hx3).size))
          replace Ovp := hide (own_block (w' := x4) (unhide Ovp) (fun g hg => hb.block g (World.ownsRow.lt (unhide Ovp) g hg).2))
          clear hb
          go_wp2_with fail
          refine ((unhide C27) x4 (unhide Hx4)).mono ?_
          rintro _ x5 ⟨v9, rfl, hO, hb⟩
          have Hx5 := hide ((unhide Hx4).trans (hb.mono (unhide Hx4).size))
          replace Ovp := hide (own_block (w' := x5) (unhide Ovp) (fun g hg => hb.block g (World.ownsRow.lt (unhide Ovp) g hg).2))
          have Ov9 := hide hO
          clear hb hO
          go_wp2_with fail
          refine ((unhide C31) x5 _ _ _ _ (unhide Ov9) (unhide Ovp)).mono ?_
          rintro _ x6 ⟨rfl, hb⟩
          have Hx6 := hide ((unhide Hx5).trans (hb.mono (unhide Hx5).size))
          clear hb
          go_wp2
          go_ret
          exact ⟨rfl, unhide Hx6⟩
set_option maxRecDepth 100000 in
theorem tells9_1 (T : TT) (R : RT) (P t1 r1 : Nat) (left : Int) (w : World) (hP : Holds w P (pairCs t1 T.t r1 R.t left)) (hT : T.Is w) (hR : R.Is w) (hrel : Rel T R) (hlast : T.last < 4000000) (hl : T.live.length ≤ 800000) (hU : Lib.Utf8Tabs 2 3 w) (hTP : TabP w) :
    Calls Tryz.prog 9 #[.pointer (some ⟨P, 0, none⟩), .int .i64 1] w fun e w' => e = .returned (.bool true) ∧ Below w.heap.size w w' := by
  have hrl := hrel.len
  have hrk := hrel.keys
  have hrg := hrel.good hT
  obtain ⟨n, hn⟩ : ∃ n, n = T.live.length := ⟨_, rfl⟩
  obtain ⟨pl, hpl⟩ : ∃ pl, pl = T.live.map RR.pr := ⟨_, rfl⟩
  obtain ⟨kl, hkl⟩ : ∃ kl, kl = ordK (T.live.map (·.k)) := ⟨_, rfl⟩
  have hplen : pl.length = n := by rw [hpl, hn]; simp
  have hklen : kl.length ≤ 3000000 := by
    have := ordK_len (T.live.map (·.k))
    rw [← hkl, List.length_map] at this
    omega
  have HP := hide hP
  have C27 : Hid (∀ X, Below w.heap.size w X → Calls Tryz.prog 27 #[.pointer (some ⟨T.t, 0, none⟩)] X fun e w' => ∃ v, e = .returned v ∧ w'.ownsRow X.heap.size 58 20 v n (flatP pl) ∧ Below X.heap.size X w') := hide (fun X hX => by rw [hn, hpl]; exact props27 T X (hT.on hX) hlast (by omega))
  have C28 : Hid (∀ X, Below w.heap.size w X → Calls Tryz.prog 28 #[.pointer (some ⟨T.t, 0, none⟩)] X fun e w' => ∃ v, e = .returned v ∧ OwnK w' X.heap.size v kl ∧ Below X.heap.size X w') := hide (fun X hX => by rw [hkl]; exact keys28 T X (hT.on hX) hlast (by omega) (tabs_fr hU (Fr.of_below hX []) (by simp)) (hTP.on hX))
  have C23 : Hid (∀ X, Below w.heap.size w X → Calls Tryz.prog 23 #[.pointer (some ⟨R.t, 0, none⟩)] X fun e w' => ∃ v, e = .returned v ∧ w'.ownsRow X.heap.size 58 20 v n (flatP pl) ∧ Below X.heap.size X w') := hide (fun X hX => by rw [hn, hpl, hrl, hrel]; exact refProps23 R X (hR.on hX) (by omega))
  have C29 : Hid (∀ X, Below w.heap.size w X → Calls Tryz.prog 29 #[.pointer (some ⟨R.t, 0, none⟩)] X fun e w' => ∃ v, e = .returned v ∧ OwnK w' X.heap.size v kl ∧ Below X.heap.size X w') := hide (fun X hX => by rw [hkl, hrk]; exact refKeys29 R X (hR.on hX) (by omega) hrg)
  have C30 : Hid (∀ X, Below w.heap.size w X → Calls Tryz.prog 30 #[.pointer (some ⟨T.t, 0, none⟩)] X fun e w' => e = .returned (.int .i64 n) ∧ w' = X) := hide (fun X hX => by rw [hn]; exact len30 T X (hT.on hX))
  have C31 : Hid (∀ (X : World) (v u : Value) (b1 b2 : Nat), X.ownsRow b1 58 20 v n (flatP pl) → X.ownsRow b2 58 20 u n (flatP pl) → Calls Tryz.prog 31 #[v, u] X fun e w' => e = .returned (.bool true) ∧ Below X.heap.size X w') := hide (fun X v u b1 b2 h1 h2 => sameProps31 v u b1 b2 pl X (by rw [hplen]; exact h1) (by rw [hplen]; exact h2) (by omega))
  have C32 : Hid (∀ (X : World) (v u : Value) (b1 b2 : Nat), OwnK X b1 v kl → OwnK X b2 u kl → Calls Tryz.prog 32 #[v, u] X fun e w' => e = .returned (.bool true) ∧ Below X.heap.size X w') := hide (fun X v u b1 b2 h1 h2 => sameKeys32 v u kl X h1.reads h2.reads hklen)
  have hn3 : n ≤ 800000 := by omega
  have hk3 : kl.length ≤ 3000000 := hklen
  clear hP hT hR hrel hlast hl hU hTP hrl hrk hrg hn hpl hkl hplen hklen
  go_enter Tryz.func9, Tryz.ntmps9
  go_wp2_with (first | go_skip | (refine rd (by rfl) (ex_load1 26 Tryz.isAgg26 rfl rfl (unhide HP) rfl) ?_; simp only [Act.put, nzA, nzB, nzC]) | (refine rd (by rfl) (ex_load1 28 Tryz.isAgg28 rfl rfl (unhide HP) rfl) ?_; simp only [Act.put, nzA, nzB, nzC]))
  have Hw : Hid (Below w.heap.size w w) := hide (Below.refl _ _)
  refine ((unhide C27) w (unhide Hw)).mono ?_
  rintro _ w1 ⟨va, rfl, hO, hb⟩
  have Hw1 : Hid (Below w.heap.size w w1) := hide (hb)
  have Ova := hide hO
  have Kw1 := hide hb
  clear hO hb
  go_wp2_with fail
  refine ((unhide C27) w1 (unhide Hw1)).mono ?_
  rintro _ w2 ⟨vb, rfl, hO, hb⟩
  have Hw2 : Hid (Below w.heap.size w w2) := hide ((unhide Hw1).trans (hb.mono (unhide Hw1).size))
  have Ovb := hide hO
  have Kw2 := hide hb
  clear hO hb
  go_wp2_with fail
  refine ((unhide C28) w2 (unhide Hw2)).mono ?_
  rintro _ w3 ⟨vc, rfl, hO, hb⟩
  have Hw3 : Hid (Below w.heap.size w w3) := hide ((unhide Hw2).trans (hb.mono (unhide Hw2).size))
  have Ovc := hide hO
  have Kw3 := hide hb
  clear hO hb
  go_wp2_with fail
  refine ((unhide C28) w3 (unhide Hw3)).mono ?_
  rintro _ w4 ⟨vd, rfl, hO, hb⟩
  have Hw4 : Hid (Below w.heap.size w w4) := hide ((unhide Hw3).trans (hb.mono (unhide Hw3).size))
  have Ovd := hide hO
  have Kw4 := hide hb
  clear hO hb
  go_wp2_with fail
  refine ((unhide C23) w4 (unhide Hw4)).mono ?_
  rintro _ w5 ⟨vp, rfl, hO, hb⟩
  have Hw5 : Hid (Below w.heap.size w w5) := hide ((unhide Hw4).trans (hb.mono (unhide Hw4).size))
  have Ovp := hide hO
  have Kw5 := hide hb
  clear hO hb
  go_wp2_with fail
  refine ((unhide C29) w5 (unhide Hw5)).mono ?_
  rintro _ w6 ⟨vk, rfl, hO, hb⟩
  have Hw6 : Hid (Below w.heap.size w w6) := hide ((unhide Hw5).trans (hb.mono (unhide Hw5).size))
  have Ovk := hide hO
  have Kw6 := hide hb
  clear hO hb
  have hab : Hid (∀ b, va.ownBlock = some b → w.heap.size ≤ b ∧ b < w1.heap.size) := hide (fun b hb => World.ownsRow.lt (unhide Ova) b hb)
  have hbb : Hid (∀ b, vb.ownBlock = some b → w1.heap.size ≤ b ∧ b < w2.heap.size) := hide (fun b hb => World.ownsRow.lt (unhide Ovb) b hb)
  have hcb : Hid (∀ b, vc.ownBlock = some b → w2.heap.size ≤ b ∧ b < w3.heap.size) := hide (fun b hb => World.ownsRow.lt (unhide Ovc) b hb)
  have hdb : Hid (∀ b, vd.ownBlock = some b → w3.heap.size ≤ b ∧ b < w4.heap.size) := hide (fun b hb => World.ownsRow.lt (unhide Ovd) b hb)
  have hpb : Hid (∀ b, vp.ownBlock = some b → w4.heap.size ≤ b ∧ b < w5.heap.size) := hide (fun b hb => World.ownsRow.lt (unhide Ovp) b hb)
  have hkb : Hid (∀ b, vk.ownBlock = some b → w5.heap.size ≤ b ∧ b < w6.heap.size) := hide (fun b hb => World.ownsRow.lt (unhide Ovk) b hb)
  have B56 := hide (unhide Kw6)
  have B46 := hide ((unhide Kw5).trans ((unhide Kw6).mono (unhide Kw5).size))
  have B36 := hide ((unhide Kw4).trans ((unhide B46).mono (unhide Kw4).size))
  have B26 := hide ((unhide Kw3).trans ((unhide B36).mono (unhide Kw3).size))
  have B16 := hide ((unhide Kw2).trans ((unhide B26).mono (unhide Kw2).size))
  replace Ova := hide (own_block (w' := w6) (unhide Ova) (fun g hg => (unhide B16).block g ((unhide hab) g hg).2))
  replace Ovb := hide (own_block (w' := w6) (unhide Ovb) (fun g hg => (unhide B26).block g ((unhide hbb) g hg).2))
  replace Ovc := hide ((unhide Ovc).block (w' := w6) (fun g hg => (unhide B36).block g ((unhide hcb) g hg).2))
  replace Ovd := hide ((unhide Ovd).block (w' := w6) (fun g hg => (unhide B46).block g ((unhide hdb) g hg).2))
  replace Ovp := hide (own_block (w' := w6) (unhide Ovp) (fun g hg => (unhide B56).block g ((unhide hpb) g hg).2))
  have s1 := hide (And.intro (unhide Kw1).size (And.intro (unhide Kw2).size (And.intro (unhide Kw3).size (And.intro (unhide Kw4).size (And.intro (unhide Kw5).size (unhide Kw6).size)))))
  clear Kw1 Kw2 Kw3 Kw4 Kw5 Kw6 B56 B46 B36 B26 B16 Hw1 Hw2 Hw3 Hw4 Hw5
  obtain ⟨Aa, ca, rfl⟩ := own_form (unhide Ova)
  obtain ⟨Ac, cc, rfl⟩ := own_form (unhide Ovc)
  obtain ⟨Ap, cp, rfl⟩ := own_form (unhide Ovp)
  go_wp2_with fail
  refine ((unhide C30) w6 (unhide Hw6)).mono ?_
  rintro _ x6 ⟨rfl, e6⟩
  rw [e6]
  clear e6 x6
  go_wp2_with fail
  refine ((unhide C31) w6 _ _ _ _ (unhide Ova) (unhide Ovp)).mono ?_
  rintro _ w7 ⟨rfl, hb⟩
  have Hw7 := hide ((unhide Hw6).trans (hb.mono (unhide Hw6).size))
  replace Ova := hide (own_block (w' := w7) (unhide Ova) (fun g hg => hb.block g (World.ownsRow.lt (unhide Ova) g hg).2))
  replace Ovb := hide (own_block (w' := w7) (unhide Ovb) (fun g hg => hb.block g (World.ownsRow.lt (unhide Ovb) g hg).2))
  replace Ovc := hide ((unhide Ovc).on hb)
  replace Ovd := hide ((unhide Ovd).on hb)
  replace Ovp := hide (own_block (w' := w7) (unhide Ovp) (fun g hg => hb.block g (World.ownsRow.lt (unhide Ovp) g hg).2))
  replace Ovk := hide ((unhide Ovk).on hb)
  clear hb
  go_wp2_with fail
  refine ((unhide C31) w7 _ _ _ _ (unhide Ovb) (unhide Ovp)).mono ?_
  rintro _ w8 ⟨rfl, hb⟩
  have Hw8 := hide ((unhide Hw7).trans (hb.mono (unhide Hw7).size))
  replace Ova := hide (own_block (w' := w8) (unhide Ova) (fun g hg => hb.block g (World.ownsRow.lt (unhide Ova) g hg).2))
  replace Ovb := hide (own_block (w' := w8) (unhide Ovb) (fun g hg => hb.block g (World.ownsRow.lt (unhide Ovb) g hg).2))
  replace Ovc := hide ((unhide Ovc).on hb)
  replace Ovd := hide ((unhide Ovd).on hb)
  replace Ovp := hide (own_block (w' := w8) (unhide Ovp) (fun g hg => hb.block g (World.ownsRow.lt (unhide Ovp) g hg).2))
  replace Ovk := hide ((unhide Ovk).on hb)
  clear hb
  go_wp2_with fail
  refine ((unhide C32) w8 _ _ _ _ (unhide Ovc) (unhide Ovk)).mono ?_
  rintro _ w9 ⟨rfl, hb⟩
  have Hw9 := hide ((unhide Hw8).trans (hb.mono (unhide Hw8).size))
  replace Ova := hide (own_block (w' := w9) (unhide Ova) (fun g hg => hb.block g (World.ownsRow.lt (unhide Ova) g hg).2))
  replace Ovb := hide (own_block (w' := w9) (unhide Ovb) (fun g hg => hb.block g (World.ownsRow.lt (unhide Ovb) g hg).2))
  replace Ovc := hide ((unhide Ovc).on hb)
  replace Ovd := hide ((unhide Ovd).on hb)
  replace Ovp := hide (own_block (w' := w9) (unhide Ovp) (fun g hg => hb.block g (World.ownsRow.lt (unhide Ovp) g hg).2))
  replace Ovk := hide ((unhide Ovk).on hb)
  clear hb
  go_wp2_with fail
  refine ((unhide C32) w9 _ _ _ _ (unhide Ovd) (unhide Ovk)).mono ?_
  rintro _ w10 ⟨rfl, hb⟩
  have Hw10 := hide ((unhide Hw9).trans (hb.mono (unhide Hw9).size))
  replace Ova := hide (own_block (w' := w10) (unhide Ova) (fun g hg => hb.block g (World.ownsRow.lt (unhide Ova) g hg).2))
  replace Ovb := hide (own_block (w' := w10) (unhide Ovb) (fun g hg => hb.block g (World.ownsRow.lt (unhide Ovb) g hg).2))
  replace Ovc := hide ((unhide Ovc).on hb)
  replace Ovd := hide ((unhide Ovd).on hb)
  replace Ovp := hide (own_block (w' := w10) (unhide Ovp) (fun g hg => hb.block g (World.ownsRow.lt (unhide Ovp) g hg).2))
  replace Ovk := hide ((unhide Ovk).on hb)
  clear hb
  go_wp2_with fail
  go_loopg [13] n (fun gm s13 wr => ∃ j : Nat, s13 = .int .i64 j ∧ j ≤ n ∧ n - j ≤ gm ∧ Hid (Over w10 wr Aa n ca w.heap.size 58 20))
  case atStart => exact ⟨0, rfl, by omega, by omega, hide (Over.start (unhide Ova))⟩
  case round =>
    obtain ⟨j, rfl, hj, hg, HV⟩ := hrel
    by_cases hjl : j < n
    · have hjz : (j : Int) < n := by omega
      obtain ⟨xs, hxs⟩ := (unhide HV).own
      obtain ⟨g, rfl, hg1, hg2⟩ := own_some hxs (by omega)
      have HH := hide (own_holds hxs)
      have hxl := own_len hxs
      have hp2 : Hid (j * 20 + 20 ≤ n * 20) := hide (by omega)
      have HL : Hid (j * 20 + (minusK.cs ++ zeroD.cs).length ≤ xs.length) := hide (by rw [hxl]; exact unhide hp2)
      clear hg1 hg2 hxl hxs
      go_wp2_with (first | go_skip | ((with_reducible apply rd); (case hw => rfl); (case hy => exact ex_index61 j rfl rfl rfl hjl); simp only [Act.put, nzA, nzB, nzC]) | ((with_reducible apply rd); (case hw => rfl); (case hy => exact ex_build33m rfl rfl); simp only [Act.put, nzA, nzB, nzC]) | ((with_reducible apply rd); (case hw => rfl); (case hy => exact ex_build58m rfl rfl); simp only [Act.put, nzA, nzB, nzC]) | ((with_reducible apply stx (t := 58) (b := g) (p := j * 20) (cs := xs) (vs := minusK.cs ++ zeroD.cs) (x := .tmp 78) (y := .tmp 77) (v := .agg (minusK.cs ++ zeroD.cs).toArray)); (case hw => rfl); (case ho => rfl); (case hx => rfl); (case hy => rfl); (case hv => exact cel58m); (case h1 => exact one58m); (case hi => exact siz58m); (case hH => exact unhide HH); (case hp => exact unhide HL); simp only [Act.put, nzA, nzB, nzC]))
      go_roundg (n - (j + 1))
      case measure => omega
      case rel => exact ⟨j + 1, by go_num, by omega, Nat.le_refl _, hide ((unhide HV).step (by have := unhide hp2; exact this))⟩
    · have hjz : ¬ (j : Int) < n := by omega
      rename World => x1
      have Hx1 := hide ((unhide HV).below (unhide Hw10) (Nat.le_refl _))
      replace Ovb := hide (own_block (w' := x1) (unhide Ovb) (fun g hg => (unhide HV).block g (fun e => by have h1 := (unhide hab) g e; have h2 := (unhide hbb) g hg; omega)))
      replace Ovc := hide ((unhide Ovc).block (w' := x1) (fun g hg => (unhide HV).block g (fun e => by have h1 := (unhide hab) g e; have h2 := (unhide hcb) g hg; have h3 := unhide s1; omega)))
      replace Ovd := hide ((unhide Ovd).block (w' := x1) (fun g hg => (unhide HV).block g (fun e => by have h1 := (unhide hab) g e; have h2 := (unhide hdb) g hg; have h3 := unhide s1; omega)))
      replace Ovp := hide (own_block (w' := x1) (unhide Ovp) (fun g hg => (unhide HV).block g (fun e => by have h1 := (unhide hab) g e; have h2 := (unhide hpb) g hg; have h3 := unhide s1; omega)))
      replace Ovk := hide ((unhide Ovk).block (w' := x1) (fun g hg => (unhide HV).block g (fun e => by have h1 := (unhide hab) g e; have h2 := (unhide hkb) g hg; have h3 := unhide s1; omega)))
      have hs2 : Hid (w.heap.size ≤ w2.heap.size) := hide (by have h3 := unhide s1; omega)
      clear HV Hw6 Hw7 Hw8 Hw9 Hw10 Ova hab
      go_wp2_with fail
      clear hjz hj hg
      go_loopg [14] kl.length (fun gm s14 wr => ∃ j : Nat, s14 = .int .i64 j ∧ j ≤ kl.length ∧ kl.length - j ≤ gm ∧ Hid (Over x1 wr Ac kl.length cc w2.heap.size 33 2))
      case atStart => exact ⟨0, rfl, by omega, by omega, hide (Over.start (unhide Ovc))⟩
      case round =>
        obtain ⟨j2, rfl, hj, hg, HV⟩ := hrel
        by_cases hjl : j2 < kl.length
        · have hjz : (j2 : Int) < kl.length := by omega
          obtain ⟨xs, hxs⟩ := (unhide HV).own
          obtain ⟨g, rfl, hg1, hg2⟩ := own_some hxs (by omega)
          have HH := hide (own_holds hxs)
          have hxl := own_len hxs
          have hp2 : Hid (0 + j2 * 2 + 2 ≤ kl.length * 2) := hide (by omega)
          have HL : Hid (0 + j2 * 2 + minusK.cs.length ≤ xs.length) := hide (by rw [hxl]; exact unhide hp2)
          clear hg1 hg2 hxl hxs
          go_wp2_with (first | go_skip | ((with_reducible apply rd); (case hw => rfl); (case hy => exact ex_index64 (off := 0) j2 rfl rfl rfl hjl); simp only [Act.put, nzA, nzB, nzC]) | ((with_reducible apply rd); (case hw => rfl); (case hy => exact ex_build33m rfl rfl); simp only [Act.put, nzA, nzB, nzC]) | ((with_reducible apply stx (t := 33) (b := g) (p := 0 + j2 * 2) (cs := xs) (vs := minusK.cs) (x := .tmp 88) (y := .tmp 87) (v := .agg minusK.cs.toArray)); (case hw => rfl); (case ho => rfl); (case hx => rfl); (case hy => rfl); (case hv => exact cel33m); (case h1 => exact one33m); (case hi => exact siz33m); (case hH => exact unhide HH); (case hp => exact unhide HL); simp only [Act.put, nzA, nzB, nzC]))
          go_roundg (kl.length - (j2 + 1))
          case measure => omega
          case rel => exact ⟨j2 + 1, by go_num, by omega, Nat.le_refl _, hide ((unhide HV).step (by have := unhide hp2; show j2 * 2 + 2 ≤ kl.length * 2; omega))⟩
        · have hjz : ¬ (j2 : Int) < kl.length := by omega
          rename World => x2
          have Hx2 := hide ((unhide HV).below (unhide Hx1) (unhide hs2))
          replace Ovb := hide (own_block (w' := x2) (unhide Ovb) (fun g hg => (unhide HV).block g (fun e => by have h1 := (unhide hcb) g e; have h2 := (unhide hbb) g hg; omega)))
          replace Ovd := hide ((unhide Ovd).block (w' := x2) (fun g hg => (unhide HV).block g (fun e => by have h1 := (unhide hcb) g e; have h2 := (unhide hdb) g hg; omega)))
          replace Ovp := hide (own_block (w' := x2) (unhide Ovp) (fun g hg => (unhide HV).block g (fun e => by have h1 := (unhide hcb) g e; have h2 := (unhide hpb) g hg; have h3 := unhide s1; omega)))
          replace Ovk := hide ((unhide Ovk).block (w' := x2) (fun g hg => (unhide HV).block g (fun e => by have h1 := (unhide hcb) g e; have h2 := (unhide hkb) g hg; have h3 := unhide s1; omega)))
          clear HV Ovc hcb Hx1 hj hg
          go_wp2_with fail
          refine ((unhide C31) x2 _ _ _ _ (unhide Ovb) (unhide Ovp)).mono ?_
          rintro _ x3 ⟨rfl, hb⟩
          have Hx3 := hide ((unhide Hx2).trans (hb.mono (unhide Hx2).size))
          replace Ovd := hide ((unhide Ovd).on hb)
          replace Ovp := hide (own_block (w' := x3) (unhide Ovp) (fun g hg => hb.block g (World.ownsRow.lt (unhide Ovp) g hg).2))
          replace Ovk := hide ((unhide Ovk).on hb)
          clear hb
          go_wp2_with fail
          refine ((unhide C32) x3 _ _ _ _ (unhide Ovd) (unhide Ovk)).mono ?_
          rintro _ x4 ⟨rfl, hb⟩
          have Hx4 := hide ((unhide Hx3).trans (hb.mono (unhide Hx3).size))
          replace Ovp := hide (own_block (w' := x4) (unhide Ovp) (fun g hg => hb.block g (World.ownsRow.lt (unhide Ovp) g hg).2))
          clear hb
          go_wp2_with fail
          refine ((unhide C27) x4 (unhide Hx4)).mono ?_
          rintro _ x5 ⟨v9, rfl, hO, hb⟩
          have Hx5 := hide ((unhide Hx4).trans (hb.mono (unhide Hx4).size))
          replace Ovp := hide (own_block (w' := x5) (unhide Ovp) (fun g hg => hb.block g (World.ownsRow.lt (unhide Ovp) g hg).2))
          have Ov9 := hide hO
          clear hb hO
          go_wp2_with fail
          refine ((unhide C31) x5 _ _ _ _ (unhide Ov9) (unhide Ovp)).mono ?_
          rintro _ x6 ⟨rfl, hb⟩
          have Hx6 := hide ((unhide Hx5).trans (hb.mono (unhide Hx5).size))
          clear hb
          go_wp2
          go_ret
          exact ⟨rfl, unhide Hx6⟩
