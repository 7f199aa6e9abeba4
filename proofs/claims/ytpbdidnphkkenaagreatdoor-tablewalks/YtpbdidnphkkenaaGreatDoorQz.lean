import Derived.Test.YtpbdidnphkkenaaGreatDoorQy
set_option linter.all false
namespace Go.Proofs.YtpbdidnphkkenaaGreatDoor
section
open Go Go.Proofs Go.RowKit
structure AO (w W : World) (v : Value) (out l : List KK) : Prop where
  own : OwnK W w.heap.size v out
  srt : SortedK out
  prm : out.Perm (l.filter (fun k => kd k == 0))
  below : Below w.heap.size w W
theorem AO.nil (w : World) : AO w w (.slice none 0 0) [] [] := ⟨OwnK.nil _ _, by unfold SortedK; simp, by simp, Below.refl _ _⟩
theorem AO.on {w W W' : World} {v : Value} {out l : List KK} (h : AO w W v out l) (hb : Below W.heap.size W W') : AO w W' v out l := ⟨h.own.on hb, h.srt, h.prm, h.below.trans (hb.mono h.below.size)⟩
theorem AO.len {w W : World} {v : Value} {out l : List KK} (h : AO w W v out l) : out.length ≤ l.length := by
  rw [h.prm.length_eq]
  exact List.length_filter_le _ _
theorem AO.kd0 {w W : World} {v : Value} {out l : List KK} (h : AO w W v out l) : ∀ k ∈ out, kd k = 0 ∧ k ∈ l := fun k hk => by
  have := List.mem_filter.1 (h.prm.mem_iff.1 hk)
  exact ⟨by simpa using this.2, this.1⟩
theorem AO.skip {w W : World} {v : Value} {out l : List KK} {d : KK} (h : AO w W v out l) (hd : ¬ kd d = 0) : AO w W v out (l ++ [d]) := ⟨h.own, h.srt, by rw [List.filter_append]; simpa [hd] using h.prm, h.below⟩
theorem AO.ins {w W W' : World} {v v' : Value} {out l : List KK} {d : KK} {p : Nat} (h : AO w W v out l) (hd : kd d = 0) (hp : p ≤ out.length) (h1 : ∀ i (h : i < out.length), p ≤ i → kn d < kn out[i]) (h2 : ∀ (h : 0 < p), kn (out[p - 1]'(by omega)) ≤ kn d)
    (ho : OwnK W' w.heap.size v' (out.take p ++ [d] ++ out.drop p)) (hb : Below w.heap.size w W') : AO w W' v' (out.take p ++ d :: out.drop p) (l ++ [d]) := by
  refine ⟨by simpa using ho, ins_sorted h.srt hp h1 h2, ?_, hb⟩
  refine (ins_perm out d p).trans ?_
  rw [List.filter_append]
  have e : [d].filter (fun k => kd k == 0) = [d] := by simp [hd]
  rw [e]
  exact h.prm.append_right [d]
theorem OwnK.rows {w : World} {base g c n : Nat} {l : List KK} (h : OwnK w base (.slice (some ⟨g, 0, none⟩) n c) l) : RowsK w g 0 l := by
  rcases h.form with ⟨h, _⟩ | ⟨g', c', e, _, _, _, hr⟩
  · cases h
  · cases e
    exact hr
theorem gslice {md : Region.Mode} {ops : Array Oper} {Q : Exit → Act → World → Prop} {S : World → Prop} {w : World} {fuel : Nat} {listed : Array Bool} {a : Act} {o : Oper} (i : Nat) (dst : Option Tmp) {x ix : Operand} {b n cap : Nat} (p : Nat) (hi : ops[i]? = some o) (hs : Region.noSelect ops = true) (hf : Region.free md ops listed i = true) (hr : (Region.ready md ops listed).contains i = true)
    (hQ : ∀ c a w, Q (.panic c) (a.put dst (.slice (some ⟨b, 0, none⟩) p cap)) w → Q (.panic c) a w) (hd : o.dst = dst) (hw : Region.wanted o (yielded ops a.tmps) = true) (ho : o.op = .slice 64 x none (some ix) none) (hx : a.eval x = .slice (some ⟨b, 0, none⟩) n cap) (hix : a.eval ix = .int .i64 (p : Nat)) (hp : p ≤ cap)
    (hS : S w) (h : wpAnyH Tryz.prog md ops Q S fuel (listed.setIfInBounds i true) (a.put dst (.slice (some ⟨b, 0, none⟩) p cap)) w) : wpAnyH Tryz.prog md ops Q S (fuel + 1) listed a w := by
  refine gpure i dst _ hi hs hf hr hQ hd hw (fun W => ?_) hS h
  unfold execOp
  simp only [ho, hx, hix, Option.map_some, Option.map_none]
  simp [slice_h b n cap p hp W]
theorem cp_gt {a b : Nat} (h : b < a) : cpN a b = 1 := by unfold cpN; rw [if_neg (by omega), if_pos h]
theorem cp_le {a b : Nat} (h : ¬ b < a) : cpN a b ≤ 0 := by
  unfold cpN
  by_cases h2 : a < b
  · rw [if_pos h2]
    omega
  · rw [if_neg h2, if_neg h]
    omega
theorem gtr1 (w : World) : (binOp .gtr 3 (.int .i64 1) (.int .i64 0)).run Tryz.prog w = .ok (.bool true) w := by kernel_rfl
theorem gtrN (x : Int) (h : x ≤ 0) (w : World) : (binOp .gtr 3 (.int .i64 x) (.int .i64 0)).run Tryz.prog w = .ok (.bool false) w := by
  simp [binOp, go_sem]
  omega
def PH (out l : List KK) (r : Nat) : List KK := if r ≤ 1 then out else if r = 2 then out ++ strs l else out ++ strs l ++ syms l
theorem PH_next (out l : List KK) (r : Nat) (h : r = 1 ∨ r = 2) : PH out l (r + 1) = PH out l r ++ l.filter (fun k => kd k == (r : Int)) := by
  rcases h with rfl | rfl <;> rfl
theorem PH_len (out l : List KK) (r : Nat) (hr : r ≤ 2) (ho : out.length ≤ 1500000) (hl : l.length ≤ 1500000) : (PH out l r).length ≤ 3000000 := by
  have h1 := strs_len l
  have h2 := syms_len l
  unfold PH
  split
  · omega
  · split
    · rw [List.length_append]; omega
    · omega
set_option maxHeartbeats 20000000 in
set_option maxRecDepth 100000 in
theorem refOrder_rows (b off cap : Nat) (l : List KK) (hz : ∀ k ∈ l, goodK k = true) (w : World) (hb : b < w.heap.size) (hr : RowsK w b off l) (hlen : l.length ≤ 1500000) : Calls Tryz.prog 44 #[.slice (some ⟨b, off, none⟩) l.length cap] w fun e w' => ∃ v out, e = .returned v ∧ OwnK w' w.heap.size v (out ++ strs l ++ syms l) ∧ SortedK out ∧ out.Perm (l.filter (fun k => kd k == 0)) ∧ Below w.heap.size w w' := by
  have HRD := hide hr
  have HGD := hide hz
  clear hr hz
  go_enter Tryz.func44, Tryz.ntmps44
  go_wp2_with fail
  go_loopg [3, 4] l.length (fun gm s3 s4 wr => ∃ (j : Nat) (out : List KK), s4 = .int .i64 j ∧ j ≤ l.length ∧ l.length - j ≤ gm ∧ Hid (AO w wr s3 out (l.take j)))
  case atStart => exact ⟨0, [], rfl, by omega, by omega, hide (AO.nil w)⟩
  case round =>
    obtain ⟨j, out, rfl, hj, hg, HO⟩ := hrel
    by_cases hlt : j < l.length
    · have hjz : (j : Int) < l.length := by omega
      obtain ⟨d, hd⟩ : ∃ d, d = l[j] := ⟨_, rfl⟩
      have hst := step_take l j hlt
      rw [← hd] at hst
      have hgd : goodK d = true := by rw [hd]; exact unhide HGD _ (List.getElem_mem hlt)
      have hsz := goodK_size hgd
      have hnn := goodK_n hgd
      have HR : Hid (wr.rangeAt b (off + j * 2) d.cs) := hide (by rw [hd]; exact (unhide HRD).keep ((unhide HO).below.block b hb) j hlt)
      have HRk := hide (rank15 d.s d.n (by omega))
      rw [agg_key] at HRk
      have ekd : kdOf d.s d.n = kd d := rfl
      rw [ekd] at HRk
      have HDj := hide hd
      have HST := hide hst
      clear ekd hgd hd hst
      by_cases hk : kd d = 0
      · rw [hk] at HRk
        have hol : out.length ≤ 1500000 := by have := (unhide HO).len; rw [List.length_take] at this; omega
        go_wp2_with (first | go_skip | ((with_reducible apply kindex (j := j)); (case ho => rfl); (case hw => rfl); (case hx => rfl); (case hix => rfl); (case hj => exact hlt); simp only [Act.put, nzA, nzB, nzC]) | ((with_reducible apply kread (d := d)); (case ho => rfl); (case hw => rfl); (case hx => rfl); (case hc => exact unhide HR); simp only [Act.put, nzA, nzB, nzC]))
        refine (unhide HRk _).mono ?_
        rintro _ w1 ⟨rfl, hb1⟩
        replace HO := hide ((unhide HO).on hb1)
        clear hb1
        rcases (unhide HO).own.form with hnl | hsm
        · obtain ⟨rfl, rfl⟩ := hnl
          have HI : Hid (Below w.heap.size w w1 ∧ OwnK w1 w.heap.size (.slice none 0 0) []) := hide ⟨(unhide HO).below, (unhide HO).own⟩
          have HI0 := HI
          have HINS := hide (fun W v h1 h2 => (unhide HO).ins (W' := W) (v' := v) (p := 0) hk (Nat.zero_le _) (fun i h _ => absurd h (Nat.not_lt_zero i)) (fun h => absurd h (Nat.lt_irrefl 0)) h1 h2)
          go_wp2
          go_loopg [5] 0 (fun gm s5 wr => s5 = .int .i64 0 ∧ Hid (Below w.heap.size w wr ∧ OwnK wr w.heap.size (.slice none 0 0) []))
          case atStart => exact ⟨rfl, HI⟩
          case round =>
            clear HI HI0
            obtain ⟨rfl, HI⟩ := hrel
            have HI0 := HI
            go_wp2_with fail
            refine wp_region_held_drew (P := Tryz.prog) (S := (fun X => Below w.heap.size w X ∧ OwnK X w.heap.size (.slice none 0 0) [])) (by kernel_rfl) ⟨(unhide HI).1.drew, (unhide HI).2⟩ (fun hS0 => ?_)
            refine gpure 0 (some 23) (.int .i64 0) rfl (by kernel_rfl) (by kernel_rfl) (by kernel_rfl) (fun _ _ _ h => h) (by kernel_rfl) (by kernel_rfl) (fun _ => by kernel_rfl) hS0 ?_
            simp only [Act.put, nzA, nzB, nzC]
            refine gpure 1 (some 24) (.bool false) rfl (by kernel_rfl) (by kernel_rfl) (by kernel_rfl) (fun _ _ _ h => h) (by kernel_rfl) (by kernel_rfl) (fun _ => by kernel_rfl) hS0 ?_
            simp only [Act.put, nzA, nzB, nzC]
            refine gpure 2 (some 25) (.bool false) rfl (by kernel_rfl) (by kernel_rfl) (by kernel_rfl) (fun _ _ _ h => h) (by kernel_rfl) (by kernel_rfl) (fun _ => by kernel_rfl) hS0 ?_
            simp only [Act.put, nzA, nzB, nzC]
            refine gskip 3 (some 26) rfl (by kernel_rfl) (by kernel_rfl) (by kernel_rfl) (fun _ _ _ h => h) (by kernel_rfl) (by kernel_rfl) hS0 ?_
            simp only [Act.put, nzA, nzB, nzC]
            refine gskip 4 (some 27) rfl (by kernel_rfl) (by kernel_rfl) (by kernel_rfl) (fun _ _ _ h => h) (by kernel_rfl) (by kernel_rfl) hS0 ?_
            simp only [Act.put, nzA, nzB, nzC]
            refine gskip 5 (some 28) rfl (by kernel_rfl) (by kernel_rfl) (by kernel_rfl) (fun _ _ _ h => h) (by kernel_rfl) (by kernel_rfl) hS0 ?_
            simp only [Act.put, nzA, nzB, nzC]
            refine gskip 6 (some 29) rfl (by kernel_rfl) (by kernel_rfl) (by kernel_rfl) (fun _ _ _ h => h) (by kernel_rfl) (by kernel_rfl) hS0 ?_
            simp only [Act.put, nzA, nzB, nzC]
            refine gskip 7 (some 30) rfl (by kernel_rfl) (by kernel_rfl) (by kernel_rfl) (fun _ _ _ h => h) (by kernel_rfl) (by kernel_rfl) hS0 ?_
            simp only [Act.put, nzA, nzB, nzC]
            refine gskip 8 (some 31) rfl (by kernel_rfl) (by kernel_rfl) (by kernel_rfl) (fun _ _ _ h => h) (by kernel_rfl) (by kernel_rfl) hS0 ?_
            simp only [Act.put, nzA, nzB, nzC]
            refine gskip 9 (some 32) rfl (by kernel_rfl) (by kernel_rfl) (by kernel_rfl) (fun _ _ _ h => h) (by kernel_rfl) (by kernel_rfl) hS0 ?_
            simp only [Act.put, nzA, nzB, nzC]
            refine gskip 10 (some 33) rfl (by kernel_rfl) (by kernel_rfl) (by kernel_rfl) (fun _ _ _ h => h) (by kernel_rfl) (by kernel_rfl) hS0 ?_
            simp only [Act.put, nzA, nzB, nzC]
            refine gskip 11 (some 34) rfl (by kernel_rfl) (by kernel_rfl) (by kernel_rfl) (fun _ _ _ h => h) (by kernel_rfl) (by kernel_rfl) hS0 ?_
            simp only [Act.put, nzA, nzB, nzC]
            refine gskip 12 (some 35) rfl (by kernel_rfl) (by kernel_rfl) (by kernel_rfl) (fun _ _ _ h => h) (by kernel_rfl) (by kernel_rfl) hS0 ?_
            simp only [Act.put, nzA, nzB, nzC]
            refine gskip 13 (some 36) rfl (by kernel_rfl) (by kernel_rfl) (by kernel_rfl) (fun _ _ _ h => h) (by kernel_rfl) (by kernel_rfl) hS0 ?_
            simp only [Act.put, nzA, nzB, nzC]
            refine gpure 14 (some 37) (.bool false) rfl (by kernel_rfl) (by kernel_rfl) (by kernel_rfl) (fun _ _ _ h => h) (by kernel_rfl) (by kernel_rfl) (fun _ => by kernel_rfl) hS0 ?_
            simp only [Act.put, nzA, nzB, nzC]
            refine wpAnyH_done (by kernel_rfl) ?_ _
            try simp only [Act.put, nzA, nzB, nzC]
            clear HI
            have HI := hide hS0
            clear hS0
            replace HI0 := HI
            have hpl : 0 ≤ ([] : List KK).length := Nat.le_refl _
            have HLn : Hid (([] : List KK).length + (([] : List KK).drop 0).length ≤ 5000000) := hide (by rw [List.length_drop]; simp)
            have HLn1 : Hid ((([] : List KK).take 0).length + [d].length ≤ 5000000) := hide (by rw [List.length_take]; simp)
            have HLn2 : Hid ((([] : List KK).take 0 ++ [d]).length + (([] : List KK).drop 0).length ≤ 5000000) := hide (by rw [List.length_append, List.length_take, List.length_drop]; simp)
            go_wp2_with (first | go_skip | ((with_reducible apply kempty); (case ho => rfl); (case hw => rfl); (intro X9 k1 k2 k3; simp only [Act.put, nzA, nzB, nzC]; have HE := hide k1; have HEs := hide (And.intro k2 k3.size); replace HI := hide (And.intro ((unhide HI).1.trans (k3.mono (unhide HI).1.size)) ((unhide HI).2.on k3)); clear k1 k2 k3)) | ((with_reducible apply kslice (p := 0) (out := [])); (case ho => rfl); (case hw => rfl); (case hx => rfl); (case hix => rfl); (case hown => exact (unhide HI).2); (case hp => exact hpl); (intro u9 k1 k2; simp only [Act.put, nzA, nzB, nzC]; have HU := hide k1; have HUc := hide k2; clear k1 k2)) | ((with_reducible apply append_kf (l := []) (m := ([] : List KK).drop 0)); (case hgd => rfl); (case ho => rfl); (case hs => rfl); (case hx => rfl); (case hown => exact unhide HE); (case hu => exact unhide HU); (case hcap => exact unhide HUc); (case hn => exact unhide HLn); (case hbase => exact (unhide HEs).2); (intro v6 X6 k1 k2 k3; simp only [Act.put, nzA, nzB, nzC]; have HV6 := hide k1; have HG6 := hide k2; clear k1 k2 k3)))
            have HB : Hid (Below w.heap.size w X6) := hide ((unhide HI).1.grown (unhide HG6) (unhide HI).1.size (fun k hk => Nat.le_trans (unhide HI0).1.size ((unhide HE).own k hk).1))
            have HOW : Hid (OwnK X6 w.heap.size (Value.slice none 0 0) []) := hide ((unhide HI).2.block (fun k hk => (unhide HG6).block k ((unhide HI).2.own k hk).2 (fun e => by have h1 := ((unhide HI0).2.own k hk).2; have h2 := ((unhide HE).own k e.symm).1; omega)))
            have HV := HV6
            have HOB : Hid (∀ k, Value.ownBlock (.slice none 0 0) = some k → w.heap.size ≤ k) := hide (fun k hk => ((unhide HOW).own k hk).1)
            have HAP : Hid (∀ b, v6.ownBlock = some b → ([] : List KK).drop 0 ≠ [] → some b ≠ (Value.slice none 0 0).ownBlock) := hide (fun k hk _ e => by have h1 := ((unhide HI0).2.own k e.symm).2; have h2 := ((unhide HV6).own k hk).1; omega)
            refine wp_region_held_drew (P := Tryz.prog) (S := (fun X => Below w.heap.size w X)) (by kernel_rfl) ((unhide HB).drew) (fun hS0 => ?_)
            refine gpure 0 (some 45) (.slice none 0 0) rfl (by kernel_rfl) (by kernel_rfl) (by kernel_rfl) (fun _ _ _ h => h) (by kernel_rfl) (by kernel_rfl) (fun _ => by kernel_rfl) hS0 ?_
            simp only [Act.put, nzA, nzB, nzC]
            refine gpure 1 (some 46) (.int .i64 ((0 : Nat) : Int)) rfl (by kernel_rfl) (by kernel_rfl) (by kernel_rfl) (fun _ _ _ h => h) (by kernel_rfl) (by kernel_rfl) (fun _ => by kernel_rfl) hS0 ?_
            simp only [Act.put, nzA, nzB, nzC]
            refine gpure 2 (some 47) (.slice none 0 0) rfl (by kernel_rfl) (by kernel_rfl) (by kernel_rfl) (fun _ _ _ h => h) (by kernel_rfl) (by kernel_rfl) (fun _ => by kernel_rfl) hS0 ?_
            simp only [Act.put, nzA, nzB, nzC]
            refine gpure 3 (some 48) (.slice (some ⟨b, off, none⟩) l.length cap) rfl (by kernel_rfl) (by kernel_rfl) (by kernel_rfl) (fun _ _ _ h => h) (by kernel_rfl) (by kernel_rfl) (fun _ => by kernel_rfl) hS0 ?_
            simp only [Act.put, nzA, nzB, nzC]
            refine gpure 4 (some 49) (.int .i64 (j : Int)) rfl (by kernel_rfl) (by kernel_rfl) (by kernel_rfl) (fun _ _ _ h => h) (by kernel_rfl) (by kernel_rfl) (fun _ => by kernel_rfl) hS0 ?_
            simp only [Act.put, nzA, nzB, nzC]
            refine gindex 5 (some 50) (x := .tmp 48) (ix := .tmp 49) (b := b) (off := off) (n := l.length) (cap := cap) j rfl (by kernel_rfl) (by kernel_rfl) (by kernel_rfl) (fun _ _ _ h => h) (by kernel_rfl) (by kernel_rfl) (by kernel_rfl) (by kernel_rfl) (by kernel_rfl) hlt hS0 ?_
            simp only [Act.put, nzA, nzB, nzC]
            refine gload 6 (some 51) (x := .tmp 50) (b := b) (p := off + j * 2) (d := d) rfl (by kernel_rfl) (by kernel_rfl) (by kernel_rfl) (fun _ _ _ h => h) (by kernel_rfl) (by kernel_rfl) (by kernel_rfl) (by kernel_rfl) (fun X hX => by rw [unhide HDj]; exact (unhide HRD).keep (hX.block b hb) j hlt) hS0 ?_
            simp only [Act.put, nzA, nzB, nzC]
            refine gpure 9 (some 54) (v6) rfl (by kernel_rfl) (by kernel_rfl) (by kernel_rfl) (fun _ _ _ h => h) (by kernel_rfl) (by kernel_rfl) (fun _ => by kernel_rfl) hS0 ?_
            simp only [Act.put, nzA, nzB, nzC]
            refine wpAnyH_ready (rs := [7]) (by kernel_rfl) (by simp) (gbuild 7 (some 52) (x := .tmp 51) (d := d) rfl (by kernel_rfl) (by kernel_rfl) (by kernel_rfl) (by kernel_rfl) (fun X hX => hS0.trans (hX.mono hS0.size)) ?_ AllReadyH.nil)
            intro X7 B7 hB7 hrd7 hb7
            replace hS0 := hS0.trans (hb7.mono hS0.size)
            simp only [Act.put, nzA, nzB, nzC]
            have HW7 := hide (And.intro (OwnK.on (w := X6.drew) (unhide HOW) hb7) (And.intro (OwnK.on (w := X6.drew) (unhide HV) hb7) hrd7))
            clear hB7 hrd7 hb7
            refine wpAnyH_ready (rs := [8]) (by kernel_rfl) (by simp) (gappend 8 (some 53) (s := .tmp 47) (x := .tmp 52) (base := w.heap.size) (l := ([] : List KK).take 0) (m := [d]) (v := .slice none 0 0) (u := .slice (some ⟨B7, 0, none⟩) 1 1) rfl (by kernel_rfl) (by kernel_rfl) (by kernel_rfl) (by kernel_rfl) (by kernel_rfl) (unhide HW7).1 (unhide HW7).2.2 (fun c hc => by cases hc) (by have := unhide HLn1; omega) hS0.size (fun X hX => hS0.grown hX hS0.size (unhide HOB)) ?_ AllReadyH.nil)
            intro v8 X8 ho8 hg8
            replace hS0 := hS0.grown hg8 hS0.size (unhide HOB)
            simp only [Act.put, nzA, nzB, nzC]
            refine wpAnyH_ready (rs := [10]) (by kernel_rfl) (by simp) (gappend 10 (some 55) (s := .tmp 53) (x := .tmp 54) (base := w.heap.size) (l := ([] : List KK).take 0 ++ [d]) (m := ([] : List KK).drop 0) (v := v8) (u := v6) rfl (by kernel_rfl) (by kernel_rfl) (by kernel_rfl) (by kernel_rfl) (by kernel_rfl) ho8 ((unhide HW7).2.1.reads.grown hg8 (unhide HAP)) (own_cap (unhide HV)) (by have := unhide HLn2; omega) hS0.size (fun X hX => hS0.grown hX hS0.size (fun k hk => (ho8.own k hk).1)) ?_ AllReadyH.nil)
            intro v10 X10 ho10 hg10
            replace hS0 := hS0.grown hg10 hS0.size (fun k hk => (ho8.own k hk).1)
            simp only [Act.put, nzA, nzB, nzC]
            refine gpure 11 (some 3) (v10) rfl (by kernel_rfl) (by kernel_rfl) (by kernel_rfl) (fun _ _ _ h => h) (by kernel_rfl) (by kernel_rfl) (fun _ => by kernel_rfl) hS0 ?_
            simp only [Act.put, nzA, nzB, nzC]
            refine wpAnyH_done (by kernel_rfl) ?_ _
            try simp only [Act.put, nzA, nzB, nzC]
            have HFN := hide (And.intro ho10 hS0)
            clear hS0 ho8 hg8 ho10 hg10
            go_wp2
            go_roundg (l.length - (j + 1))
            case measure => omega
            case rel => exact ⟨j + 1, _, by go_num, by omega, Nat.le_refl _, hide (by rw [unhide HST]; exact unhide HINS _ _ (unhide HFN).1 (unhide HFN).2)⟩
        · obtain ⟨g, c, rfl, hlc, hbg, hgl, hrw⟩ := hsm
          clear hrw
          have HI : Hid (Below w.heap.size w w1 ∧ OwnK w1 w.heap.size (.slice (some ⟨g, 0, none⟩) out.length c) out) := hide ⟨(unhide HO).below, (unhide HO).own⟩
          have HOK := hide (unhide HO).kd0
          go_wp2
          go_loopg [5] out.length (fun gm s5 wr => ∃ p : Nat, s5 = .int .i64 p ∧ p ≤ out.length ∧ p ≤ gm ∧ Hid (∀ i (h : i < out.length), p ≤ i → kn d < kn out[i]) ∧ Hid (Below w.heap.size w wr ∧ OwnK wr w.heap.size (.slice (some ⟨g, 0, none⟩) out.length c) out))
          case atStart => exact ⟨out.length, rfl, Nat.le_refl _, Nat.le_refl _, hide (fun i h1 h2 => absurd h1 (Nat.not_lt_of_le h2)), HI⟩
          case round =>
            clear HI
            obtain ⟨p, rfl, hp, hpg, HP, HI⟩ := hrel
            by_cases hp0 : p = 0
            · subst hp0
              have HI0 := HI
              have HINS := hide (fun W v h1 h2 => (unhide HO).ins (W' := W) (v' := v) (p := 0) hk (Nat.zero_le _) (unhide HP) (fun h => absurd h (Nat.lt_irrefl 0)) h1 h2)
              go_wp2_with fail
              refine wp_region_held_drew (P := Tryz.prog) (S := (fun X => Below w.heap.size w X ∧ OwnK X w.heap.size (.slice (some ⟨g, 0, none⟩) out.length c) out)) (by kernel_rfl) ⟨(unhide HI).1.drew, (unhide HI).2⟩ (fun hS0 => ?_)
              refine gpure 0 (some 23) (.int .i64 ((0 : Nat) : Int)) rfl (by kernel_rfl) (by kernel_rfl) (by kernel_rfl) (fun _ _ _ h => h) (by kernel_rfl) (by kernel_rfl) (fun _ => by kernel_rfl) hS0 ?_
              simp only [Act.put, nzA, nzB, nzC]
              refine gpure 1 (some 24) (.bool false) rfl (by kernel_rfl) (by kernel_rfl) (by kernel_rfl) (fun _ _ _ h => h) (by kernel_rfl) (by kernel_rfl) (fun _ => by kernel_rfl) hS0 ?_
              simp only [Act.put, nzA, nzB, nzC]
              refine gpure 2 (some 25) (.bool false) rfl (by kernel_rfl) (by kernel_rfl) (by kernel_rfl) (fun _ _ _ h => h) (by kernel_rfl) (by kernel_rfl) (fun _ => by kernel_rfl) hS0 ?_
              simp only [Act.put, nzA, nzB, nzC]
              refine gskip 3 (some 26) rfl (by kernel_rfl) (by kernel_rfl) (by kernel_rfl) (fun _ _ _ h => h) (by kernel_rfl) (by kernel_rfl) hS0 ?_
              simp only [Act.put, nzA, nzB, nzC]
              refine gskip 4 (some 27) rfl (by kernel_rfl) (by kernel_rfl) (by kernel_rfl) (fun _ _ _ h => h) (by kernel_rfl) (by kernel_rfl) hS0 ?_
              simp only [Act.put, nzA, nzB, nzC]
              refine gskip 5 (some 28) rfl (by kernel_rfl) (by kernel_rfl) (by kernel_rfl) (fun _ _ _ h => h) (by kernel_rfl) (by kernel_rfl) hS0 ?_
              simp only [Act.put, nzA, nzB, nzC]
              refine gskip 6 (some 29) rfl (by kernel_rfl) (by kernel_rfl) (by kernel_rfl) (fun _ _ _ h => h) (by kernel_rfl) (by kernel_rfl) hS0 ?_
              simp only [Act.put, nzA, nzB, nzC]
              refine gskip 7 (some 30) rfl (by kernel_rfl) (by kernel_rfl) (by kernel_rfl) (fun _ _ _ h => h) (by kernel_rfl) (by kernel_rfl) hS0 ?_
              simp only [Act.put, nzA, nzB, nzC]
              refine gskip 8 (some 31) rfl (by kernel_rfl) (by kernel_rfl) (by kernel_rfl) (fun _ _ _ h => h) (by kernel_rfl) (by kernel_rfl) hS0 ?_
              simp only [Act.put, nzA, nzB, nzC]
              refine gskip 9 (some 32) rfl (by kernel_rfl) (by kernel_rfl) (by kernel_rfl) (fun _ _ _ h => h) (by kernel_rfl) (by kernel_rfl) hS0 ?_
              simp only [Act.put, nzA, nzB, nzC]
              refine gskip 10 (some 33) rfl (by kernel_rfl) (by kernel_rfl) (by kernel_rfl) (fun _ _ _ h => h) (by kernel_rfl) (by kernel_rfl) hS0 ?_
              simp only [Act.put, nzA, nzB, nzC]
              refine gskip 11 (some 34) rfl (by kernel_rfl) (by kernel_rfl) (by kernel_rfl) (fun _ _ _ h => h) (by kernel_rfl) (by kernel_rfl) hS0 ?_
              simp only [Act.put, nzA, nzB, nzC]
              refine gskip 12 (some 35) rfl (by kernel_rfl) (by kernel_rfl) (by kernel_rfl) (fun _ _ _ h => h) (by kernel_rfl) (by kernel_rfl) hS0 ?_
              simp only [Act.put, nzA, nzB, nzC]
              refine gskip 13 (some 36) rfl (by kernel_rfl) (by kernel_rfl) (by kernel_rfl) (fun _ _ _ h => h) (by kernel_rfl) (by kernel_rfl) hS0 ?_
              simp only [Act.put, nzA, nzB, nzC]
              refine gpure 14 (some 37) (.bool false) rfl (by kernel_rfl) (by kernel_rfl) (by kernel_rfl) (fun _ _ _ h => h) (by kernel_rfl) (by kernel_rfl) (fun _ => by kernel_rfl) hS0 ?_
              simp only [Act.put, nzA, nzB, nzC]
              refine wpAnyH_done (by kernel_rfl) ?_ _
              try simp only [Act.put, nzA, nzB, nzC]
              clear HI
              have HI := hide hS0
              clear hS0
              replace HI0 := HI
              have hpc : 0 ≤ c := Nat.zero_le _
              have hpl : 0 ≤ out.length := by omega
              have HLn : Hid (([] : List KK).length + (out.drop 0).length ≤ 5000000) := hide (by rw [List.length_drop]; simp <;> omega)
              have HLn1 : Hid ((out.take 0).length + [d].length ≤ 5000000) := hide (by rw [List.length_take]; simp <;> omega)
              have HLn2 : Hid ((out.take 0 ++ [d]).length + (out.drop 0).length ≤ 5000000) := hide (by rw [List.length_append, List.length_take, List.length_drop]; simp <;> omega)
              go_wp2_with (first | go_skip | ((with_reducible apply kempty); (case ho => rfl); (case hw => rfl); (intro X9 k1 k2 k3; simp only [Act.put, nzA, nzB, nzC]; have HE := hide k1; have HEs := hide (And.intro k2 k3.size); replace HI := hide (And.intro ((unhide HI).1.trans (k3.mono (unhide HI).1.size)) ((unhide HI).2.on k3)); clear k1 k2 k3)) | ((with_reducible apply kslice (p := 0) (out := out)); (case ho => rfl); (case hw => rfl); (case hx => rfl); (case hix => rfl); (case hown => exact (unhide HI).2); (case hp => exact hpl); (intro u9 k1 k2; simp only [Act.put, nzA, nzB, nzC]; have HU := hide k1; have HUc := hide k2; clear k1 k2)) | ((with_reducible apply append_kf (l := []) (m := out.drop 0)); (case hgd => rfl); (case ho => rfl); (case hs => rfl); (case hx => rfl); (case hown => exact unhide HE); (case hu => exact unhide HU); (case hcap => exact unhide HUc); (case hn => exact unhide HLn); (case hbase => exact (unhide HEs).2); (intro v6 X6 k1 k2 k3; simp only [Act.put, nzA, nzB, nzC]; have HV6 := hide k1; have HG6 := hide k2; clear k1 k2 k3)))
              have HB : Hid (Below w.heap.size w X6) := hide ((unhide HI).1.grown (unhide HG6) (unhide HI).1.size (fun k hk => Nat.le_trans (unhide HI0).1.size ((unhide HE).own k hk).1))
              have HOW : Hid (OwnK X6 w.heap.size (Value.slice (some ⟨g, 0, none⟩) out.length c) out) := hide ((unhide HI).2.block (fun k hk => (unhide HG6).block k ((unhide HI).2.own k hk).2 (fun e => by have h1 := ((unhide HI0).2.own k hk).2; have h2 := ((unhide HE).own k e.symm).1; omega)))
              have HV := HV6
              have HOB : Hid (∀ k, Value.ownBlock (Value.slice (some ⟨g, 0, none⟩) out.length c) = some k → w.heap.size ≤ k) := hide (fun k hk => ((unhide HOW).own k hk).1)
              have HAP : Hid (∀ b, v6.ownBlock = some b → out.drop 0 ≠ [] → some b ≠ (Value.slice (some ⟨g, 0, none⟩) out.length c).ownBlock) := hide (fun k hk _ e => by have h1 := ((unhide HI0).2.own k e.symm).2; have h2 := ((unhide HV6).own k hk).1; omega)
              refine wp_region_held_drew (P := Tryz.prog) (S := (fun X => Below w.heap.size w X)) (by kernel_rfl) ((unhide HB).drew) (fun hS0 => ?_)
              refine gpure 0 (some 45) (.slice (some ⟨g, 0, none⟩) out.length c) rfl (by kernel_rfl) (by kernel_rfl) (by kernel_rfl) (fun _ _ _ h => h) (by kernel_rfl) (by kernel_rfl) (fun _ => by kernel_rfl) hS0 ?_
              simp only [Act.put, nzA, nzB, nzC]
              refine gpure 1 (some 46) (.int .i64 ((0 : Nat) : Int)) rfl (by kernel_rfl) (by kernel_rfl) (by kernel_rfl) (fun _ _ _ h => h) (by kernel_rfl) (by kernel_rfl) (fun _ => by kernel_rfl) hS0 ?_
              simp only [Act.put, nzA, nzB, nzC]
              refine gslice 2 (some 47) (x := .tmp 45) (ix := .tmp 46) (b := g) (n := out.length) (cap := c) 0 rfl (by kernel_rfl) (by kernel_rfl) (by kernel_rfl) (fun _ _ _ h => h) (by kernel_rfl) (by kernel_rfl) (by kernel_rfl) (by kernel_rfl) (by kernel_rfl) hpc hS0 ?_
              simp only [Act.put, nzA, nzB, nzC]
              refine gpure 3 (some 48) (.slice (some ⟨b, off, none⟩) l.length cap) rfl (by kernel_rfl) (by kernel_rfl) (by kernel_rfl) (fun _ _ _ h => h) (by kernel_rfl) (by kernel_rfl) (fun _ => by kernel_rfl) hS0 ?_
              simp only [Act.put, nzA, nzB, nzC]
              refine gpure 4 (some 49) (.int .i64 (j : Int)) rfl (by kernel_rfl) (by kernel_rfl) (by kernel_rfl) (fun _ _ _ h => h) (by kernel_rfl) (by kernel_rfl) (fun _ => by kernel_rfl) hS0 ?_
              simp only [Act.put, nzA, nzB, nzC]
              refine gindex 5 (some 50) (x := .tmp 48) (ix := .tmp 49) (b := b) (off := off) (n := l.length) (cap := cap) j rfl (by kernel_rfl) (by kernel_rfl) (by kernel_rfl) (fun _ _ _ h => h) (by kernel_rfl) (by kernel_rfl) (by kernel_rfl) (by kernel_rfl) (by kernel_rfl) hlt hS0 ?_
              simp only [Act.put, nzA, nzB, nzC]
              refine gload 6 (some 51) (x := .tmp 50) (b := b) (p := off + j * 2) (d := d) rfl (by kernel_rfl) (by kernel_rfl) (by kernel_rfl) (fun _ _ _ h => h) (by kernel_rfl) (by kernel_rfl) (by kernel_rfl) (by kernel_rfl) (fun X hX => by rw [unhide HDj]; exact (unhide HRD).keep (hX.block b hb) j hlt) hS0 ?_
              simp only [Act.put, nzA, nzB, nzC]
              refine gpure 9 (some 54) (v6) rfl (by kernel_rfl) (by kernel_rfl) (by kernel_rfl) (fun _ _ _ h => h) (by kernel_rfl) (by kernel_rfl) (fun _ => by kernel_rfl) hS0 ?_
              simp only [Act.put, nzA, nzB, nzC]
              refine wpAnyH_ready (rs := [7]) (by kernel_rfl) (by simp) (gbuild 7 (some 52) (x := .tmp 51) (d := d) rfl (by kernel_rfl) (by kernel_rfl) (by kernel_rfl) (by kernel_rfl) (fun X hX => hS0.trans (hX.mono hS0.size)) ?_ AllReadyH.nil)
              intro X7 B7 hB7 hrd7 hb7
              replace hS0 := hS0.trans (hb7.mono hS0.size)
              simp only [Act.put, nzA, nzB, nzC]
              have HW7 := hide (And.intro (OwnK.on (w := X6.drew) (unhide HOW) hb7) (And.intro (OwnK.on (w := X6.drew) (unhide HV) hb7) hrd7))
              clear hB7 hrd7 hb7
              refine wpAnyH_ready (rs := [8]) (by kernel_rfl) (by simp) (gappend 8 (some 53) (s := .tmp 47) (x := .tmp 52) (base := w.heap.size) (l := out.take 0) (m := [d]) (v := .slice (some ⟨g, 0, none⟩) 0 c) (u := .slice (some ⟨B7, 0, none⟩) 1 1) rfl (by kernel_rfl) (by kernel_rfl) (by kernel_rfl) (by kernel_rfl) (by kernel_rfl) ((unhide HW7).1.take 0 hpl) (unhide HW7).2.2 (fun c hc => by cases hc) (by have := unhide HLn1; omega) hS0.size (fun X hX => hS0.grown hX hS0.size (unhide HOB)) ?_ AllReadyH.nil)
              intro v8 X8 ho8 hg8
              replace hS0 := hS0.grown hg8 hS0.size (unhide HOB)
              simp only [Act.put, nzA, nzB, nzC]
              refine wpAnyH_ready (rs := [10]) (by kernel_rfl) (by simp) (gappend 10 (some 55) (s := .tmp 53) (x := .tmp 54) (base := w.heap.size) (l := out.take 0 ++ [d]) (m := out.drop 0) (v := v8) (u := v6) rfl (by kernel_rfl) (by kernel_rfl) (by kernel_rfl) (by kernel_rfl) (by kernel_rfl) ho8 ((unhide HW7).2.1.reads.grown hg8 (unhide HAP)) (own_cap (unhide HV)) (by have := unhide HLn2; omega) hS0.size (fun X hX => hS0.grown hX hS0.size (fun k hk => (ho8.own k hk).1)) ?_ AllReadyH.nil)
              intro v10 X10 ho10 hg10
              replace hS0 := hS0.grown hg10 hS0.size (fun k hk => (ho8.own k hk).1)
              simp only [Act.put, nzA, nzB, nzC]
              refine gpure 11 (some 3) (v10) rfl (by kernel_rfl) (by kernel_rfl) (by kernel_rfl) (fun _ _ _ h => h) (by kernel_rfl) (by kernel_rfl) (fun _ => by kernel_rfl) hS0 ?_
              simp only [Act.put, nzA, nzB, nzC]
              refine wpAnyH_done (by kernel_rfl) ?_ _
              try simp only [Act.put, nzA, nzB, nzC]
              have HFN := hide (And.intro ho10 hS0)
              clear hS0 ho8 hg8 ho10 hg10
              go_wp2
              go_roundg (l.length - (j + 1))
              case measure => omega
              case rel => exact ⟨j + 1, _, by go_num, by omega, Nat.le_refl _, hide (by rw [unhide HST]; exact unhide HINS _ _ (unhide HFN).1 (unhide HFN).2)⟩
            · obtain ⟨m, rfl⟩ : ∃ m, p = m + 1 := ⟨p - 1, by omega⟩
              have hml : m < out.length := by omega
              have hm60 : m < 4000000 := by omega
              obtain ⟨a, ha⟩ : ∃ a, a = out[m] := ⟨_, rfl⟩
              have hak := unhide HOK a (by rw [ha]; exact List.getElem_mem hml)
              have hag : goodK a = true := unhide HGD _ (List.mem_of_mem_take hak.2)
              have HX := hide (refCmp a d (goodK_size hag) hsz (goodK_n hag) hnn)
              rw [cmp0 hak.1 hk] at HX
              by_cases hc : kn d < kn a
              · have HAm := hide ha
                rw [cp_gt hc] at HX
                have HP2 : Hid (∀ i (h : i < out.length), m ≤ i → kn d < kn out[i]) := hide (fun i h1 h2 => by
                  by_cases e : i = m
                  · subst e
                    rw [← ha]
                    exact hc
                  · exact unhide HP i h1 (by omega))
                clear ha hc
                go_wp2_with fail
                refine wp_region_held_drew (P := Tryz.prog) (S := (fun X => Below w.heap.size w X ∧ OwnK X w.heap.size (.slice (some ⟨g, 0, none⟩) out.length c) out)) (by kernel_rfl) ⟨(unhide HI).1.drew, (unhide HI).2⟩ (fun hS0 => ?_)
                refine gpure 0 (some 23) (.int .i64 ((m + 1 : Nat) : Int)) rfl (by kernel_rfl) (by kernel_rfl) (by kernel_rfl) (fun _ _ _ h => h) (by kernel_rfl) (by kernel_rfl) (fun _ => by kernel_rfl) hS0 ?_
                simp only [Act.put, nzA, nzB, nzC]
                refine gbin 1 (some 24) (b := .gtr) (t := 3) (t2 := 3) (x := .tmp 23) (y := .const (.int .i64 0)) (vx := .int .i64 ((m + 1 : Nat) : Int)) (vy := .int .i64 0) (.bool true) rfl (by kernel_rfl) (by kernel_rfl) (by kernel_rfl) (fun _ _ _ h => h) (by kernel_rfl) (by kernel_rfl) (by kernel_rfl) (by kernel_rfl) (by kernel_rfl) (gtr0 m) (fun _ => by kernel_rfl) hS0 ?_
                simp only [Act.put, nzA, nzB, nzC]
                refine gpure 2 (some 25) (.bool true) rfl (by kernel_rfl) (by kernel_rfl) (by kernel_rfl) (fun _ _ _ h => h) (by kernel_rfl) (by kernel_rfl) (fun _ => by kernel_rfl) hS0 ?_
                simp only [Act.put, nzA, nzB, nzC]
                refine gpure 3 (some 26) (.slice (some ⟨g, 0, none⟩) out.length c) rfl (by kernel_rfl) (by kernel_rfl) (by kernel_rfl) (fun _ _ _ h => h) (by kernel_rfl) (by kernel_rfl) (fun _ => by kernel_rfl) hS0 ?_
                simp only [Act.put, nzA, nzB, nzC]
                refine gpure 4 (some 27) (.int .i64 ((m + 1 : Nat) : Int)) rfl (by kernel_rfl) (by kernel_rfl) (by kernel_rfl) (fun _ _ _ h => h) (by kernel_rfl) (by kernel_rfl) (fun _ => by kernel_rfl) hS0 ?_
                simp only [Act.put, nzA, nzB, nzC]
                refine gbin 5 (some 28) (b := .sub) (t := 3) (t2 := 3) (x := .tmp 27) (y := .const (.int .i64 1)) (vx := .int .i64 ((m + 1 : Nat) : Int)) (vy := .int .i64 1) (.int .i64 (m : Int)) rfl (by kernel_rfl) (by kernel_rfl) (by kernel_rfl) (fun _ _ _ h => h) (by kernel_rfl) (by kernel_rfl) (by kernel_rfl) (by kernel_rfl) (by kernel_rfl) (sub1 m hm60) (fun _ => by kernel_rfl) hS0 ?_
                simp only [Act.put, nzA, nzB, nzC]
                refine gindex 6 (some 29) (x := .tmp 26) (ix := .tmp 28) (b := g) (off := 0) (n := out.length) (cap := c) m rfl (by kernel_rfl) (by kernel_rfl) (by kernel_rfl) (fun _ _ _ h => h) (by kernel_rfl) (by kernel_rfl) (by kernel_rfl) (by kernel_rfl) (by kernel_rfl) hml hS0 ?_
                simp only [Act.put, nzA, nzB, nzC]
                refine gload 7 (some 30) (x := .tmp 29) (b := g) (p := 0 + m * 2) (d := a) rfl (by kernel_rfl) (by kernel_rfl) (by kernel_rfl) (fun _ _ _ h => h) (by kernel_rfl) (by kernel_rfl) (by kernel_rfl) (by kernel_rfl) (fun X hX => by rw [unhide HAm]; exact hX.2.rows m hml) hS0 ?_
                simp only [Act.put, nzA, nzB, nzC]
                refine gpure 8 (some 31) (.slice (some ⟨b, off, none⟩) l.length cap) rfl (by kernel_rfl) (by kernel_rfl) (by kernel_rfl) (fun _ _ _ h => h) (by kernel_rfl) (by kernel_rfl) (fun _ => by kernel_rfl) hS0 ?_
                simp only [Act.put, nzA, nzB, nzC]
                refine gpure 9 (some 32) (.int .i64 (j : Int)) rfl (by kernel_rfl) (by kernel_rfl) (by kernel_rfl) (fun _ _ _ h => h) (by kernel_rfl) (by kernel_rfl) (fun _ => by kernel_rfl) hS0 ?_
                simp only [Act.put, nzA, nzB, nzC]
                refine gindex 10 (some 33) (x := .tmp 31) (ix := .tmp 32) (b := b) (off := off) (n := l.length) (cap := cap) j rfl (by kernel_rfl) (by kernel_rfl) (by kernel_rfl) (fun _ _ _ h => h) (by kernel_rfl) (by kernel_rfl) (by kernel_rfl) (by kernel_rfl) (by kernel_rfl) hlt hS0 ?_
                simp only [Act.put, nzA, nzB, nzC]
                refine gload 11 (some 34) (x := .tmp 33) (b := b) (p := off + j * 2) (d := d) rfl (by kernel_rfl) (by kernel_rfl) (by kernel_rfl) (fun _ _ _ h => h) (by kernel_rfl) (by kernel_rfl) (by kernel_rfl) (by kernel_rfl) (fun X hX => by rw [unhide HDj]; exact (unhide HRD).keep (hX.1.block b hb) j hlt) hS0 ?_
                simp only [Act.put, nzA, nzB, nzC]
                refine wpAnyH_ready (rs := [12]) (by kernel_rfl) (by simp) (gcall 12 (some 35) rfl (by kernel_rfl) (by kernel_rfl) (by kernel_rfl) (unhide HX _) (fun X hX => ⟨hS0.1.trans (hX.mono hS0.1.size), hS0.2.on hX⟩) ?_ AllReadyH.nil)
                intro X hX
                replace hS0 : Below w.heap.size w X ∧ OwnK X w.heap.size (.slice (some ⟨g, 0, none⟩) out.length c) out := ⟨hS0.1.trans (hX.mono hS0.1.size), hS0.2.on hX⟩
                clear hX
                simp only [Act.put, nzA, nzB, nzC]
                refine gbin 13 (some 36) (b := .gtr) (t := 3) (t2 := 3) (x := .tmp 35) (y := .const (.int .i64 0)) (vx := .int .i64 1) (vy := .int .i64 0) (.bool true) rfl (by kernel_rfl) (by kernel_rfl) (by kernel_rfl) (fun _ _ _ h => h) (by kernel_rfl) (by kernel_rfl) (by kernel_rfl) (by kernel_rfl) (by kernel_rfl) gtr1 (fun _ => by kernel_rfl) hS0 ?_
                simp only [Act.put, nzA, nzB, nzC]
                refine gpure 14 (some 37) (.bool true) rfl (by kernel_rfl) (by kernel_rfl) (by kernel_rfl) (fun _ _ _ h => h) (by kernel_rfl) (by kernel_rfl) (fun _ => by kernel_rfl) hS0 ?_
                simp only [Act.put, nzA, nzB, nzC]
                refine wpAnyH_done (by kernel_rfl) ?_ _
                try simp only [Act.put, nzA, nzB, nzC]
                clear HI
                have HI := hide hS0
                clear hS0
                go_wp2
                go_roundg m
                case measure => omega
                case rel => exact ⟨m, by go_num, by omega, Nat.le_refl _, HP2, HI⟩
              · have HAm := hide ha
                obtain ⟨cv, hcv0⟩ : ∃ cv, cv = cpN (kn a) (kn d) := ⟨_, rfl⟩
                have hcv : cv ≤ 0 := by rw [hcv0]; exact cp_le hc
                rw [← hcv0] at HX
                have HI0 := HI
                have hpl0 : m + 1 ≤ out.length := hml
                have HINS := hide (fun W v h1 h2 => (unhide HO).ins (W' := W) (v' := v) (p := m + 1) hk hpl0 (unhide HP) (fun h => by show kn out[m] ≤ kn d; rw [← ha]; omega) h1 h2)
                clear hcv0 hc ha
                go_wp2_with fail
                refine wp_region_held_drew (P := Tryz.prog) (S := (fun X => Below w.heap.size w X ∧ OwnK X w.heap.size (.slice (some ⟨g, 0, none⟩) out.length c) out)) (by kernel_rfl) ⟨(unhide HI).1.drew, (unhide HI).2⟩ (fun hS0 => ?_)
                refine gpure 0 (some 23) (.int .i64 ((m + 1 : Nat) : Int)) rfl (by kernel_rfl) (by kernel_rfl) (by kernel_rfl) (fun _ _ _ h => h) (by kernel_rfl) (by kernel_rfl) (fun _ => by kernel_rfl) hS0 ?_
                simp only [Act.put, nzA, nzB, nzC]
                refine gbin 1 (some 24) (b := .gtr) (t := 3) (t2 := 3) (x := .tmp 23) (y := .const (.int .i64 0)) (vx := .int .i64 ((m + 1 : Nat) : Int)) (vy := .int .i64 0) (.bool true) rfl (by kernel_rfl) (by kernel_rfl) (by kernel_rfl) (fun _ _ _ h => h) (by kernel_rfl) (by kernel_rfl) (by kernel_rfl) (by kernel_rfl) (by kernel_rfl) (gtr0 m) (fun _ => by kernel_rfl) hS0 ?_
                simp only [Act.put, nzA, nzB, nzC]
                refine gpure 2 (some 25) (.bool true) rfl (by kernel_rfl) (by kernel_rfl) (by kernel_rfl) (fun _ _ _ h => h) (by kernel_rfl) (by kernel_rfl) (fun _ => by kernel_rfl) hS0 ?_
                simp only [Act.put, nzA, nzB, nzC]
                refine gpure 3 (some 26) (.slice (some ⟨g, 0, none⟩) out.length c) rfl (by kernel_rfl) (by kernel_rfl) (by kernel_rfl) (fun _ _ _ h => h) (by kernel_rfl) (by kernel_rfl) (fun _ => by kernel_rfl) hS0 ?_
                simp only [Act.put, nzA, nzB, nzC]
                refine gpure 4 (some 27) (.int .i64 ((m + 1 : Nat) : Int)) rfl (by kernel_rfl) (by kernel_rfl) (by kernel_rfl) (fun _ _ _ h => h) (by kernel_rfl) (by kernel_rfl) (fun _ => by kernel_rfl) hS0 ?_
                simp only [Act.put, nzA, nzB, nzC]
                refine gbin 5 (some 28) (b := .sub) (t := 3) (t2 := 3) (x := .tmp 27) (y := .const (.int .i64 1)) (vx := .int .i64 ((m + 1 : Nat) : Int)) (vy := .int .i64 1) (.int .i64 (m : Int)) rfl (by kernel_rfl) (by kernel_rfl) (by kernel_rfl) (fun _ _ _ h => h) (by kernel_rfl) (by kernel_rfl) (by kernel_rfl) (by kernel_rfl) (by kernel_rfl) (sub1 m hm60) (fun _ => by kernel_rfl) hS0 ?_
                simp only [Act.put, nzA, nzB, nzC]
                refine gindex 6 (some 29) (x := .tmp 26) (ix := .tmp 28) (b := g) (off := 0) (n := out.length) (cap := c) m rfl (by kernel_rfl) (by kernel_rfl) (by kernel_rfl) (fun _ _ _ h => h) (by kernel_rfl) (by kernel_rfl) (by kernel_rfl) (by kernel_rfl) (by kernel_rfl) hml hS0 ?_
                simp only [Act.put, nzA, nzB, nzC]
                refine gload 7 (some 30) (x := .tmp 29) (b := g) (p := 0 + m * 2) (d := a) rfl (by kernel_rfl) (by kernel_rfl) (by kernel_rfl) (fun _ _ _ h => h) (by kernel_rfl) (by kernel_rfl) (by kernel_rfl) (by kernel_rfl) (fun X hX => by rw [unhide HAm]; exact hX.2.rows m hml) hS0 ?_
                simp only [Act.put, nzA, nzB, nzC]
                refine gpure 8 (some 31) (.slice (some ⟨b, off, none⟩) l.length cap) rfl (by kernel_rfl) (by kernel_rfl) (by kernel_rfl) (fun _ _ _ h => h) (by kernel_rfl) (by kernel_rfl) (fun _ => by kernel_rfl) hS0 ?_
                simp only [Act.put, nzA, nzB, nzC]
                refine gpure 9 (some 32) (.int .i64 (j : Int)) rfl (by kernel_rfl) (by kernel_rfl) (by kernel_rfl) (fun _ _ _ h => h) (by kernel_rfl) (by kernel_rfl) (fun _ => by kernel_rfl) hS0 ?_
                simp only [Act.put, nzA, nzB, nzC]
                refine gindex 10 (some 33) (x := .tmp 31) (ix := .tmp 32) (b := b) (off := off) (n := l.length) (cap := cap) j rfl (by kernel_rfl) (by kernel_rfl) (by kernel_rfl) (fun _ _ _ h => h) (by kernel_rfl) (by kernel_rfl) (by kernel_rfl) (by kernel_rfl) (by kernel_rfl) hlt hS0 ?_
                simp only [Act.put, nzA, nzB, nzC]
                refine gload 11 (some 34) (x := .tmp 33) (b := b) (p := off + j * 2) (d := d) rfl (by kernel_rfl) (by kernel_rfl) (by kernel_rfl) (fun _ _ _ h => h) (by kernel_rfl) (by kernel_rfl) (by kernel_rfl) (by kernel_rfl) (fun X hX => by rw [unhide HDj]; exact (unhide HRD).keep (hX.1.block b hb) j hlt) hS0 ?_
                simp only [Act.put, nzA, nzB, nzC]
                refine wpAnyH_ready (rs := [12]) (by kernel_rfl) (by simp) (gcall 12 (some 35) rfl (by kernel_rfl) (by kernel_rfl) (by kernel_rfl) (unhide HX _) (fun X hX => ⟨hS0.1.trans (hX.mono hS0.1.size), hS0.2.on hX⟩) ?_ AllReadyH.nil)
                intro X hX
                replace hS0 : Below w.heap.size w X ∧ OwnK X w.heap.size (.slice (some ⟨g, 0, none⟩) out.length c) out := ⟨hS0.1.trans (hX.mono hS0.1.size), hS0.2.on hX⟩
                clear hX
                simp only [Act.put, nzA, nzB, nzC]
                refine gbin 13 (some 36) (b := .gtr) (t := 3) (t2 := 3) (x := .tmp 35) (y := .const (.int .i64 0)) (vx := .int .i64 cv) (vy := .int .i64 0) (.bool false) rfl (by kernel_rfl) (by kernel_rfl) (by kernel_rfl) (fun _ _ _ h => h) (by kernel_rfl) (by kernel_rfl) (by kernel_rfl) (by kernel_rfl) (by kernel_rfl) (gtrN cv hcv) (fun _ => by kernel_rfl) hS0 ?_
                simp only [Act.put, nzA, nzB, nzC]
                refine gpure 14 (some 37) (.bool false) rfl (by kernel_rfl) (by kernel_rfl) (by kernel_rfl) (fun _ _ _ h => h) (by kernel_rfl) (by kernel_rfl) (fun _ => by kernel_rfl) hS0 ?_
                simp only [Act.put, nzA, nzB, nzC]
                refine wpAnyH_done (by kernel_rfl) ?_ _
                try simp only [Act.put, nzA, nzB, nzC]
                clear HI
                have HI := hide hS0
                clear hS0
                replace HI0 := HI
                have hpc : m + 1 ≤ c := by omega
                have hpl : (m + 1) ≤ out.length := by omega
                have HLn : Hid (([] : List KK).length + (out.drop (m + 1)).length ≤ 5000000) := hide (by rw [List.length_drop]; simp <;> omega)
                have HLn1 : Hid ((out.take (m + 1)).length + [d].length ≤ 5000000) := hide (by rw [List.length_take]; simp <;> omega)
                have HLn2 : Hid ((out.take (m + 1) ++ [d]).length + (out.drop (m + 1)).length ≤ 5000000) := hide (by rw [List.length_append, List.length_take, List.length_drop]; simp <;> omega)
                go_wp2_with (first | go_skip | ((with_reducible apply kempty); (case ho => rfl); (case hw => rfl); (intro X9 k1 k2 k3; simp only [Act.put, nzA, nzB, nzC]; have HE := hide k1; have HEs := hide (And.intro k2 k3.size); replace HI := hide (And.intro ((unhide HI).1.trans (k3.mono (unhide HI).1.size)) ((unhide HI).2.on k3)); clear k1 k2 k3)) | ((with_reducible apply kslice (p := (m + 1)) (out := out)); (case ho => rfl); (case hw => rfl); (case hx => rfl); (case hix => rfl); (case hown => exact (unhide HI).2); (case hp => exact hpl); (intro u9 k1 k2; simp only [Act.put, nzA, nzB, nzC]; have HU := hide k1; have HUc := hide k2; clear k1 k2)) | ((with_reducible apply append_kf (l := []) (m := out.drop (m + 1))); (case hgd => rfl); (case ho => rfl); (case hs => rfl); (case hx => rfl); (case hown => exact unhide HE); (case hu => exact unhide HU); (case hcap => exact unhide HUc); (case hn => exact unhide HLn); (case hbase => exact (unhide HEs).2); (intro v6 X6 k1 k2 k3; simp only [Act.put, nzA, nzB, nzC]; have HV6 := hide k1; have HG6 := hide k2; clear k1 k2 k3)))
                have HB : Hid (Below w.heap.size w X6) := hide ((unhide HI).1.grown (unhide HG6) (unhide HI).1.size (fun k hk => Nat.le_trans (unhide HI0).1.size ((unhide HE).own k hk).1))
                have HOW : Hid (OwnK X6 w.heap.size (Value.slice (some ⟨g, 0, none⟩) out.length c) out) := hide ((unhide HI).2.block (fun k hk => (unhide HG6).block k ((unhide HI).2.own k hk).2 (fun e => by have h1 := ((unhide HI0).2.own k hk).2; have h2 := ((unhide HE).own k e.symm).1; omega)))
                have HV := HV6
                have HOB : Hid (∀ k, Value.ownBlock (Value.slice (some ⟨g, 0, none⟩) out.length c) = some k → w.heap.size ≤ k) := hide (fun k hk => ((unhide HOW).own k hk).1)
                have HAP : Hid (∀ b, v6.ownBlock = some b → out.drop (m + 1) ≠ [] → some b ≠ (Value.slice (some ⟨g, 0, none⟩) out.length c).ownBlock) := hide (fun k hk _ e => by have h1 := ((unhide HI0).2.own k e.symm).2; have h2 := ((unhide HV6).own k hk).1; omega)
                refine wp_region_held_drew (P := Tryz.prog) (S := (fun X => Below w.heap.size w X)) (by kernel_rfl) ((unhide HB).drew) (fun hS0 => ?_)
                refine gpure 0 (some 45) (.slice (some ⟨g, 0, none⟩) out.length c) rfl (by kernel_rfl) (by kernel_rfl) (by kernel_rfl) (fun _ _ _ h => h) (by kernel_rfl) (by kernel_rfl) (fun _ => by kernel_rfl) hS0 ?_
                simp only [Act.put, nzA, nzB, nzC]
                refine gpure 1 (some 46) (.int .i64 (((m + 1) : Nat) : Int)) rfl (by kernel_rfl) (by kernel_rfl) (by kernel_rfl) (fun _ _ _ h => h) (by kernel_rfl) (by kernel_rfl) (fun _ => by kernel_rfl) hS0 ?_
                simp only [Act.put, nzA, nzB, nzC]
                refine gslice 2 (some 47) (x := .tmp 45) (ix := .tmp 46) (b := g) (n := out.length) (cap := c) (m + 1) rfl (by kernel_rfl) (by kernel_rfl) (by kernel_rfl) (fun _ _ _ h => h) (by kernel_rfl) (by kernel_rfl) (by kernel_rfl) (by kernel_rfl) (by kernel_rfl) hpc hS0 ?_
                simp only [Act.put, nzA, nzB, nzC]
                refine gpure 3 (some 48) (.slice (some ⟨b, off, none⟩) l.length cap) rfl (by kernel_rfl) (by kernel_rfl) (by kernel_rfl) (fun _ _ _ h => h) (by kernel_rfl) (by kernel_rfl) (fun _ => by kernel_rfl) hS0 ?_
                simp only [Act.put, nzA, nzB, nzC]
                refine gpure 4 (some 49) (.int .i64 (j : Int)) rfl (by kernel_rfl) (by kernel_rfl) (by kernel_rfl) (fun _ _ _ h => h) (by kernel_rfl) (by kernel_rfl) (fun _ => by kernel_rfl) hS0 ?_
                simp only [Act.put, nzA, nzB, nzC]
                refine gindex 5 (some 50) (x := .tmp 48) (ix := .tmp 49) (b := b) (off := off) (n := l.length) (cap := cap) j rfl (by kernel_rfl) (by kernel_rfl) (by kernel_rfl) (fun _ _ _ h => h) (by kernel_rfl) (by kernel_rfl) (by kernel_rfl) (by kernel_rfl) (by kernel_rfl) hlt hS0 ?_
                simp only [Act.put, nzA, nzB, nzC]
                refine gload 6 (some 51) (x := .tmp 50) (b := b) (p := off + j * 2) (d := d) rfl (by kernel_rfl) (by kernel_rfl) (by kernel_rfl) (fun _ _ _ h => h) (by kernel_rfl) (by kernel_rfl) (by kernel_rfl) (by kernel_rfl) (fun X hX => by rw [unhide HDj]; exact (unhide HRD).keep (hX.block b hb) j hlt) hS0 ?_
                simp only [Act.put, nzA, nzB, nzC]
                refine gpure 9 (some 54) (v6) rfl (by kernel_rfl) (by kernel_rfl) (by kernel_rfl) (fun _ _ _ h => h) (by kernel_rfl) (by kernel_rfl) (fun _ => by kernel_rfl) hS0 ?_
                simp only [Act.put, nzA, nzB, nzC]
                refine wpAnyH_ready (rs := [7]) (by kernel_rfl) (by simp) (gbuild 7 (some 52) (x := .tmp 51) (d := d) rfl (by kernel_rfl) (by kernel_rfl) (by kernel_rfl) (by kernel_rfl) (fun X hX => hS0.trans (hX.mono hS0.size)) ?_ AllReadyH.nil)
                intro X7 B7 hB7 hrd7 hb7
                replace hS0 := hS0.trans (hb7.mono hS0.size)
                simp only [Act.put, nzA, nzB, nzC]
                have HW7 := hide (And.intro (OwnK.on (w := X6.drew) (unhide HOW) hb7) (And.intro (OwnK.on (w := X6.drew) (unhide HV) hb7) hrd7))
                clear hB7 hrd7 hb7
                refine wpAnyH_ready (rs := [8]) (by kernel_rfl) (by simp) (gappend 8 (some 53) (s := .tmp 47) (x := .tmp 52) (base := w.heap.size) (l := out.take (m + 1)) (m := [d]) (v := .slice (some ⟨g, 0, none⟩) (m + 1) c) (u := .slice (some ⟨B7, 0, none⟩) 1 1) rfl (by kernel_rfl) (by kernel_rfl) (by kernel_rfl) (by kernel_rfl) (by kernel_rfl) ((unhide HW7).1.take (m + 1) hpl) (unhide HW7).2.2 (fun c hc => by cases hc) (by have := unhide HLn1; omega) hS0.size (fun X hX => hS0.grown hX hS0.size (unhide HOB)) ?_ AllReadyH.nil)
                intro v8 X8 ho8 hg8
                replace hS0 := hS0.grown hg8 hS0.size (unhide HOB)
                simp only [Act.put, nzA, nzB, nzC]
                refine wpAnyH_ready (rs := [10]) (by kernel_rfl) (by simp) (gappend 10 (some 55) (s := .tmp 53) (x := .tmp 54) (base := w.heap.size) (l := out.take (m + 1) ++ [d]) (m := out.drop (m + 1)) (v := v8) (u := v6) rfl (by kernel_rfl) (by kernel_rfl) (by kernel_rfl) (by kernel_rfl) (by kernel_rfl) ho8 ((unhide HW7).2.1.reads.grown hg8 (unhide HAP)) (own_cap (unhide HV)) (by have := unhide HLn2; omega) hS0.size (fun X hX => hS0.grown hX hS0.size (fun k hk => (ho8.own k hk).1)) ?_ AllReadyH.nil)
                intro v10 X10 ho10 hg10
                replace hS0 := hS0.grown hg10 hS0.size (fun k hk => (ho8.own k hk).1)
                simp only [Act.put, nzA, nzB, nzC]
                refine gpure 11 (some 3) (v10) rfl (by kernel_rfl) (by kernel_rfl) (by kernel_rfl) (fun _ _ _ h => h) (by kernel_rfl) (by kernel_rfl) (fun _ => by kernel_rfl) hS0 ?_
                simp only [Act.put, nzA, nzB, nzC]
                refine wpAnyH_done (by kernel_rfl) ?_ _
                try simp only [Act.put, nzA, nzB, nzC]
                have HFN := hide (And.intro ho10 hS0)
                clear hS0 ho8 hg8 ho10 hg10
                go_wp2
                go_roundg (l.length - (j + 1))
                case measure => omega
                case rel => exact ⟨j + 1, _, by go_num, by omega, Nat.le_refl _, hide (by rw [unhide HST]; exact unhide HINS _ _ (unhide HFN).1 (unhide HFN).2)⟩
      · have hk2 : (kd d != 0) = true := by simpa using hk
        have HO2 := hide (fun W v (h : AO w W v out (l.take j)) => h.skip hk)
        generalize kd d = kq at *
        go_wp2_with (first | go_skip | ((with_reducible apply kindex (j := j)); (case ho => rfl); (case hw => rfl); (case hx => rfl); (case hix => rfl); (case hj => exact hlt); simp only [Act.put, nzA, nzB, nzC]) | ((with_reducible apply kread (d := d)); (case ho => rfl); (case hw => rfl); (case hx => rfl); (case hc => exact unhide HR); simp only [Act.put, nzA, nzB, nzC]))
        refine (unhide HRk _).mono ?_
        rintro _ w1 ⟨rfl, hb1⟩
        replace HO := hide ((unhide HO).on hb1)
        clear hb1
        go_wp2
        go_roundg (l.length - (j + 1))
        case measure => omega
        case rel => exact ⟨j + 1, out, by go_num, by omega, Nat.le_refl _, hide (by rw [unhide HST]; exact unhide HO2 _ _ (unhide HO))⟩
    · have hjz : ¬ (j : Int) < l.length := by omega
      replace HO : Hid (AO w wr u3 out l) := hide (by have := unhide HO; rw [List.take_of_length_le (by omega)] at this; exact this)
      have HSP := hide (And.intro (unhide HO).srt (unhide HO).prm)
      have hol : out.length ≤ 1500000 := Nat.le_trans (unhide HO).len hlen
      have HB0 : Hid (OwnK wr w.heap.size u3 (PH out l 1) ∧ Below w.heap.size w wr) := hide ⟨(unhide HO).own, (unhide HO).below⟩
      clear HO
      go_wp2
      go_loopg [3, 7] 2 (fun gm s3 s7 wr => ∃ r : Nat, (r = 1 ∨ r = 2 ∨ r = 3) ∧ s7 = .int .i64 r ∧ 3 - r ≤ gm ∧ Hid (OwnK wr w.heap.size s3 (PH out l r) ∧ Below w.heap.size w wr))
      case atStart => exact ⟨1, Or.inl rfl, rfl, by omega, HB0⟩
      case round =>
        clear HB0
        obtain ⟨r, hr, rfl, hgm, HP⟩ := hrel
        rcases hr with rfl | rfl | rfl
        · go_wp2
          go_loopg [3, 8] l.length (fun gm s3 s8 wr => ∃ j : Nat, s8 = .int .i64 j ∧ j ≤ l.length ∧ l.length - j ≤ gm ∧ Hid (OwnK wr w.heap.size s3 (PH out l 1 ++ (l.take j).filter (fun k => kd k == (1 : Int))) ∧ Below w.heap.size w wr))
          case atStart => exact ⟨0, rfl, by omega, by omega, hide (by simpa using unhide HP)⟩
          case round =>
            clear HP
            obtain ⟨j, rfl, hj, hg, HQ⟩ := hrel
            by_cases hlt : j < l.length
            · have hjz : (j : Int) < l.length := by omega
              obtain ⟨d, hd⟩ : ∃ d, d = l[j] := ⟨_, rfl⟩
              have hst := step_take l j hlt
              rw [← hd] at hst
              have hgd : goodK d = true := by rw [hd]; exact unhide HGD _ (List.getElem_mem hlt)
              have hsz := goodK_size hgd
              have HR : Hid (wr.rangeAt b (off + j * 2) d.cs) := hide (by rw [hd]; exact (unhide HRD).keep ((unhide HQ).2.block b hb) j hlt)
              have HRk := hide (rank15 d.s d.n (by omega))
              rw [agg_key] at HRk
              have ekd : kdOf d.s d.n = kd d := rfl
              rw [ekd] at HRk
              clear hd hgd hsz ekd
              by_cases hk : kd d = 1
              · have HLn : Hid ((PH out l 1 ++ (l.take j).filter (fun k => kd k == (1 : Int))).length + [d].length ≤ 5000000) := hide (by have h1 := PH_len out l 1 (by omega) hol hlen; have h2 := List.length_filter_le (fun k => kd k == (1 : Int)) (l.take j); rw [List.length_take] at h2; rw [List.length_append]; simp; omega)
                have HFl : Hid ((l.take (j + 1)).filter (fun k => kd k == (1 : Int)) = (l.take j).filter (fun k => kd k == (1 : Int)) ++ [d]) := hide (by rw [hst, List.filter_append]; simp [hk])
                rw [hk] at HRk
                have HQ0 := HQ
                clear hst hk
                go_wp2_with (first | go_skip | ((with_reducible apply kindex (j := j)); (case ho => rfl); (case hw => rfl); (case hx => rfl); (case hix => rfl); (case hj => exact hlt); simp only [Act.put, nzA, nzB, nzC]) | ((with_reducible apply kread (d := d)); (case ho => rfl); (case hw => rfl); (case hx => rfl); (case hc => exact unhide HR); simp only [Act.put, nzA, nzB, nzC]))
                refine (unhide HRk _).mono ?_
                rintro _ w1 ⟨rfl, hb1⟩
                replace HQ : Hid (OwnK w1 w.heap.size u3 (PH out l 1 ++ (l.take j).filter (fun k => kd k == (1 : Int))) ∧ Below w.heap.size w w1) := hide ⟨(unhide HQ).1.on hb1, (unhide HQ).2.trans (hb1.mono (unhide HQ).2.size)⟩
                have HR : Hid (w1.rangeAt b (off + j * 2) d.cs) := hide (fun i v h => by rw [World.cell?_of_block (w := wr) (hb1.block b (Nat.lt_of_lt_of_le hb (unhide HQ0).2.size))]; exact unhide HR i v h)
                clear hb1
                go_wp2_with (first | go_skip | ((with_reducible apply kindex (j := j)); (case ho => rfl); (case hw => rfl); (case hx => rfl); (case hix => rfl); (case hj => exact hlt); simp only [Act.put, nzA, nzB, nzC]) | ((with_reducible apply kread (d := d)); (case ho => rfl); (case hw => rfl); (case hx => rfl); (case hc => exact unhide HR); simp only [Act.put, nzA, nzB, nzC]) | ((with_reducible apply kbuild (d := d)); (case ho => rfl); (case hw => rfl); (case hx => rfl); (intro X hc hs hb9; simp only [Act.put, nzA, nzB, nzC]; have HC := hide hc; replace HQ := hide (And.intro ((unhide HQ).1.on hb9) ((unhide HQ).2.trans (hb9.mono (unhide HQ).2.size))); clear hc hs hb9)) | ((with_reducible apply append_kf (m := [d])); (case hgd => rfl); (case ho => rfl); (case hs => rfl); (case hx => rfl); (case hown => exact (unhide HQ).1); (case hu => exact unhide HC); (case hcap => exact (fun c hc => by cases hc)); (case hn => exact unhide HLn); (case hbase => exact (unhide HQ).2.size); (intro v9 X9 k1 k2 k3; simp only [Act.put, nzA, nzB, nzC]; have HF := hide (And.intro k1 ((unhide HQ).2.grown k2 (unhide HQ).2.size (fun k hk => ((unhide HQ).1.own k hk).1))); clear k1 k2 k3)))
                go_roundg (l.length - (j + 1))
                case measure => omega
                case rel => exact ⟨j + 1, by go_num, by omega, Nat.le_refl _, hide (by rw [unhide HFl, ← List.append_assoc]; exact unhide HF)⟩
              · have hk2 : (kd d == (1 : Int)) = false := by simpa using hk
                have HFl : Hid ((l.take (j + 1)).filter (fun k => kd k == (1 : Int)) = (l.take j).filter (fun k => kd k == (1 : Int))) := hide (by rw [hst, List.filter_append]; simp [hk])
                have HQ0 := HQ
                generalize kd d = kq at *
                clear hst hk
                go_wp2_with (first | go_skip | ((with_reducible apply kindex (j := j)); (case ho => rfl); (case hw => rfl); (case hx => rfl); (case hix => rfl); (case hj => exact hlt); simp only [Act.put, nzA, nzB, nzC]) | ((with_reducible apply kread (d := d)); (case ho => rfl); (case hw => rfl); (case hx => rfl); (case hc => exact unhide HR); simp only [Act.put, nzA, nzB, nzC]))
                refine (unhide HRk _).mono ?_
                rintro _ w1 ⟨rfl, hb1⟩
                replace HQ : Hid (OwnK w1 w.heap.size u3 (PH out l 1 ++ (l.take j).filter (fun k => kd k == (1 : Int))) ∧ Below w.heap.size w w1) := hide ⟨(unhide HQ).1.on hb1, (unhide HQ).2.trans (hb1.mono (unhide HQ).2.size)⟩
                have HR : Hid (w1.rangeAt b (off + j * 2) d.cs) := hide (fun i v h => by rw [World.cell?_of_block (w := wr) (hb1.block b (Nat.lt_of_lt_of_le hb (unhide HQ0).2.size))]; exact unhide HR i v h)
                clear hb1
                go_wp2
                go_roundg (l.length - (j + 1))
                case measure => omega
                case rel => exact ⟨j + 1, by go_num, by omega, Nat.le_refl _, hide (by rw [unhide HFl]; exact unhide HQ)⟩
            · have hjz : ¬ (j : Int) < l.length := by omega
              have HN := hide (PH_next out l 1 (by omega))
              replace HQ : Hid (OwnK wr w.heap.size u3 (PH out l (1 + 1)) ∧ Below w.heap.size w wr) := hide (by have := unhide HQ; rw [List.take_of_length_le (by omega)] at this; rw [unhide HN]; exact this)
              go_wp2
              go_roundg (3 - (1 + 1))
              case measure => omega
              case rel => exact ⟨1 + 1, by omega, by go_num, Nat.le_refl _, HQ⟩
        · go_wp2
          go_loopg [3, 8] l.length (fun gm s3 s8 wr => ∃ j : Nat, s8 = .int .i64 j ∧ j ≤ l.length ∧ l.length - j ≤ gm ∧ Hid (OwnK wr w.heap.size s3 (PH out l 2 ++ (l.take j).filter (fun k => kd k == (2 : Int))) ∧ Below w.heap.size w wr))
          case atStart => exact ⟨0, rfl, by omega, by omega, hide (by simpa using unhide HP)⟩
          case round =>
            clear HP
            obtain ⟨j, rfl, hj, hg, HQ⟩ := hrel
            by_cases hlt : j < l.length
            · have hjz : (j : Int) < l.length := by omega
              obtain ⟨d, hd⟩ : ∃ d, d = l[j] := ⟨_, rfl⟩
              have hst := step_take l j hlt
              rw [← hd] at hst
              have hgd : goodK d = true := by rw [hd]; exact unhide HGD _ (List.getElem_mem hlt)
              have hsz := goodK_size hgd
              have HR : Hid (wr.rangeAt b (off + j * 2) d.cs) := hide (by rw [hd]; exact (unhide HRD).keep ((unhide HQ).2.block b hb) j hlt)
              have HRk := hide (rank15 d.s d.n (by omega))
              rw [agg_key] at HRk
              have ekd : kdOf d.s d.n = kd d := rfl
              rw [ekd] at HRk
              clear hd hgd hsz ekd
              by_cases hk : kd d = 2
              · have HLn : Hid ((PH out l 2 ++ (l.take j).filter (fun k => kd k == (2 : Int))).length + [d].length ≤ 5000000) := hide (by have h1 := PH_len out l 2 (by omega) hol hlen; have h2 := List.length_filter_le (fun k => kd k == (2 : Int)) (l.take j); rw [List.length_take] at h2; rw [List.length_append]; simp; omega)
                have HFl : Hid ((l.take (j + 1)).filter (fun k => kd k == (2 : Int)) = (l.take j).filter (fun k => kd k == (2 : Int)) ++ [d]) := hide (by rw [hst, List.filter_append]; simp [hk])
                rw [hk] at HRk
                have HQ0 := HQ
                clear hst hk
                go_wp2_with (first | go_skip | ((with_reducible apply kindex (j := j)); (case ho => rfl); (case hw => rfl); (case hx => rfl); (case hix => rfl); (case hj => exact hlt); simp only [Act.put, nzA, nzB, nzC]) | ((with_reducible apply kread (d := d)); (case ho => rfl); (case hw => rfl); (case hx => rfl); (case hc => exact unhide HR); simp only [Act.put, nzA, nzB, nzC]))
                refine (unhide HRk _).mono ?_
                rintro _ w1 ⟨rfl, hb1⟩
                replace HQ : Hid (OwnK w1 w.heap.size u3 (PH out l 2 ++ (l.take j).filter (fun k => kd k == (2 : Int))) ∧ Below w.heap.size w w1) := hide ⟨(unhide HQ).1.on hb1, (unhide HQ).2.trans (hb1.mono (unhide HQ).2.size)⟩
                have HR : Hid (w1.rangeAt b (off + j * 2) d.cs) := hide (fun i v h => by rw [World.cell?_of_block (w := wr) (hb1.block b (Nat.lt_of_lt_of_le hb (unhide HQ0).2.size))]; exact unhide HR i v h)
                clear hb1
                go_wp2_with (first | go_skip | ((with_reducible apply kindex (j := j)); (case ho => rfl); (case hw => rfl); (case hx => rfl); (case hix => rfl); (case hj => exact hlt); simp only [Act.put, nzA, nzB, nzC]) | ((with_reducible apply kread (d := d)); (case ho => rfl); (case hw => rfl); (case hx => rfl); (case hc => exact unhide HR); simp only [Act.put, nzA, nzB, nzC]) | ((with_reducible apply kbuild (d := d)); (case ho => rfl); (case hw => rfl); (case hx => rfl); (intro X hc hs hb9; simp only [Act.put, nzA, nzB, nzC]; have HC := hide hc; replace HQ := hide (And.intro ((unhide HQ).1.on hb9) ((unhide HQ).2.trans (hb9.mono (unhide HQ).2.size))); clear hc hs hb9)) | ((with_reducible apply append_kf (m := [d])); (case hgd => rfl); (case ho => rfl); (case hs => rfl); (case hx => rfl); (case hown => exact (unhide HQ).1); (case hu => exact unhide HC); (case hcap => exact (fun c hc => by cases hc)); (case hn => exact unhide HLn); (case hbase => exact (unhide HQ).2.size); (intro v9 X9 k1 k2 k3; simp only [Act.put, nzA, nzB, nzC]; have HF := hide (And.intro k1 ((unhide HQ).2.grown k2 (unhide HQ).2.size (fun k hk => ((unhide HQ).1.own k hk).1))); clear k1 k2 k3)))
                go_roundg (l.length - (j + 1))
                case measure => omega
                case rel => exact ⟨j + 1, by go_num, by omega, Nat.le_refl _, hide (by rw [unhide HFl, ← List.append_assoc]; exact unhide HF)⟩
              · have hk2 : (kd d == (2 : Int)) = false := by simpa using hk
                have HFl : Hid ((l.take (j + 1)).filter (fun k => kd k == (2 : Int)) = (l.take j).filter (fun k => kd k == (2 : Int))) := hide (by rw [hst, List.filter_append]; simp [hk])
                have HQ0 := HQ
                generalize kd d = kq at *
                clear hst hk
                go_wp2_with (first | go_skip | ((with_reducible apply kindex (j := j)); (case ho => rfl); (case hw => rfl); (case hx => rfl); (case hix => rfl); (case hj => exact hlt); simp only [Act.put, nzA, nzB, nzC]) | ((with_reducible apply kread (d := d)); (case ho => rfl); (case hw => rfl); (case hx => rfl); (case hc => exact unhide HR); simp only [Act.put, nzA, nzB, nzC]))
                refine (unhide HRk _).mono ?_
                rintro _ w1 ⟨rfl, hb1⟩
                replace HQ : Hid (OwnK w1 w.heap.size u3 (PH out l 2 ++ (l.take j).filter (fun k => kd k == (2 : Int))) ∧ Below w.heap.size w w1) := hide ⟨(unhide HQ).1.on hb1, (unhide HQ).2.trans (hb1.mono (unhide HQ).2.size)⟩
                have HR : Hid (w1.rangeAt b (off + j * 2) d.cs) := hide (fun i v h => by rw [World.cell?_of_block (w := wr) (hb1.block b (Nat.lt_of_lt_of_le hb (unhide HQ0).2.size))]; exact unhide HR i v h)
                clear hb1
                go_wp2
                go_roundg (l.length - (j + 1))
                case measure => omega
                case rel => exact ⟨j + 1, by go_num, by omega, Nat.le_refl _, hide (by rw [unhide HFl]; exact unhide HQ)⟩
            · have hjz : ¬ (j : Int) < l.length := by omega
              have HN := hide (PH_next out l 2 (by omega))
              replace HQ : Hid (OwnK wr w.heap.size u3 (PH out l (2 + 1)) ∧ Below w.heap.size w wr) := hide (by have := unhide HQ; rw [List.take_of_length_le (by omega)] at this; rw [unhide HN]; exact this)
              go_wp2
              go_roundg (3 - (2 + 1))
              case measure => omega
              case rel => exact ⟨2 + 1, by omega, by go_num, Nat.le_refl _, HQ⟩
        · go_wp2
          go_ret
          exact ⟨_, out, rfl, (unhide HP).1, (unhide HSP).1, (unhide HSP).2, (unhide HP).2⟩
set_option maxHeartbeats 20000000 in
set_option maxRecDepth 100000 in
theorem refOrder_nil (A : Option Addr) (cap : Nat) (w : World) : Calls Tryz.prog 44 #[.slice A 0 cap] w fun e w' => ∃ v out, e = .returned v ∧ OwnK w' w.heap.size v (out ++ strs [] ++ syms []) ∧ SortedK out ∧ out.Perm (([] : List KK).filter (fun k => kd k == 0)) ∧ Below w.heap.size w w' := by
  go_enter Tryz.func44, Tryz.ntmps44
  go_wp2_with fail
  go_loopg [3, 4] 0 (fun gm s3 s4 wr => s3 = .slice none 0 0 ∧ s4 = .int .i64 0 ∧ Hid (Below w.heap.size w wr))
  case atStart => exact ⟨rfl, rfl, hide (Below.refl _ _)⟩
  case round =>
    obtain ⟨rfl, rfl, HB⟩ := hrel
    go_wp2
    go_loopg [3, 7] 2 (fun gm s3 s7 wr => s3 = .slice none 0 0 ∧ ∃ r : Nat, (r = 1 ∨ r = 2 ∨ r = 3) ∧ s7 = .int .i64 r ∧ 3 - r ≤ gm ∧ Hid (Below w.heap.size w wr))
    case atStart => exact ⟨rfl, 1, Or.inl rfl, rfl, by omega, HB⟩
    case round =>
      clear HB
      obtain ⟨rfl, r, hr, rfl, hgm, HB⟩ := hrel
      rcases hr with rfl | rfl | rfl
      · go_wp2
        go_loopg [3, 8] 0 (fun gm s3 s8 wr => s3 = .slice none 0 0 ∧ s8 = .int .i64 0 ∧ Hid (Below w.heap.size w wr))
        case atStart => exact ⟨rfl, rfl, HB⟩
        case round =>
          clear HB
          obtain ⟨rfl, rfl, HB⟩ := hrel
          go_wp2
          go_roundg (3 - (1 + 1))
          case measure => omega
          case rel => exact ⟨rfl, 1 + 1, by omega, by go_num, Nat.le_refl _, HB⟩
      · go_wp2
        go_loopg [3, 8] 0 (fun gm s3 s8 wr => s3 = .slice none 0 0 ∧ s8 = .int .i64 0 ∧ Hid (Below w.heap.size w wr))
        case atStart => exact ⟨rfl, rfl, HB⟩
        case round =>
          clear HB
          obtain ⟨rfl, rfl, HB⟩ := hrel
          go_wp2
          go_roundg (3 - (2 + 1))
          case measure => omega
          case rel => exact ⟨rfl, 2 + 1, by omega, by go_num, Nat.le_refl _, HB⟩
      · go_wp2
        go_ret
        exact ⟨_, [], rfl, OwnK.nil _ _, by unfold SortedK; simp, by simp, unhide HB⟩
theorem refOrder11 (v : Value) (l : List KK) (hz : ∀ k ∈ l, goodK k = true) (w : World) (hr : ReadsK w v l) (hlen : l.length ≤ 1500000) : Calls Tryz.prog 44 #[v] w fun e w' => ∃ v, e = .returned v ∧ OwnK w' w.heap.size v (outK (mg (ixs l)) ++ strs l ++ syms l) ∧ Below w.heap.size w w' := by
  have fin : ∀ {e : Ending} {w' : World}, (∃ v out, e = .returned v ∧ OwnK w' w.heap.size v (out ++ strs l ++ syms l) ∧ SortedK out ∧ out.Perm (l.filter (fun k => kd k == 0)) ∧ Below w.heap.size w w') → ∃ v, e = .returned v ∧ OwnK w' w.heap.size v (outK (mg (ixs l)) ++ strs l ++ syms l) ∧ Below w.heap.size w w' := fun ⟨v, out, h1, h2, h3, h4, h5⟩ => ⟨v, h1, by rw [sorted_out h3 h4]; exact h2, h5⟩
  rcases hr with ⟨A, c, rfl, rfl⟩ | ⟨b, off, cap, rfl, hb, hr⟩
  · exact (refOrder_nil A c w).mono (fun e w' h => fin h)
  · exact (refOrder_rows b off cap l hz w hb hr hlen).mono (fun e w' h => fin h)
