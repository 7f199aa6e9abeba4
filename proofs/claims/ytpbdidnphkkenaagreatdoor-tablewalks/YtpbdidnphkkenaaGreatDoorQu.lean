import Derived.Test.YtpbdidnphkkenaaGreatDoorQt
set_option linter.all false
namespace Go.Proofs.YtpbdidnphkkenaaGreatDoor
section
open Go Go.Proofs Go.RowKit
set_option maxHeartbeats 20000000 in
set_option maxRecDepth 100000 in
theorem order_rows (b off cap : Nat) (l : List KK) (w : World) (hT : Lib.Utf8Tabs 2 3 w) (htab : TabP w) (hb : b < w.heap.size) (hr : RowsK w b off l) (hlen : l.length ≤ 1500000) : Calls Tryz.prog 43 #[.slice (some ⟨b, off, none⟩) l.length cap] w fun e w' => ∃ v n, e = .returned (.tuple #[v, .int .i64 n]) ∧ Below w.heap.size w w' ∧ ((l.all goodK = true ∧ n = 0 ∧ OwnK w' w.heap.size v (outK (mg (ixs l)) ++ strs l ++ syms l)) ∨ (l.all goodK = false ∧ n = 5 ∧ v = .slice none 0 0)) := by
  have HRD := hide hr
  have HTP := hide htab
  have HT := hide hT
  clear hT
  clear hr htab
  go_enter Tryz.func43, Tryz.ntmps43
  go_wp2_with fail
  go_loopg [9] l.length (fun g s9 wr => ∃ j : Nat, s9 = .int .i64 j ∧ j ≤ l.length ∧ l.length - j ≤ g ∧ Hid ((l.take j).all goodK = true) ∧ Hid (Below w.heap.size w wr))
  case atStart => exact ⟨0, rfl, by omega, by omega, hide rfl, hide (Below.refl _ _)⟩
  case round =>
    obtain ⟨j, rfl, hj, hg, HA, HB⟩ := hrel
    by_cases hlt : j < l.length
    · have hjz : (j : Int) < l.length := by omega
      obtain ⟨d, hd⟩ : ∃ d, d = l[j] := ⟨_, rfl⟩
      have HR : Hid (wr.rangeAt b (off + j * 2) d.cs) := hide (by rw [hd]; exact (unhide HRD).keep ((unhide HB).block b hb) j hlt)
      have HCk := hide (fun w hT => check12 d.s d.n w hT)
      rw [agg_key] at HCk
      have eg : (kVal d.s d.n).good = goodK d := rfl
      rw [eg] at HCk
      have HTk := hide (all_take hlt)
      have HN := hide (fun hg => all_not (l := l) hlt hg)
      rw [← hd] at HTk HN
      generalize goodK d = gd at *
      clear hd eg
      have LL := hide (Kq.nil wr)
      cases gd
      · simp only [Bool.false_eq_true, if_false] at HCk
        go_wp2_with (first | go_skip | ((with_reducible apply kindex (j := j)); (case ho => rfl); (case hw => rfl); (case hx => rfl); (case hix => rfl); (case hj => exact hlt); simp only [Act.put, nzA, nzB, nzC]) | ((with_reducible apply kread (d := d)); (case ho => rfl); (case hw => rfl); (case hx => rfl); (case hc => exact unhide HR); simp only [Act.put, nzA, nzB, nzC]) | ((with_reducible apply kalloc23); (case ho => rfl); (case hw => rfl); (case hL => exact unhide LL); (intro X LX hbX; simp only [Act.put, nzA, nzB, nzC]; simp only [List.cons_append, List.nil_append] at LX; replace LL := hide LX; clear LX hbX)) | ((with_reducible apply kstore23 (u := d) (l := []) (d := zeroK)); (case ho => rfl); (case hw => rfl); (case hL => exact unhide LL); (case hx => rfl); (case hy => rfl); (case hm => rfl); (case hne => exact fun q hq => by cases hq); (intro X LX hgX hsX; simp only [Act.put, nzA, nzB, nzC]; simp only [List.cons_append, List.nil_append] at LX; replace LL := hide LX; clear LX hgX hsX)) | ((with_reducible apply load23); (case ho => rfl); (case hw => rfl); (case hx => rfl); (case hc => first | exact (unhide LL).get 0 rfl); simp only [Act.put, nzA, nzB, nzC]))
        refine (unhide HCk _ (tabs_below (unhide HT) ((unhide HB).trans ((unhide LL).below.mono (unhide HB).size)))).mono ?_
        rintro _ w1 ⟨rfl, hb1⟩
        replace LL := hide ((unhide LL).on hb1)
        have HB1 := hide ((unhide HB).trans ((unhide LL).below.mono (unhide HB).size))
        clear hb1
        go_wp2
        go_ret2
        exact ⟨_, _, rfl, unhide HB1, Or.inr ⟨unhide HN (by trivial), rfl, rfl⟩⟩
      · simp only [if_true] at HCk
        go_wp2_with (first | go_skip | ((with_reducible apply kindex (j := j)); (case ho => rfl); (case hw => rfl); (case hx => rfl); (case hix => rfl); (case hj => exact hlt); simp only [Act.put, nzA, nzB, nzC]) | ((with_reducible apply kread (d := d)); (case ho => rfl); (case hw => rfl); (case hx => rfl); (case hc => exact unhide HR); simp only [Act.put, nzA, nzB, nzC]) | ((with_reducible apply kalloc23); (case ho => rfl); (case hw => rfl); (case hL => exact unhide LL); (intro X LX hbX; simp only [Act.put, nzA, nzB, nzC]; simp only [List.cons_append, List.nil_append] at LX; replace LL := hide LX; clear LX hbX)) | ((with_reducible apply kstore23 (u := d) (l := []) (d := zeroK)); (case ho => rfl); (case hw => rfl); (case hL => exact unhide LL); (case hx => rfl); (case hy => rfl); (case hm => rfl); (case hne => exact fun q hq => by cases hq); (intro X LX hgX hsX; simp only [Act.put, nzA, nzB, nzC]; simp only [List.cons_append, List.nil_append] at LX; replace LL := hide LX; clear LX hgX hsX)) | ((with_reducible apply load23); (case ho => rfl); (case hw => rfl); (case hx => rfl); (case hc => first | exact (unhide LL).get 0 rfl); simp only [Act.put, nzA, nzB, nzC]))
        refine (unhide HCk _ (tabs_below (unhide HT) ((unhide HB).trans ((unhide LL).below.mono (unhide HB).size)))).mono ?_
        rintro _ w1 ⟨rfl, hb1⟩
        replace LL := hide ((unhide LL).on hb1)
        have HB1 := hide ((unhide HB).trans ((unhide LL).below.mono (unhide HB).size))
        clear hb1
        go_wp2
        go_roundg (l.length - (j + 1))
        case measure => omega
        case rel => exact ⟨j + 1, by go_num, by omega, Nat.le_refl _, hide (by rw [unhide HTk, unhide HA]; rfl), HB1⟩
    · have hjz : ¬ (j : Int) < l.length := by omega
      have hall : l.all goodK = true := by rw [← unhide HA, List.take_of_length_le (by omega)]
      have HE := hide hall
      have HO := hide (ordered19 (.slice (some ⟨b, off, none⟩) l.length cap) l (fun k hk => goodK_size (List.all_eq_true.1 hall k hk)) wr ((unhide HTP).on (unhide HB)) (.inr ⟨b, off, cap, rfl, Nat.lt_of_lt_of_le hb (unhide HB).size, (unhide HRD).keep ((unhide HB).block b hb)⟩) hlen)
      clear hall
      go_wp2_with fail
      refine (unhide HO).mono ?_
      rintro _ w1 ⟨v1, rfl, ho1, hb1⟩
      have HO1 := hide ho1
      have HB1 := hide ((unhide HB).trans (hb1.mono (unhide HB).size))
      clear ho1 hb1
      go_wp2
      go_ret2
      exact ⟨_, _, rfl, unhide HB1, Or.inl ⟨unhide HE, rfl, (unhide HO1).mono (unhide HB).size⟩⟩
set_option maxHeartbeats 20000000 in
set_option maxRecDepth 100000 in
theorem order_nil (A : Option Addr) (cap : Nat) (w : World) (htab : TabP w) : Calls Tryz.prog 43 #[.slice A 0 cap] w fun e w' => ∃ v n, e = .returned (.tuple #[v, .int .i64 n]) ∧ Below w.heap.size w w' ∧ ((([] : List KK).all goodK = true ∧ n = 0 ∧ OwnK w' w.heap.size v (outK (mg (ixs [])) ++ strs [] ++ syms [])) ∨ (([] : List KK).all goodK = false ∧ n = 5 ∧ v = .slice none 0 0)) := by
  have HTP := hide htab
  clear htab
  go_enter Tryz.func43, Tryz.ntmps43
  go_wp2_with fail
  go_loopg [9] 0 (fun g s9 wr => s9 = .int .i64 0 ∧ wr = w)
  case atStart => exact ⟨rfl, rfl⟩
  case round =>
    obtain ⟨rfl, rfl⟩ := hrel
    have HO := hide (ordered19 (.slice A 0 cap) [] (fun k hk => by cases hk) wr (unhide HTP) (.inl ⟨A, cap, rfl, rfl⟩) (by simp))
    go_wp2_with fail
    refine (unhide HO).mono ?_
    rintro _ w1 ⟨v1, rfl, ho1, hb1⟩
    have HO1 := hide ho1
    have HB1 := hide hb1
    clear ho1 hb1
    go_wp2
    go_ret2
    exact ⟨_, _, rfl, unhide HB1, Or.inl ⟨rfl, rfl, unhide HO1⟩⟩
theorem order8 (v : Value) (l : List KK) (w : World) (hT : Lib.Utf8Tabs 2 3 w) (htab : TabP w) (hr : ReadsK w v l) (hlen : l.length ≤ 1500000) : Calls Tryz.prog 43 #[v] w fun e w' => ∃ v n, e = .returned (.tuple #[v, .int .i64 n]) ∧ Below w.heap.size w w' ∧ ((l.all goodK = true ∧ n = 0 ∧ OwnK w' w.heap.size v (outK (mg (ixs l)) ++ strs l ++ syms l)) ∨ (l.all goodK = false ∧ n = 5 ∧ v = .slice none 0 0)) := by
  rcases hr with ⟨A, c, rfl, rfl⟩ | ⟨b, off, cap, rfl, hb, hr⟩
  · exact order_nil A c w htab
  · exact order_rows b off cap l w hT htab hb hr hlen
end
end Go.Proofs.YtpbdidnphkkenaaGreatDoor
namespace Go.Proofs.YtpbdidnphkkenaaGreatDoor
set_option maxHeartbeats 2000000
section
open Go Go.Proofs Go.Maps Go.RowKit
theorem Hq.three (w : World) (E : List Nat) {b0 : Nat} {c0 : List Value} (h0 : Holds w b0 c0) (hc0 : 0 < c0.length) (a b : List Value) (s t : TypeId) (ha : 0 < a.length) (hb : 0 < b.length) : Hq w ((w.alloc (Obj.cells a.toArray s)).alloc (Obj.cells b.toArray t)) E [(b0, c0), (w.heap.size, a), (w.heap.size + 1, b)] := by
  have h := (((Hq.nil w E).add h0 hc0 (fun q hq => by cases hq)).new a s ha).new b t hb
  rw [show (w.alloc (Obj.cells a.toArray s)).heap.size = w.heap.size + 1 by simp] at h
  exact h
theorem ex_build58 {o : Oper} {a : Act} {w : World} {x y : Operand} {k : KK} {d : DD} (ho : o.op = .build 58 #[(0, x), (1, y)]) (hx : a.eval x = .agg k.cs.toArray) (hy : a.eval y = .agg d.cs.toArray) : (execOp a.eval o).run Tryz.prog w = .ok (.value (.agg (k.cs ++ d.cs).toArray)) w := by
  have e : (Instr.build 58 #[(0, .agg k.cs.toArray), (1, .agg d.cs.toArray)]).run Tryz.prog w = .ok (.agg (k.cs ++ d.cs).toArray) w := by kernel_rfl
  unfold execOp
  simp only [ho, List.map_toArray, List.map_cons, List.map_nil, hx, hy]
  simp [e]
theorem tabs_fr {w X : World} {E : List Nat} (h : Lib.Utf8Tabs 2 3 w) (hf : Fr w X E) (hE : ∀ b ∈ E, 4 ≤ b) : Lib.Utf8Tabs 2 3 X := by
  have hs := tabs_size h
  have e2 : X.heap[2]? = w.heap[2]? := hf.block 2 (by omega) (fun hm => by have := hE _ hm; omega)
  have e3 : X.heap[3]? = w.heap[3]? := hf.block 3 (by omega) (fun hm => by have := hE _ hm; omega)
  exact ⟨fun c hc => (World.cell?_of_block (a := ⟨2, c, none⟩) e2).trans (h.1 c hc), fun i hi => ⟨(World.cell?_of_block (a := ⟨3, 2 * i, none⟩) e3).trans (h.2 i hi).1, (World.cell?_of_block (a := ⟨3, 2 * i + 1, none⟩) e3).trans (h.2 i hi).2⟩⟩
theorem added_blocks {T : TT} {w X : World} {rv : Value} {R : Nat} {k : KK} {d : DD} (hg : ∀ g, rv.ownBlock = some g → T.rv.ownBlock = some g ∨ X.heap.size ≤ g) (hR : w.heap.size ≤ R) (hs : w.heap.size ≤ X.heap.size) : ∀ b ∈ (T.added rv R k d).blocks, b ∈ T.blocks ∨ w.heap.size ≤ b := by
  intro b hb
  simp only [TT.blocks, TT.added, List.mem_cons, List.mem_append, List.map_append, List.map_cons, List.map_nil, List.not_mem_nil, or_false] at hb ⊢
  rcases hb with h | h | h | h | h
  · exact .inl (.inl h)
  · exact .inl (.inr (.inl h))
  · rcases hg b (by simpa using h) with h | h
    · exact .inl (.inr (.inr (.inl (by rw [h]; simp))))
    · exact .inr (by omega)
  · exact .inl (.inr (.inr (.inr h)))
  · exact .inr (by omega)
theorem put_some (T : TT) (k : KK) (d : DD) (w : World) (hT : T.Is w) (hU : Lib.Utf8Tabs 2 3 w) (hk : OkK k) (hl : T.last < 4000000) (r : RR) (hf : T.find k = some r) : Calls Tryz.prog 12 #[.pointer (some ⟨T.t, 0, none⟩), k.agg, d.agg] w fun e w' => e = .returned (.int .i64 (0)) ∧ ∃ T' : TT, T'.Is w' ∧ T'.t = T.t ∧ Fr w w' T.blocks ∧ (∀ b ∈ T'.blocks, b ∈ T.blocks ∨ w.heap.size ≤ b) ∧ ((∃ r, T.find k = some r ∧ T' = T.upd r.b d) ∨ (T.find k = none ∧ goodK k = true ∧ ∃ rv R, T' = T.added rv R k d) ∨ (T.find k = none ∧ goodK k = false ∧ T' = T)) := by
  have hr := (T.find_mem hf).1
  have LL := hide (Hq.three w T.blocks (hT.rows r hr) (Nat.succ_pos _) k.cs d.cs 33 39 (Nat.succ_pos _) (Nat.succ_pos _))
  have HT := hide (hT.on (two_below w k.cs.toArray d.cs.toArray 33 39))
  have HH := hide hT
  clear hT
  rw [show k.agg = .agg k.cs.toArray from rfl, show d.agg = .agg d.cs.toArray from rfl]
  go_enter Tryz.func12, Tryz.ntmps12
  go_wp2
  refine wp_region_held_drew (P := Tryz.prog) (S := fun X => T.Is X ∧ Hq w X T.blocks [(r.b, r.cs), (w.heap.size, k.cs), (w.heap.size + 1, d.cs)]) (by kernel_rfl) ⟨(unhide HT).drew, (unhide LL).drew⟩ (fun hS0 => ?_)
  refine gsem 0 (some 11) (.pointer (some ⟨T.t, 0, none⟩)) rfl (by kernel_rfl) (by kernel_rfl) (by kernel_rfl) (fun _ _ _ h => h) (by kernel_rfl) (by kernel_rfl) (fun _ _ => by kernel_rfl) hS0 ?_
  simp only [Act.put, nzA, nzB, nzC]
  refine gsem 1 (some 12) (.pointer (some ⟨T.t, 0, none⟩)) rfl (by kernel_rfl) (by kernel_rfl) (by kernel_rfl) (fun _ _ _ h => h) (by kernel_rfl) (by kernel_rfl) (fun _ _ => by kernel_rfl) hS0 ?_
  simp only [Act.put, nzA, nzB, nzC]
  refine gsem 2 (some 13) (.pointer (some ⟨T.t, 0, none⟩)) rfl (by kernel_rfl) (by kernel_rfl) (by kernel_rfl) (fun _ _ _ h => h) (by kernel_rfl) (by kernel_rfl) (fun _ _ => by kernel_rfl) hS0 ?_
  simp only [Act.put, nzA, nzB, nzC]
  refine gsem 3 (some 14) (.map (some T.m)) rfl (by kernel_rfl) (by kernel_rfl) (by kernel_rfl) (fun _ _ _ h => h) (by kernel_rfl) (by kernel_rfl) (fun X hX => ex_load1 69 Tryz.isAgg69 rfl rfl (hX.1.tab) rfl) hS0 ?_
  simp only [Act.put, nzA, nzB, nzC]
  refine gsem 4 (some 15) (k.agg) rfl (by kernel_rfl) (by kernel_rfl) (by kernel_rfl) (fun _ _ _ h => h) (by kernel_rfl) (by kernel_rfl) (fun X hX => ex_loadN (vs := k.cs) 33 2 row33x siz33 rfl rfl (hX.2.get 1 rfl) rfl rfl) hS0 ?_
  simp only [Act.put, nzA, nzB, nzC]
  refine gsem 5 (some 16) (.tuple #[pv (some r.b), .bool true]) rfl (by kernel_rfl) (by kernel_rfl) (by kernel_rfl) (fun _ _ _ h => h) (by kernel_rfl) (by kernel_rfl) (fun X hX => ex_look (r := some r.b) rfl rfl rfl hX.1.map hk (by rw [hf]; rfl)) hS0 ?_
  simp only [Act.put, nzA, nzB, nzC]
  refine gsem 6 (some 10) (.tuple #[pv (some r.b), .bool true]) rfl (by kernel_rfl) (by kernel_rfl) (by kernel_rfl) (fun _ _ _ h => h) (by kernel_rfl) (by kernel_rfl) (fun _ _ => by kernel_rfl) hS0 ?_
  simp only [Act.put, nzA, nzB, nzC]
  refine gsem 7 (some 17) (pv (some r.b)) rfl (by kernel_rfl) (by kernel_rfl) (by kernel_rfl) (fun _ _ _ h => h) (by kernel_rfl) (by kernel_rfl) (fun _ _ => by kernel_rfl) hS0 ?_
  simp only [Act.put, nzA, nzB, nzC]
  refine gsem 9 (some 7) (pv (some r.b)) rfl (by kernel_rfl) (by kernel_rfl) (by kernel_rfl) (fun _ _ _ h => h) (by kernel_rfl) (by kernel_rfl) (fun _ _ => by kernel_rfl) hS0 ?_
  simp only [Act.put, nzA, nzB, nzC]
  refine gsem 8 (some 18) (.bool true) rfl (by kernel_rfl) (by kernel_rfl) (by kernel_rfl) (fun _ _ _ h => h) (by kernel_rfl) (by kernel_rfl) (fun _ _ => by kernel_rfl) hS0 ?_
  simp only [Act.put, nzA, nzB, nzC]
  refine gsem 10 (some 8) (.bool true) rfl (by kernel_rfl) (by kernel_rfl) (by kernel_rfl) (fun _ _ _ h => h) (by kernel_rfl) (by kernel_rfl) (fun _ _ => by kernel_rfl) hS0 ?_
  simp only [Act.put, nzA, nzB, nzC]
  refine wpAnyH_done (by kernel_rfl) ?_ _
  try simp only [Act.put, nzA, nzB, nzC]
  replace HT := hide hS0.1
  replace LL := hide hS0.2
  clear hS0
  unfold pv
  have hrb := hide (TT.Part.mem (T := T) (.inr (.inr (List.mem_map.2 ⟨r, hr, rfl⟩))))
  go_wp2_with (first | go_skip | ((refine rd (by rfl) (ex_loadN (vs := d.cs) 39 18 row39 siz39 rfl rfl ((unhide LL).get 2 rfl) rfl rfl) ?_); simp only [Act.put, nzA, nzB, nzC]) | ((refine st (vs := d.cs) 0 39 (by rfl) rfl rfl rfl rfl (by simp [DD.cs, VV.cs, Value.oneCell']) siz39 (unhide LL) rfl (by simp [dcs_length, rcs_length]) (Or.inl (unhide hrb)) ?_); intro w3 L3 hf3 hs3; replace LL := hide L3; have HF := hide hf3; clear L3 hf3 hs3; simp only [Act.put, nzA, nzB, nzC]))
  go_ret
  exact ⟨rfl, T.upd r.b d, (unhide HT).upd hr (unhide HF) ((unhide LL).get 0 rfl), rfl, (unhide LL).fr, (fun b hb => Or.inl (T.upd_blocks r.b d ▸ hb)), Or.inl ⟨r, hf, rfl⟩⟩
theorem put_good (T : TT) (k : KK) (d : DD) (w : World) (hT : T.Is w) (hU : Lib.Utf8Tabs 2 3 w) (hk : OkK k) (hl : T.last < 4000000) (hTT : Hid (∀ b ∈ T.blocks, 4 ≤ b)) (hf : T.find k = none) (hg : goodK k = true) : Calls Tryz.prog 12 #[.pointer (some ⟨T.t, 0, none⟩), k.agg, d.agg] w fun e w' => e = .returned (.int .i64 (0)) ∧ ∃ T' : TT, T'.Is w' ∧ T'.t = T.t ∧ Fr w w' T.blocks ∧ (∀ b ∈ T'.blocks, b ∈ T.blocks ∨ w.heap.size ≤ b) ∧ ((∃ r, T.find k = some r ∧ T' = T.upd r.b d) ∨ (T.find k = none ∧ goodK k = true ∧ ∃ rv R, T' = T.added rv R k d) ∨ (T.find k = none ∧ goodK k = false ∧ T' = T)) := by
  have HU := hide hU
  clear hU
  have LL := hide (Hq.two w T.blocks k.cs d.cs 33 39 (Nat.succ_pos _) (Nat.succ_pos _))
  have HT := hide (hT.on (two_below w k.cs.toArray d.cs.toArray 33 39))
  have HH := hide hT
  clear hT
  rw [show k.agg = .agg k.cs.toArray from rfl, show d.agg = .agg d.cs.toArray from rfl]
  go_enter Tryz.func12, Tryz.ntmps12
  go_wp2
  refine wp_region_held_drew (P := Tryz.prog) (S := fun X => T.Is X ∧ Hq w X T.blocks [(w.heap.size, k.cs), (w.heap.size + 1, d.cs)]) (by kernel_rfl) ⟨(unhide HT).drew, (unhide LL).drew⟩ (fun hS0 => ?_)
  refine gsem 0 (some 11) (.pointer (some ⟨T.t, 0, none⟩)) rfl (by kernel_rfl) (by kernel_rfl) (by kernel_rfl) (fun _ _ _ h => h) (by kernel_rfl) (by kernel_rfl) (fun _ _ => by kernel_rfl) hS0 ?_
  simp only [Act.put, nzA, nzB, nzC]
  refine gsem 1 (some 12) (.pointer (some ⟨T.t, 0, none⟩)) rfl (by kernel_rfl) (by kernel_rfl) (by kernel_rfl) (fun _ _ _ h => h) (by kernel_rfl) (by kernel_rfl) (fun _ _ => by kernel_rfl) hS0 ?_
  simp only [Act.put, nzA, nzB, nzC]
  refine gsem 2 (some 13) (.pointer (some ⟨T.t, 0, none⟩)) rfl (by kernel_rfl) (by kernel_rfl) (by kernel_rfl) (fun _ _ _ h => h) (by kernel_rfl) (by kernel_rfl) (fun _ _ => by kernel_rfl) hS0 ?_
  simp only [Act.put, nzA, nzB, nzC]
  refine gsem 3 (some 14) (.map (some T.m)) rfl (by kernel_rfl) (by kernel_rfl) (by kernel_rfl) (fun _ _ _ h => h) (by kernel_rfl) (by kernel_rfl) (fun X hX => ex_load1 69 Tryz.isAgg69 rfl rfl (hX.1.tab) rfl) hS0 ?_
  simp only [Act.put, nzA, nzB, nzC]
  refine gsem 4 (some 15) (k.agg) rfl (by kernel_rfl) (by kernel_rfl) (by kernel_rfl) (fun _ _ _ h => h) (by kernel_rfl) (by kernel_rfl) (fun X hX => ex_loadN (vs := k.cs) 33 2 row33x siz33 rfl rfl (hX.2.get 0 rfl) rfl rfl) hS0 ?_
  simp only [Act.put, nzA, nzB, nzC]
  refine gsem 5 (some 16) (.tuple #[pv (none), .bool false]) rfl (by kernel_rfl) (by kernel_rfl) (by kernel_rfl) (fun _ _ _ h => h) (by kernel_rfl) (by kernel_rfl) (fun X hX => ex_look (r := none) rfl rfl rfl hX.1.map hk (by rw [hf]; rfl)) hS0 ?_
  simp only [Act.put, nzA, nzB, nzC]
  refine gsem 6 (some 10) (.tuple #[pv (none), .bool false]) rfl (by kernel_rfl) (by kernel_rfl) (by kernel_rfl) (fun _ _ _ h => h) (by kernel_rfl) (by kernel_rfl) (fun _ _ => by kernel_rfl) hS0 ?_
  simp only [Act.put, nzA, nzB, nzC]
  refine gsem 7 (some 17) (pv (none)) rfl (by kernel_rfl) (by kernel_rfl) (by kernel_rfl) (fun _ _ _ h => h) (by kernel_rfl) (by kernel_rfl) (fun _ _ => by kernel_rfl) hS0 ?_
  simp only [Act.put, nzA, nzB, nzC]
  refine gsem 9 (some 7) (pv (none)) rfl (by kernel_rfl) (by kernel_rfl) (by kernel_rfl) (fun _ _ _ h => h) (by kernel_rfl) (by kernel_rfl) (fun _ _ => by kernel_rfl) hS0 ?_
  simp only [Act.put, nzA, nzB, nzC]
  refine gsem 8 (some 18) (.bool false) rfl (by kernel_rfl) (by kernel_rfl) (by kernel_rfl) (fun _ _ _ h => h) (by kernel_rfl) (by kernel_rfl) (fun _ _ => by kernel_rfl) hS0 ?_
  simp only [Act.put, nzA, nzB, nzC]
  refine gsem 10 (some 8) (.bool false) rfl (by kernel_rfl) (by kernel_rfl) (by kernel_rfl) (fun _ _ _ h => h) (by kernel_rfl) (by kernel_rfl) (fun _ _ => by kernel_rfl) hS0 ?_
  simp only [Act.put, nzA, nzB, nzC]
  refine wpAnyH_done (by kernel_rfl) ?_ _
  try simp only [Act.put, nzA, nzB, nzC]
  replace HT := hide hS0.1
  replace LL := hide hS0.2
  clear hS0
  unfold pv
  go_wp2_with (first | go_skip | ((refine rd (by rfl) (ex_loadN (vs := k.cs) 33 2 row33x siz33 rfl rfl ((unhide LL).get 0 rfl) rfl rfl) ?_); simp only [Act.put, nzA, nzB, nzC]))
  refine (check12 k.s k.n _ (tabs_fr (unhide HU) (unhide LL).fr (unhide hTT))).mono ?_
  rintro _ w4 ⟨rfl, hb⟩
  rw [show (kVal k.s k.n).good = goodK k from rfl, hg]
  replace HT := hide ((unhide HT).on hb)
  replace LL := hide ((unhide LL).on hb)
  clear hb
  simp only [if_true]
  go_wp2_with (first | go_skip | ((refine rd (by rfl) (ex_loadN (vs := k.cs) 33 2 row33x siz33 rfl rfl ((unhide LL).get 0 rfl) rfl rfl) ?_); simp only [Act.put, nzA, nzB, nzC]) | ((refine rd (by rfl) (ex_loadN (vs := d.cs) 39 18 row39 siz39 rfl rfl ((unhide LL).get 1 rfl) rfl rfl) ?_); simp only [Act.put, nzA, nzB, nzC]) | ((refine rd (by rfl) (ex_build58 rfl rfl rfl) ?_); simp only [Act.put, nzA, nzB, nzC]))
  refine (add34 T k d _ (unhide HT) hk hg hf hl).mono ?_
  rintro _ w5 ⟨rfl, rv, R, hT5, hF5, hR5, hg5⟩
  have HF := hide ((unhide LL).fr.trans hF5 (fun b hb => Or.inl hb))
  have hs := (unhide LL).fr.size
  have H5 := hide hT5
  have H6 := hide hg5
  have H7 := hide (Nat.le_trans hs hR5)
  have H8 := hide hs
  clear hT5 hF5 hg5 hR5 hs
  go_wp2
  go_ret
  refine ⟨rfl, _, unhide H5, rfl, unhide HF, ?_, Or.inr (Or.inl ⟨hf, hg, rv, R, rfl⟩)⟩
  exact added_blocks (unhide H6) (unhide H7) (unhide H8)
theorem put_bad (T : TT) (k : KK) (d : DD) (w : World) (hT : T.Is w) (hU : Lib.Utf8Tabs 2 3 w) (hk : OkK k) (hl : T.last < 4000000) (hTT : Hid (∀ b ∈ T.blocks, 4 ≤ b)) (hf : T.find k = none) (hg : goodK k = false) : Calls Tryz.prog 12 #[.pointer (some ⟨T.t, 0, none⟩), k.agg, d.agg] w fun e w' => e = .returned (.int .i64 (5)) ∧ ∃ T' : TT, T'.Is w' ∧ T'.t = T.t ∧ Fr w w' T.blocks ∧ (∀ b ∈ T'.blocks, b ∈ T.blocks ∨ w.heap.size ≤ b) ∧ ((∃ r, T.find k = some r ∧ T' = T.upd r.b d) ∨ (T.find k = none ∧ goodK k = true ∧ ∃ rv R, T' = T.added rv R k d) ∨ (T.find k = none ∧ goodK k = false ∧ T' = T)) := by
  have HU := hide hU
  clear hU
  have LL := hide (Hq.two w T.blocks k.cs d.cs 33 39 (Nat.succ_pos _) (Nat.succ_pos _))
  have HT := hide (hT.on (two_below w k.cs.toArray d.cs.toArray 33 39))
  have HH := hide hT
  clear hT
  rw [show k.agg = .agg k.cs.toArray from rfl, show d.agg = .agg d.cs.toArray from rfl]
  go_enter Tryz.func12, Tryz.ntmps12
  go_wp2
  refine wp_region_held_drew (P := Tryz.prog) (S := fun X => T.Is X ∧ Hq w X T.blocks [(w.heap.size, k.cs), (w.heap.size + 1, d.cs)]) (by kernel_rfl) ⟨(unhide HT).drew, (unhide LL).drew⟩ (fun hS0 => ?_)
  refine gsem 0 (some 11) (.pointer (some ⟨T.t, 0, none⟩)) rfl (by kernel_rfl) (by kernel_rfl) (by kernel_rfl) (fun _ _ _ h => h) (by kernel_rfl) (by kernel_rfl) (fun _ _ => by kernel_rfl) hS0 ?_
  simp only [Act.put, nzA, nzB, nzC]
  refine gsem 1 (some 12) (.pointer (some ⟨T.t, 0, none⟩)) rfl (by kernel_rfl) (by kernel_rfl) (by kernel_rfl) (fun _ _ _ h => h) (by kernel_rfl) (by kernel_rfl) (fun _ _ => by kernel_rfl) hS0 ?_
  simp only [Act.put, nzA, nzB, nzC]
  refine gsem 2 (some 13) (.pointer (some ⟨T.t, 0, none⟩)) rfl (by kernel_rfl) (by kernel_rfl) (by kernel_rfl) (fun _ _ _ h => h) (by kernel_rfl) (by kernel_rfl) (fun _ _ => by kernel_rfl) hS0 ?_
  simp only [Act.put, nzA, nzB, nzC]
  refine gsem 3 (some 14) (.map (some T.m)) rfl (by kernel_rfl) (by kernel_rfl) (by kernel_rfl) (fun _ _ _ h => h) (by kernel_rfl) (by kernel_rfl) (fun X hX => ex_load1 69 Tryz.isAgg69 rfl rfl (hX.1.tab) rfl) hS0 ?_
  simp only [Act.put, nzA, nzB, nzC]
  refine gsem 4 (some 15) (k.agg) rfl (by kernel_rfl) (by kernel_rfl) (by kernel_rfl) (fun _ _ _ h => h) (by kernel_rfl) (by kernel_rfl) (fun X hX => ex_loadN (vs := k.cs) 33 2 row33x siz33 rfl rfl (hX.2.get 0 rfl) rfl rfl) hS0 ?_
  simp only [Act.put, nzA, nzB, nzC]
  refine gsem 5 (some 16) (.tuple #[pv (none), .bool false]) rfl (by kernel_rfl) (by kernel_rfl) (by kernel_rfl) (fun _ _ _ h => h) (by kernel_rfl) (by kernel_rfl) (fun X hX => ex_look (r := none) rfl rfl rfl hX.1.map hk (by rw [hf]; rfl)) hS0 ?_
  simp only [Act.put, nzA, nzB, nzC]
  refine gsem 6 (some 10) (.tuple #[pv (none), .bool false]) rfl (by kernel_rfl) (by kernel_rfl) (by kernel_rfl) (fun _ _ _ h => h) (by kernel_rfl) (by kernel_rfl) (fun _ _ => by kernel_rfl) hS0 ?_
  simp only [Act.put, nzA, nzB, nzC]
  refine gsem 7 (some 17) (pv (none)) rfl (by kernel_rfl) (by kernel_rfl) (by kernel_rfl) (fun _ _ _ h => h) (by kernel_rfl) (by kernel_rfl) (fun _ _ => by kernel_rfl) hS0 ?_
  simp only [Act.put, nzA, nzB, nzC]
  refine gsem 9 (some 7) (pv (none)) rfl (by kernel_rfl) (by kernel_rfl) (by kernel_rfl) (fun _ _ _ h => h) (by kernel_rfl) (by kernel_rfl) (fun _ _ => by kernel_rfl) hS0 ?_
  simp only [Act.put, nzA, nzB, nzC]
  refine gsem 8 (some 18) (.bool false) rfl (by kernel_rfl) (by kernel_rfl) (by kernel_rfl) (fun _ _ _ h => h) (by kernel_rfl) (by kernel_rfl) (fun _ _ => by kernel_rfl) hS0 ?_
  simp only [Act.put, nzA, nzB, nzC]
  refine gsem 10 (some 8) (.bool false) rfl (by kernel_rfl) (by kernel_rfl) (by kernel_rfl) (fun _ _ _ h => h) (by kernel_rfl) (by kernel_rfl) (fun _ _ => by kernel_rfl) hS0 ?_
  simp only [Act.put, nzA, nzB, nzC]
  refine wpAnyH_done (by kernel_rfl) ?_ _
  try simp only [Act.put, nzA, nzB, nzC]
  replace HT := hide hS0.1
  replace LL := hide hS0.2
  clear hS0
  unfold pv
  go_wp2_with (first | go_skip | ((refine rd (by rfl) (ex_loadN (vs := k.cs) 33 2 row33x siz33 rfl rfl ((unhide LL).get 0 rfl) rfl rfl) ?_); simp only [Act.put, nzA, nzB, nzC]))
  refine (check12 k.s k.n _ (tabs_fr (unhide HU) (unhide LL).fr (unhide hTT))).mono ?_
  rintro _ w4 ⟨rfl, hb⟩
  rw [show (kVal k.s k.n).good = goodK k from rfl, hg]
  replace HT := hide ((unhide HT).on hb)
  replace LL := hide ((unhide LL).on hb)
  clear hb
  simp only [Bool.false_eq_true, if_false]
  go_wp2_with (first | go_skip | ((refine rd (by rfl) (ex_loadN (vs := k.cs) 33 2 row33x siz33 rfl rfl ((unhide LL).get 0 rfl) rfl rfl) ?_); simp only [Act.put, nzA, nzB, nzC]) | ((refine rd (by rfl) (ex_loadN (vs := d.cs) 39 18 row39 siz39 rfl rfl ((unhide LL).get 1 rfl) rfl rfl) ?_); simp only [Act.put, nzA, nzB, nzC]) | ((refine rd (by rfl) (ex_build58 rfl rfl rfl) ?_); simp only [Act.put, nzA, nzB, nzC]))
  go_ret
  exact ⟨rfl, T, unhide HT, rfl, (unhide LL).fr, (fun b hb => Or.inl hb), Or.inr (Or.inr ⟨hf, hg, rfl⟩)⟩
theorem put12 (T : TT) (k : KK) (d : DD) (w : World) (hT : T.Is w) (hU : Lib.Utf8Tabs 2 3 w) (hk : OkK k) (hl : T.last < 4000000) (hTT : ∀ b ∈ T.blocks, 4 ≤ b) : Calls Tryz.prog 12 #[.pointer (some ⟨T.t, 0, none⟩), k.agg, d.agg] w fun e w' => e = .returned (.int .i64 (if goodK k then 0 else 5)) ∧ ∃ T' : TT, T'.Is w' ∧ T'.t = T.t ∧ Fr w w' T.blocks ∧ (∀ b ∈ T'.blocks, b ∈ T.blocks ∨ w.heap.size ≤ b) ∧ ((∃ r, T.find k = some r ∧ T' = T.upd r.b d) ∨ (T.find k = none ∧ goodK k = true ∧ ∃ rv R, T' = T.added rv R k d) ∨ (T.find k = none ∧ goodK k = false ∧ T' = T)) := by
  by_cases hx : T.find k = none
  rotate_left
  · obtain ⟨r, hf⟩ := Option.ne_none_iff_exists'.1 hx
    have hg : goodK k = true := by
      have h1 := T.find_mem hf
      rw [← h1.2.2]
      exact hT.good r (by simp [TT.live, h1.1, h1.2.1])
    rw [if_pos hg]
    have := put_some T k d w hT hU hk hl r hf
    exact this
  · have hf := hx
    by_cases hg : goodK k = true
    · rw [if_pos hg]
      have := put_good T k d w hT hU hk hl (hide hTT) hf hg
      exact this
    · rw [if_neg hg]
      have := put_bad T k d w hT hU hk hl (hide hTT) hf (by simpa using hg)
      exact this
