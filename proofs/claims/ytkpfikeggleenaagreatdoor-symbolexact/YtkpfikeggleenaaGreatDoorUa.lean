import Derived.Test.YtkpfikeggleenaaGreatDoorZc

/-! Xe -/
namespace Go.Proofs.YtkpfikeggleenaaGreatDoor
open Go Go.Proofs Go.Shelf Go.RowKit Go.Lib Go.Sort
set_option linter.unusedSimpArgs false
set_option linter.unusedVariables false
set_option maxHeartbeats 1000000
/-! Texts in order. -/
def ltS (a b : ByteArray) : Prop := M.cmpL (unS a) (unS b) < 0
theorem ltS_irr (a : ByteArray) : ¬ ltS a a := by
  unfold ltS
  rw [(M.cmpL_zero _ _).2 rfl]
  decide
theorem ltS_asym {a b : ByteArray} (h : ltS a b) : ¬ ltS b a := by
  unfold ltS at *
  have := M.cmpL_neg (unS a) (unS b)
  omega
theorem ltS_trans {a b c : ByteArray} (h1 : ltS a b) (h2 : ltS b c) : ltS a c := by
  unfold ltS at *
  have l1 := M.cmpL_le (unS a) (unS b) (unS c) (by omega) (by omega)
  by_cases h : M.cmpL (unS a) (unS c) = 0
  · have e := (M.cmpL_zero _ _).1 h
    rw [e] at h1
    have := M.cmpL_neg (unS c) (unS b)
    omega
  · omega
theorem sorted_unique : ∀ (l m : List ByteArray), l.Pairwise ltS → m.Pairwise ltS → (∀ x, x ∈ l ↔ x ∈ m) → l = m
  | [], [], _, _, _ => rfl
  | [], b :: m, _, _, h => by
    have := (h b).2 (List.mem_cons_self ..)
    cases this
  | a :: l, [], _, _, h => by
    have := (h a).1 (List.mem_cons_self ..)
    cases this
  | a :: l, b :: m, h1, h2, h => by
    rw [List.pairwise_cons] at h1 h2
    have hab : a = b := by
      rcases List.mem_cons.1 ((h a).1 (List.mem_cons_self ..)) with e | e
      · exact e
      · rcases List.mem_cons.1 ((h b).2 (List.mem_cons_self ..)) with e2 | e2
        · exact e2.symm
        · exact absurd (h2.1 a e) (ltS_asym (h1.1 b e2))
    subst hab
    have := sorted_unique l m h1.2 h2.2 (fun x => ⟨fun hx => by
      rcases List.mem_cons.1 ((h x).1 (List.mem_cons_of_mem _ hx)) with e | e
      · exact absurd (h1.1 x hx) (by rw [e]; exact ltS_irr a)
      · exact e, fun hx => by
      rcases List.mem_cons.1 ((h x).2 (List.mem_cons_of_mem _ hx)) with e | e
      · exact absurd (h2.1 x hx) (by rw [e]; exact ltS_irr a)
      · exact e⟩)
    rw [this]
theorem sorted_of {n : Nat} {d : Array GS} (hn : d.size = n) (hs : SortedIn (ltOf cmpS) 0 n d) (hd : (d.toList.map Subtype.val).Nodup) : (d.toList.map Subtype.val).Pairwise ltS := by
  rw [List.pairwise_iff_getElem]
  intro i j hi hj hij
  have hi' : i < d.size := by simpa using hi
  have hj' : j < d.size := by simpa using hj
  have h1 := hs i j (Nat.zero_le _) hij (by omega)
  rw [getElem!_pos d i hi', getElem!_pos d j hj'] at h1
  simp only [ltOf, decide_eq_false_iff_not] at h1
  have h2 := cmpS_neg d[j] d[i]
  have hne : cmpS d[i] d[j] ≠ 0 := fun e => by
    have e1 := (M.cmpL_zero _ _).1 e
    have e2 := un_inj d[i].2.1 d[j].2.1 e1
    have := (List.getElem?_inj (i := i) (j := j) hi hd).1 (by rw [List.getElem?_eq_getElem hi, List.getElem?_eq_getElem hj]; simp [e2])
    omega
  have h3 : cmpS d[i] d[j] < 0 := by omega
  simp only [List.getElem_map, Array.getElem_toList]
  exact h3
/-- A row lies there, with what is behind it. -/
theorem lies_putR {w : World} {blk : Nat} {d : Array GS} {r : Array Value} (m : Nat) (d' : Array GS) (os : Array Obj) (h : w.heap[blk]? = some (.cells (d.map encS ++ r) 9 (0, 0))) (hs : d'.size = d.size) : (sortWorld encS w blk 0 m d' os).heap[blk]? = some (.cells (d'.map encS ++ r) 9 (0, 0)) := by
  have hl : blk < w.heap.size := (Array.getElem?_eq_some_iff.1 h).1
  rw [heap_putS _ _ _ _ _ _ hl, if_pos rfl, h]
  simp only [Option.map_some, onCells, putCells]
  congr 2
  apply Array.ext
  · simp [hs]
  · intro j h1 h2
    simp only [Array.size_mapIdx, Array.size_append, Array.size_map] at h1 h2
    by_cases hj : j < d.size
    · have hj' : j < d'.size := by omega
      simp [hj', Array.getElem_append_left]
    · have hj' : ¬ j < d'.size := by omega
      have e1 : (d.map encS).size ≤ j := by simp; omega
      have e2 : (d'.map encS).size ≤ j := by simp; omega
      simp [Array.getElem_append_right e1, Array.getElem_append_right e2, hs]
      intro h
      omega
theorem sort35x (blk cap : Nat) (d : Array GS) (r : Array Value) (w : World) (hT : Lib.Utf8Tabs 3 4 w) (h5 : 5 ≤ blk) (hL : w.heap[blk]? = some (.cells (d.map encS ++ r) 9 (0, 0))) (hsz : d.size < 4611686018427387904) :
    Calls Tryz.prog 41 #[.slice (some ⟨blk, 0, none⟩) d.size cap, .func (.func 42) #[] #[]] w fun e w' => e = .returned (.tuple #[]) ∧ ∃ d' : Array GS, d'.toList.Perm d.toList ∧ SortedIn (ltOf cmpS) 0 d.size d' ∧ w'.heap[blk]? = some (.cells (d'.map encS ++ r) 9 (0, 0)) ∧ RowKit.Below blk w w' := by
  have hLS : LiesS w blk d := ⟨r, hL⟩
  have eg : ∀ args w, (callFunc 42 args).run Tryz.prog w = .ok (.enter 42 args) w := enters_of Tryz.func42 (by kernel_rfl) rfl
  have hcmp : CmpLays1 Tryz.prog 42 #[] encS cmpS blk 0 d.size w := by
    intro m os dk hs x y
    have hT' : Lib.Utf8Tabs 3 4 (sortWorld encS w blk 0 m dk os) := tabs_belowB hT h5 (below_putS w blk m dk os hLS.lt)
    exact calls_grows (compare36 x y _ hT')
  have hcon := Any.slices_SortFunc Tryz.sortS encS encS_one cmpS swoS 42 #[] blk 0 cap d w eg hcmp hLS.holds hLS.lt hsz
  change Calls Tryz.prog 41 _ _ _ at hcon
  refine hcon.mono ?_
  rintro e w' ⟨rfl, d', n, os, hp, hs, rfl⟩
  have hz : d'.size = d.size := hp.1
  refine ⟨rfl, d', ?_, hs, lies_putR n d' os hL hz, below_putS w blk n d' os hLS.lt⟩
  have := hp.2.2
  simp only [Array.toList_extract, List.extract_eq_take_drop, List.drop_zero, Nat.sub_zero] at this
  rwa [List.take_of_length_le (by simp [hz]), List.take_of_length_le (by simp)] at this
theorem lies_ofR {w : World} {base n : Nat} {v : Value} {ts : List ByteArray} (h : w.ownsRow base 9 1 v n (ts.map Value.string)) (hs : v.ownBlock.isSome = true) (hn : ts.length = n) (hg : ∀ s ∈ ts, vS s = true ∧ s.size ≤ 1048576) : ∃ (g c : Nat) (d : Array GS) (r : Array Value), v = .slice (some ⟨g, 0, none⟩) n c ∧ base ≤ g ∧ d.size = n ∧ d.toList.map Subtype.val = ts ∧ w.heap[g]? = some (.cells (d.map encS ++ r) 9 (0, 0)) ∧ n ≤ c ∧ c ≤ maxLen ∧ n + r.size = c := by
  rcases h.2 with ⟨rfl, -⟩ | ⟨g, cap, cur, rfl, h1, h2, h3, h4, h5, h6⟩
  · cases hs
  · let d : List GS := ts.attach.map (fun x => ⟨x.1, hg x.1 x.2⟩)
    have hv : d.map Subtype.val = ts := by
      show (ts.attach.map (fun x => (⟨x.1, hg x.1 x.2⟩ : GS))).map Subtype.val = ts
      rw [List.map_map]
      conv => rhs; rw [← List.attach_map_subtype_val ts]
      rfl
    have hd : d.map encS = ts.map Value.string := by
      have := congrArg (List.map Value.string) hv
      rw [List.map_map] at this
      exact this
    have hl : d.length = n := by
      have := congrArg List.length hd
      simp only [List.length_map] at this
      omega
    refine ⟨g, cap, d.toArray, (cur.toList.drop n).toArray, rfl, h1, by simpa using hl, by simpa using hv, ?_, h3, h4, ?_⟩
    · rw [h2]
      congr 2
      apply Array.toList_inj.1
      simp only [Array.toList_append, List.map_toArray, hd]
      rw [← h6, Nat.mul_one]
      simp
    · simp
      omega
theorem own_ofR {w : World} {base g n c : Nat} {d : Array GS} {r : Array Value} (hb : base ≤ g) (hd : d.size = n) (h : w.heap[g]? = some (.cells (d.map encS ++ r) 9 (0, 0))) (h3 : n ≤ c) (h4 : c ≤ maxLen) (h5 : n + r.size = c) : w.ownsRow base 9 1 (.slice (some ⟨g, 0, none⟩) n c) n ((d.toList.map Subtype.val).map Value.string) := by
  refine ⟨by simp [hd], .inr ⟨g, c, d.map encS ++ r, rfl, hb, h, h3, h4, by simp [hd, h5], ?_⟩⟩
  rw [Nat.mul_one, Array.toList_append, List.take_append_of_le_length (by simp [hd]), List.take_of_length_le (by simp [hd]), List.map_map, Array.toList_map]
  rfl
end Go.Proofs.YtkpfikeggleenaaGreatDoor

/-! Xf -/
namespace Go.Proofs.YtkpfikeggleenaaGreatDoor
open Go Go.Proofs Go.Maps Go.RowKit
set_option linter.unusedSimpArgs false
set_option linter.unusedVariables false
set_option maxHeartbeats 1000000
set_option maxRecDepth 100000 in
theorem known20x (R : RG) (w : World) {n sz : Nat} {F : ByteArray → Option Nat} (hR : R.Is w n sz F) (hT : Tabs w) (hv : ∀ s, OkS s → (F s).isSome = true → (sV s).good = true) (hsl : sz ≤ 65536) : Calls Tryz.prog 19 #[.pointer (some ⟨R.r, 0, none⟩)] w fun e w' => ∃ (v : Value) (ts : List ByteArray), e = .returned v ∧ w'.ownsRow w.heap.size 9 1 v ts.length (ts.map Value.string) ∧ ts.length = sz ∧ ts.Pairwise ltS ∧ (∀ s, s ∈ ts ↔ OkS s ∧ (F s).isSome = true) ∧ Below w.heap.size w w' := by
  have HR := hide hR
  have HT := hide hT
  have HV := hide hv
  have HSL := hide hsl
  have LL := hide (Hq.nil w [])
  have hml := hR.map.lt
  have HML := hide hml
  obtain ⟨D, hD, hsz, hD3⟩ := hR.map
  have HD := hide hD
  have HSZ := hide (And.intro hsz hD3)
  clear hD hsz hD3 hR hT hv hsl hml
  go_enter Tryz.func19, Tryz.ntmps19
  go_wp2_with (first | go_skip | ((with_reducible show wpList _ _ _ _ _ _); first | ((refine rd (by rfl) (ex_load1 70 Tryz.isAgg70 rfl rfl (((unhide HR).fr (unhide LL).fr (by simp)).hold) rfl) ?_); simp only [Act.put, List.setIfInBounds_toArray, List.set_cons_succ, List.set_cons_zero]) | ((refine rd (by rfl) (ex_lenM rfl rfl (unhide HR).map) ?_); simp only [Act.put, List.setIfInBounds_toArray, List.set_cons_succ, List.set_cons_zero]) | ((refine mk_any sz (by rfl) rfl rfl rfl Tryz.underlying53 info9 (by have := unhide HSL; omega) (by decide) (by decide) ?_); intro X1 hO1 hb1; have HO := hide hO1; have HB1 := hide hb1; replace LL := hide ((unhide LL).on hb1); clear hO1 hb1; simp only [Act.put, List.setIfInBounds_toArray, List.set_cons_succ, List.set_cons_zero]) | ((refine wpList_range_own _ rfl _ 70 rfl 9 3 law9 Tryz.underlying70 _ R.m n _ rfl (by exact (ownsMap_block (unhide HD) ((unhide HB1).block _ (unhide HD).lt))) ?_); intro X2 hrg hg2 hs2; have HG2 := hide (And.intro hrg (And.intro hg2 hs2)); clear hrg hg2 hs2; simp only [Act.put, List.setIfInBounds_toArray, List.set_cons_succ, List.set_cons_zero])))
  have hX1 : w.heap.size < X1.heap.size := (World.ownsRow.lt (unhide HO) _ rfl).2
  obtain ⟨it, hit⟩ : ∃ it, it = X1.heap.size := ⟨_, rfl⟩
  have hK : KM w X2 R.m it n sz F D (.slice (some ⟨w.heap.size, 0, none⟩) 0 sz) [] (Maps.has D) sz := by
    obtain ⟨hrg, hg2, hs2⟩ := unhide HG2
    obtain ⟨e1, e3⟩ := unhide HSZ
    rw [e1, ← hit] at hrg
    refine ⟨hrg, own_blk (unhide HO) (fun g hg => hg2.block g ((World.ownsRow.lt (unhide HO) g hg).2) (by simp)), rfl, ?_, (unhide HB1).grown hg2 (unhide HB1).size (fun j hj => by cases hj), by simp, by simp, (fun s hs => by cases hs), ?_, ?_⟩
    · intro e
      have : w.heap.size = it := Option.some.inj e
      omega
    · intro s hs hf
      exact .inl (by rw [(e3 s hs).2]; exact hf)
    · intro s hs hf
      rw [← (e3 s hs).2]
      exact hf
  rw [← hit]
  have HIT := hide hit
  have HK := hide hK
  clear hK hit hX1 HG2 HO LL
  generalize hv0 : Value.slice (some ⟨w.heap.size, 0, none⟩) 0 sz = v0 at *
  clear hv0
  go_loopg [3] (sz + 1) (fun gm s3 wr => ∃ (ts : List ByteArray) (left : Lit → Bool) (cnt : Nat), cnt + 1 ≤ gm ∧ Hid (KM w wr R.m it n sz F D s3 ts left cnt))
  case atStart => exact ⟨[], _, sz, by omega, HK⟩
  case round =>
    clear HK
    obtain ⟨ts, left, cnt, hgm, HK⟩ := hrel
    go_wp2_with (first | go_skip | ((with_reducible show wpList _ _ _ _ _ _); (refine wpList_next_ranges _ rfl _ rfl 9 law9 intR Value.string (Value.int .i64) invS invI R.m it n D left cnt rfl (unhide HK).rg ?_ ?_)))
    · intro hc0 hl0
      have hlen := (unhide HK).done (unhide HD) (unhide HSZ).1 (fun s hs => ((unhide HSZ).2 s hs).2) hl0
      obtain ⟨g, c, d, rr, hv, hbg, hds, hdv, hL, hc3, hc4, hc5⟩ := lies_ofR (unhide HK).own (unhide HK).isS rfl (fun s hs => sV_vS (unhide HV s ((unhide HK).good s hs).1 ((unhide HK).good s hs).2.1))
      have HQ : Hid (ts.Nodup ∧ ∀ s, s ∈ ts ↔ OkS s ∧ (F s).isSome = true) := hide ⟨(unhide HK).nd, fun s => ⟨fun h => ⟨((unhide HK).good s h).1, ((unhide HK).good s h).2.1⟩, fun h => ((unhide HK).all s h.1 h.2).resolve_left (by rw [hl0]; simp)⟩⟩
      have HB := hide (And.intro (unhide HK).bel (And.intro hbg (And.intro hds (And.intro hdv (And.intro hc3 (And.intro hc4 (And.intro hc5 hlen)))))))
      have hS := sort35x g c d rr wr ((unhide HT).on (unhide HK).bel).u (Nat.le_trans (unhide HT).sz hbg) hL (by rw [hds, hlen]; have := unhide HSL; omega)
      rw [hds] at hS
      subst hv
      have HS := hide hS
      clear hS hL hds hbg hlen HK hl0 hc0 hdv hc3 hc4 hc5
      go_wp2_with fail
      refine (unhide HS).mono ?_
      rintro e X4 ⟨rfl, d', hp, hst, hX, hb4⟩
      obtain ⟨hbl, hbg, hds, hdv, hc3, hc4, hc5, hlen⟩ := unhide HB
      have hz : d'.size = ts.length := by
        have := hp.length_eq
        simp at this
        omega
      have hpv : (d'.toList.map Subtype.val).Perm ts := by
        have := hp.map Subtype.val
        rwa [hdv] at this
      have hO := own_ofR (base := w.heap.size) hbg hz hX hc3 hc4 hc5
      have HF : Hid (X4.ownsRow w.heap.size 9 1 (.slice (some ⟨g, 0, none⟩) ts.length c) (d'.toList.map Subtype.val).length ((d'.toList.map Subtype.val).map Value.string) ∧ (d'.toList.map Subtype.val).length = sz ∧ (d'.toList.map Subtype.val).Pairwise ltS ∧ (∀ s, s ∈ d'.toList.map Subtype.val ↔ OkS s ∧ (F s).isSome = true) ∧ Below w.heap.size w X4) := hide (by
        have hll : (d'.toList.map Subtype.val).length = ts.length := hpv.length_eq
        refine ⟨by rw [hll]; exact hO, hll.trans hlen, sorted_of hz hst (hpv.nodup_iff.2 (unhide HQ).1), fun s => ?_, hbl.trans (hb4.mono hbg)⟩
        rw [hpv.mem_iff]
        exact (unhide HQ).2 s)
      clear hp hst hX hb4 hbl hbg hds hdv hc3 hc4 hc5 hlen hz hpv hO
      go_wp2
      go_ret
      exact ⟨_, _, rfl, unhide HF⟩
    · intro s c kl y1 y2 X1 cnt1 hkey hlk hv1 hat hrg hlt hg1 hs1 hen
      obtain ⟨s2, es2, ekl, hk⟩ := WideMaps.string_of_keyOf Tryz.underlying9 hkey
      cases es2
      subst ekl
      change left (kS s) = true at hlk
      change X1.ranges Tryz.prog 9 intR R.m it n D (fun z => left z && !z.sameKey (kS s)) cnt1 at hrg
      have hfs := (unhide HK).sub s hk hlk
      have hgd := sV_vS (unhide HV s hk hfs)
      have hI : it < X1.heap.size := hrg.lt
      have hbX : Below w.heap.size w X1 := (unhide HK).bel.grown hg1 (unhide HK).bel.size (fun j hj => by have := unhide HIT; have h2 := (unhide HB1).size; cases hj; omega)
      have hO1 : X1.ownsRow w.heap.size 9 1 u3 ts.length (ts.map Value.string) := own_blk (unhide HK).own (fun g hg => hg1.block g ((World.ownsRow.lt (unhide HK).own g hg).2) (fun e => (unhide HK).ne (by rw [hg, e])))
      have HE := hide hen
      have HX := hide (And.intro hk (And.intro hlk (And.intro hrg (And.intro hlt (And.intro hI (And.intro hbX hO1))))))
      have HC := hide (fun X => clone_any s X hgd.2)
      have LL := hide (Hq.nil X1 [])
      clear hkey hlk hv1 hat hrg hlt hg1 hs1 hen hfs hgd hI hbX hO1 hk
      go_wp2_with (first | go_skip | ((with_reducible show wpList _ _ _ _ _ _); first | ((refine rd (by rfl) (ex_entry rfl rfl (unhide HE)) ?_); simp only [Act.put, List.setIfInBounds_toArray, List.set_cons_succ, List.set_cons_zero])))
      refine (unhide HC _).mono ?_
      rintro e X2 ⟨rfl, hb⟩
      replace LL := hide ((unhide LL).on hb)
      clear hb
      go_wp2_with (first | go_skip | ((with_reducible show wpList _ _ _ _ _ _); first | ((refine build_any (t := 53) (e := 9) (size := 1) (bytes := 16) (z := .string ⟨#[]⟩) (cs := [.string s]) (by rfl) rfl rfl Tryz.underlying53 info9 (by decide) rfl rfl (by decide) (unhide LL) ?_); intro X3 B3 hE3 L3 hb3; replace LL := hide L3; clear L3 hb3 hE3; simp only [Act.put, List.setIfInBounds_toArray, List.set_cons_succ, List.set_cons_zero]) | ((refine append_any (v := u3) (base := w.heap.size) (n := ts.length) (xs := ts.map Value.string) rfl rfl rfl rfl Tryz.underlying53 info9 rfl (by decide) (own_blk (unhide HX).2.2.2.2.2.2 (fun g hg => (unhide LL).fr.block g ((World.ownsRow.lt (unhide HX).2.2.2.2.2.2 g hg).2) (by simp))) ((unhide LL).get 0 rfl) rfl (by simp [Value.oneCell']) (by have h1 := (unhide HK).sum; have h2 := unhide HSL; omega) (by decide) (Nat.le_trans (unhide HX).2.2.2.2.2.1.size (unhide LL).fr.size) ?_); intro A6 c6 X6 hO6 hg6 hf6; have HN := hide ((unhide HK).next (unhide HML) (unhide HX).1 (unhide HX).2.1 ((unhide HX).2.2.1.kept (grown_of_below (unhide LL).fr.below) (by simp) (by simp)) (unhide HX).2.2.2.1 hO6 hg6 hf6 ((unhide HX).2.2.2.2.2.1.trans ((unhide LL).fr.below.mono (unhide HX).2.2.2.2.2.1.size)) (Nat.lt_of_lt_of_le (unhide HX).2.2.2.2.1 (unhide LL).fr.size)); clear hO6 hg6 hf6; simp only [Act.put, List.setIfInBounds_toArray, List.set_cons_succ, List.set_cons_zero])))
      have hlt := (unhide HX).2.2.2.1
      go_roundg (cnt1 + 1)
      case measure => omega
      case rel => exact ⟨ts ++ [s], _, cnt1, Nat.le_refl _, HN⟩
end Go.Proofs.YtkpfikeggleenaaGreatDoor
