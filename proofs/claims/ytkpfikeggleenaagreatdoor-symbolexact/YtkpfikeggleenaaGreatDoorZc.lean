import Derived.Test.YtkpfikeggleenaaGreatDoorZb
namespace Go.Proofs.YtkpfikeggleenaaGreatDoor
open Go Go.Proofs Go.Maps Go.RowKit
set_option linter.unusedSimpArgs false
set_option linter.unusedVariables false
set_option maxHeartbeats 1000000
/-- A row that is ours, of texts that are good, lies there. -/
theorem lies_of {w : World} {base n : Nat} {v : Value} {ts : List ByteArray} (h : w.ownsRow base 9 1 v n (ts.map Value.string)) (hs : v.ownBlock.isSome = true) (hn : ts.length = n) (hg : ∀ s ∈ ts, vS s = true ∧ s.size ≤ 1048576) : ∃ (g c : Nat) (d : Array GS), v = .slice (some ⟨g, 0, none⟩) n c ∧ base ≤ g ∧ d.size = n ∧ LiesS w g d := by
  rcases h.2 with ⟨rfl, -⟩ | ⟨g, cap, cur, rfl, h1, h2, h3, h4, h5, h6⟩
  · cases hs
  · let d : List GS := ts.attach.map (fun x => ⟨x.1, hg x.1 x.2⟩)
    have hd : d.map encS = ts.map Value.string := by
      show (ts.attach.map (fun x => (⟨x.1, hg x.1 x.2⟩ : GS))).map encS = _
      rw [List.map_map]
      have : (encS ∘ fun x : { x // x ∈ ts } => (⟨x.1, hg x.1 x.2⟩ : GS)) = fun x => Value.string x.1 := rfl
      rw [this]
      conv => rhs; rw [← List.attach_map_subtype_val ts]
      rw [List.map_map]
      rfl
    have hl : d.length = n := by
      have := congrArg List.length hd
      simp only [List.length_map] at this
      omega
    refine ⟨g, cap, d.toArray, rfl, h1, by simpa using hl, (cur.toList.drop n).toArray, ?_⟩
    rw [h2]
    congr 2
    apply Array.toList_inj.1
    simp only [Array.toList_append, List.map_toArray, hd]
    rw [← h6, Nat.mul_one]
    simp
set_option maxRecDepth 100000 in
theorem known20 (R : RG) (w : World) {n sz : Nat} {F : ByteArray → Option Nat} (hR : R.Is w n sz F) (hT : Tabs w) (hv : ∀ s, OkS s → (F s).isSome = true → (sV s).good = true) (hsl : sz ≤ 65536) : Calls Tryz.prog 19 #[.pointer (some ⟨R.r, 0, none⟩)] w fun e w' => ∃ A c, e = .returned (.slice A sz c) ∧ Below w.heap.size w w' := by
  have HR := hide hR
  have HT := hide hT
  have HV := hide hv
  have HSL := hide hsl
  have LL := hide (Hq.nil w [])
  have hml := hR.map.lt
  have HML := hide hml
  obtain ⟨D, hD, hsz, hD3⟩ := hR.map
  have HD := hide hD
  have HSZ := hide (And.intro hsz hD3)
  clear hD hsz hD3 hR hT hv hsl hml
  go_enter Tryz.func19, Tryz.ntmps19
  go_wp2_with (first | go_skip | ((with_reducible show wpList _ _ _ _ _ _); first | ((refine rd (by rfl) (ex_load1 70 Tryz.isAgg70 rfl rfl (((unhide HR).fr (unhide LL).fr (by simp)).hold) rfl) ?_); simp only [Act.put, List.setIfInBounds_toArray, List.set_cons_succ, List.set_cons_zero]) | ((refine rd (by rfl) (ex_lenM rfl rfl (unhide HR).map) ?_); simp only [Act.put, List.setIfInBounds_toArray, List.set_cons_succ, List.set_cons_zero]) | ((refine mk_any sz (by rfl) rfl rfl rfl Tryz.underlying53 info9 (by have := unhide HSL; omega) (by decide) (by decide) ?_); intro X1 hO1 hb1; have HO := hide hO1; have HB1 := hide hb1; replace LL := hide ((unhide LL).on hb1); clear hO1 hb1; simp only [Act.put, List.setIfInBounds_toArray, List.set_cons_succ, List.set_cons_zero]) | ((refine wpList_range_own _ rfl _ 70 rfl 9 3 law9 Tryz.underlying70 _ R.m n _ rfl (by exact (ownsMap_block (unhide HD) ((unhide HB1).block _ (unhide HD).lt))) ?_); intro X2 hrg hg2 hs2; have HG2 := hide (And.intro hrg (And.intro hg2 hs2)); clear hrg hg2 hs2; simp only [Act.put, List.setIfInBounds_toArray, List.set_cons_succ, List.set_cons_zero])))
  have hX1 : w.heap.size < X1.heap.size := (World.ownsRow.lt (unhide HO) _ rfl).2
  obtain ⟨it, hit⟩ : ∃ it, it = X1.heap.size := ⟨_, rfl⟩
  have hK : KM w X2 R.m it n sz F D (.slice (some ⟨w.heap.size, 0, none⟩) 0 sz) [] (Maps.has D) sz := by
    obtain ⟨hrg, hg2, hs2⟩ := unhide HG2
    obtain ⟨e1, e3⟩ := unhide HSZ
    rw [e1, ← hit] at hrg
    refine ⟨hrg, own_blk (unhide HO) (fun g hg => hg2.block g ((World.ownsRow.lt (unhide HO) g hg).2) (by simp)), rfl, ?_, (unhide HB1).grown hg2 (unhide HB1).size (fun j hj => by cases hj), by simp, by simp, (fun s hs => by cases hs), ?_, ?_⟩
    · intro e
      have : w.heap.size = it := Option.some.inj e
      omega
    · intro s hs hf
      exact .inl (by rw [(e3 s hs).2]; exact hf)
    · intro s hs hf
      rw [← (e3 s hs).2]
      exact hf
  rw [← hit]
  have HIT := hide hit
  have HK := hide hK
  clear hK hit hX1 HG2 HO LL
  generalize hv0 : Value.slice (some ⟨w.heap.size, 0, none⟩) 0 sz = v0 at *
  clear hv0
  go_loopg [3] (sz + 1) (fun gm s3 wr => ∃ (ts : List ByteArray) (left : Lit → Bool) (cnt : Nat), cnt + 1 ≤ gm ∧ Hid (KM w wr R.m it n sz F D s3 ts left cnt))
  case atStart => exact ⟨[], _, sz, by omega, HK⟩
  case round =>
    clear HK
    obtain ⟨ts, left, cnt, hgm, HK⟩ := hrel
    go_wp2_with (first | go_skip | ((with_reducible show wpList _ _ _ _ _ _); (refine wpList_next_ranges _ rfl _ rfl 9 law9 intR Value.string (Value.int .i64) invS invI R.m it n D left cnt rfl (unhide HK).rg ?_ ?_)))
    · intro hc0 hl0
      have hlen := (unhide HK).done (unhide HD) (unhide HSZ).1 (fun s hs => ((unhide HSZ).2 s hs).2) hl0
      obtain ⟨g, c, d, hv, hbg, hds, hL⟩ := lies_of (unhide HK).own (unhide HK).isS rfl (fun s hs => sV_vS (unhide HV s ((unhide HK).good s hs).1 ((unhide HK).good s hs).2.1))
      have HB := hide (And.intro (unhide HK).bel hbg)
      have hS := sort35g g c d wr ((unhide HT).on (unhide HK).bel).u (Nat.le_trans (unhide HT).sz hbg) hL (by rw [hds, hlen]; have := unhide HSL; omega)
      rw [hds, hlen] at hS
      rw [hlen] at hv
      subst hv
      have HS := hide hS
      clear hS hL hds hbg hlen HK hl0 hc0
      go_wp2_with fail
      refine (unhide HS).mono ?_
      rintro e X4 ⟨rfl, hb4⟩
      have HB4 := hide ((unhide HB).1.trans (hb4.mono (unhide HB).2))
      clear hb4
      go_wp2
      go_ret
      exact ⟨_, _, rfl, unhide HB4⟩
    · intro s c kl y1 y2 X1 cnt1 hkey hlk hv1 hat hrg hlt hg1 hs1 hen
      obtain ⟨s2, es2, ekl, hk⟩ := WideMaps.string_of_keyOf Tryz.underlying9 hkey
      cases es2
      subst ekl
      change left (kS s) = true at hlk
      change X1.ranges Tryz.prog 9 intR R.m it n D (fun z => left z && !z.sameKey (kS s)) cnt1 at hrg
      have hfs := (unhide HK).sub s hk hlk
      have hgd := sV_vS (unhide HV s hk hfs)
      have hI : it < X1.heap.size := hrg.lt
      have hbX : Below w.heap.size w X1 := (unhide HK).bel.grown hg1 (unhide HK).bel.size (fun j hj => by have := unhide HIT; have h2 := (unhide HB1).size; cases hj; omega)
      have hO1 : X1.ownsRow w.heap.size 9 1 u3 ts.length (ts.map Value.string) := own_blk (unhide HK).own (fun g hg => hg1.block g ((World.ownsRow.lt (unhide HK).own g hg).2) (fun e => (unhide HK).ne (by rw [hg, e])))
      have HE := hide hen
      have HX := hide (And.intro hk (And.intro hlk (And.intro hrg (And.intro hlt (And.intro hI (And.intro hbX hO1))))))
      have HC := hide (fun X => clone_any s X hgd.2)
      have LL := hide (Hq.nil X1 [])
      clear hkey hlk hv1 hat hrg hlt hg1 hs1 hen hfs hgd hI hbX hO1 hk
      go_wp2_with (first | go_skip | ((with_reducible show wpList _ _ _ _ _ _); first | ((refine rd (by rfl) (ex_entry rfl rfl (unhide HE)) ?_); simp only [Act.put, List.setIfInBounds_toArray, List.set_cons_succ, List.set_cons_zero])))
      refine (unhide HC _).mono ?_
      rintro e X2 ⟨rfl, hb⟩
      replace LL := hide ((unhide LL).on hb)
      clear hb
      go_wp2_with (first | go_skip | ((with_reducible show wpList _ _ _ _ _ _); first | ((refine build_any (t := 53) (e := 9) (size := 1) (bytes := 16) (z := .string ⟨#[]⟩) (cs := [.string s]) (by rfl) rfl rfl Tryz.underlying53 info9 (by decide) rfl rfl (by decide) (unhide LL) ?_); intro X3 B3 hE3 L3 hb3; replace LL := hide L3; clear L3 hb3 hE3; simp only [Act.put, List.setIfInBounds_toArray, List.set_cons_succ, List.set_cons_zero]) | ((refine append_any (v := u3) (base := w.heap.size) (n := ts.length) (xs := ts.map Value.string) rfl rfl rfl rfl Tryz.underlying53 info9 rfl (by decide) (own_blk (unhide HX).2.2.2.2.2.2 (fun g hg => (unhide LL).fr.block g ((World.ownsRow.lt (unhide HX).2.2.2.2.2.2 g hg).2) (by simp))) ((unhide LL).get 0 rfl) rfl (by simp [Value.oneCell']) (by have h1 := (unhide HK).sum; have h2 := unhide HSL; omega) (by decide) (Nat.le_trans (unhide HX).2.2.2.2.2.1.size (unhide LL).fr.size) ?_); intro A6 c6 X6 hO6 hg6 hf6; have HN := hide ((unhide HK).next (unhide HML) (unhide HX).1 (unhide HX).2.1 ((unhide HX).2.2.1.kept (grown_of_below (unhide LL).fr.below) (by simp) (by simp)) (unhide HX).2.2.2.1 hO6 hg6 hf6 ((unhide HX).2.2.2.2.2.1.trans ((unhide LL).fr.below.mono (unhide HX).2.2.2.2.2.1.size)) (Nat.lt_of_lt_of_le (unhide HX).2.2.2.2.1 (unhide LL).fr.size)); clear hO6 hg6 hf6; simp only [Act.put, List.setIfInBounds_toArray, List.set_cons_succ, List.set_cons_zero])))
      have hlt := (unhide HX).2.2.2.1
      go_roundg (cnt1 + 1)
      case measure => omega
      case rel => exact ⟨ts ++ [s], _, cnt1, Nat.le_refl _, HN⟩
end Go.Proofs.YtkpfikeggleenaaGreatDoor
