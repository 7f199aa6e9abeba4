import Derived.Test.YtmgflhhealdfoaaGreatDoorRr
set_option linter.all false
namespace Go.Proofs.YtmgflhhealdfoaaGreatDoor
set_option maxHeartbeats 1000000
section
open Go Go.Proofs Go.Maps Go.RowKit FM
attribute [local go_sem] mm_GetOwnProperty mm_DefineOwnProperty mm_Get ta_caller ta_builder
def knV (n : Nat) (v : VV) : Bool := !(v.k == 7) || decide (checkE n v = 0)
def knO (n : Nat) (o : OP) : Bool := (namedL o).all (knV n)
def knOE (n : Nat) (l : List OP) : Int := if l.all (knO n) then 0 else 4
theorem allO_false {f : OP → Bool} {l : List OP} {i : Nat} {v : OP} (hv : l[i]? = some v) (hf : f v = false) : l.all f = false := by
  rw [List.all_eq_false]
  exact ⟨v, List.mem_of_getElem? hv, by simp [hf]⟩
theorem allO_true {f : OP → Bool} {l : List OP} (h : ∀ j v, j < l.length → l[j]? = some v → f v = true) : l.all f = true := by
  rw [List.all_eq_true]
  intro v hv
  obtain ⟨j, hj⟩ := List.getElem?_of_mem hv
  exact h j v (List.getElem?_eq_some_iff.1 hj).1 hj
theorem Sy.nil2 {w X Y : World} (A : Sy w X [] []) (B : Sy X Y [] []) : Sy w Y [] [] := A.on B.fr.below
set_option maxHeartbeats 2000000 in
set_option maxRecDepth 100000 in
theorem known_O (h : HP) (A : Option Addr) (c : Nat) (l : List OP) (w : World) (H : h.Is w) (hT : Lib.Utf8Tabs 1 2 w) (hR : ReadsO w A l) (hz : l.length ≤ 256) : Calls Tryz.prog 26 #[.pointer (some ⟨h.b, 0, none⟩), .slice A l.length c] w fun e w' => e = .returned (.int .i64 (knOE h.l.length l)) ∧ Below w.heap.size w w' := by
  have SS := hide (Sy.nil w [])
  have HH := hide H
  have HT := hide hT
  have HR := hide hR
  have HZ := hide hz
  clear H hT hR hz
  go_enter Tryz.func26, Tryz.ntmps26
  go_wp2_with (first | go_skip | ((with_reducible show wpList _ _ _ _ _ _); first | (refine rd (by rfl) (ex_lenG 41 40 Tryz.underlying41 rfl rfl) ?_; simp only [Act.put, n1, n2, n3])))
  go_loopg [11] l.length (fun gm s11 wr => ∃ i : Nat, s11 = .int .i64 (i : Nat) ∧ i ≤ l.length ∧ l.length - i ≤ gm ∧ Hid (∀ j u, j < i → l[j]? = some u → knO h.l.length u = true) ∧ Hid (Sy w wr [] []))
  case atStart => exact ⟨0, rfl, by omega, by omega, hide (fun j v hj => by omega), SS⟩
  case round =>
    clear SS
    obtain ⟨i, rfl, hil, hgm, HD, SS⟩ := hrel
    by_cases hlt : i < l.length
    · have dlt : decide ((i : Int) < (l.length : Int)) = true := decide_eq_true (by omega)
      have hw1 : IntKind.i64.wrap ((i : Int) + 1) = (i : Int) + 1 := by have := unhide HZ; rw [IntKind.wrap_i64]; omega
      obtain ⟨p, hp⟩ : ∃ p, l[i]? = some p := ⟨_, List.getElem?_eq_getElem hlt⟩
      obtain ⟨hOk, b, off, hA, hb, hrg⟩ := (unhide HR) i p hp
      subst hA
      have HA2 : Hid (∀ X, Below w.heap.size w X → X.rangeAt b (off + i * 32) p.cs) := hide (fun X hX => rangeAt_on hrg hb hX)
      have HN := hide (fun X => named_any p hOk.2.2 X)
      simp only [pagg] at HN
      have HLT := hide hlt
      clear hil hlt hb hrg hOk
      go_wp2_with (first | go_skip | ((with_reducible show wpList _ _ _ _ _ _); first | (refine rd (by rfl) (ex_lenG 41 40 Tryz.underlying41 rfl rfl) ?_; simp only [Act.put, n1, n2, n3]) | (refine rd (by rfl) (ex_indexG 41 32 i unPos idPos rfl rfl rfl (unhide HLT)) ?_; simp only [Act.put, n1, n2, n3]) | (refine rd (by rfl) (ex_loadR (vs := p.cs) 40 32 rwP_ szP_ rfl rfl (unhide HA2 _ (unhide SS).fr.below) rfl) ?_; simp only [Act.put, n1, n2, n3]) | (refine zA 40 (zerO.cs) (by rfl) rfl SS ?_; clear SS; intro X6 B6 SS; simp only [Act.put, n1, n2, n3]) | (refine zS (hp := (show 0 + 32 ≤ 32 by decide)) (p.cs) 0 40 (by rfl) rfl rfl rfl rfl (pcs_one _) szP_ SS rfl ?_; clear SS; intro Xs SS; simp only [Act.put, n1, n2, n3]) | (refine zL (p.cs) 40 32 0 rwP_ szP_ (by rfl) rfl rfl SS rfl rfl rfl ?_; simp only [Act.put, n1, n2, n3]) | (refine rd (by rfl) (ex_lenG 63 24 Tryz.underlying63 rfl rfl) ?_; simp only [Act.put, n1, n2, n3])))
      refine (unhide HN _).mono ?_
      rintro e Xn ⟨A3, c3, rfl, hRV, hb4⟩
      replace SS := hide ((unhide SS).on hb4)
      have SA := hide (Sy.left (L := []) (M := [_]) (unhide SS))
      replace SS := hide (Sy.nil Xn [])
      have HRV := hide hRV
      clear hb4 hRV HN
      go_wp2_with (first | go_skip | ((with_reducible show wpList _ _ _ _ _ _); first | (refine rd (by rfl) (ex_lenG 63 24 Tryz.underlying63 rfl rfl) ?_; simp only [Act.put, n1, n2, n3])))
      go_loopg [18] (namedL p).length (fun gm s18 wr => ∃ t : Nat, s18 = .int .i64 (t : Nat) ∧ t ≤ (namedL p).length ∧ (namedL p).length - t ≤ gm ∧ Hid (∀ j u, j < t → (namedL p)[j]? = some u → knV h.l.length u = true) ∧ Hid (Sy Xn wr [] []))
      case atStart => exact ⟨0, rfl, by omega, by omega, hide (fun j v hj => by omega), SS⟩
      case round =>
        clear SS
        obtain ⟨t, rfl, htl, hgm2, HD2, SS⟩ := hrel
        by_cases hlt2 : t < (namedL p).length
        · have dlt : decide ((t : Int) < ((namedL p).length : Int)) = true := decide_eq_true (by omega)
          have h3 : (namedL p).length ≤ 3 := by unfold namedL; split <;> (try split) <;> simp
          have hwt : IntKind.i64.wrap ((t : Int) + 1) = (t : Int) + 1 := by rw [IntKind.wrap_i64]; omega
          clear h3
          obtain ⟨v, hv⟩ : ∃ v, (namedL p)[t]? = some v := ⟨_, List.getElem?_eq_getElem hlt2⟩
          obtain ⟨b2, off2, hA3, hb3, hrg3⟩ := (unhide HRV) t v hv
          subst hA3
          have HV2 : Hid (∀ X, Below Xn.heap.size Xn X → X.rangeAt b2 (off2 + t * 5) v.cs) := hide (fun X hX => rangeAt_on hrg3 hb3 hX)
          have HTT := hide hlt2
          clear hb3 hrg3 hlt2 htl
          by_cases hk : v.k = 7
          · go_wp2_with (first | go_skip | ((with_reducible show wpList _ _ _ _ _ _); first | (refine rd (by rfl) (ex_lenG 63 24 Tryz.underlying63 rfl rfl) ?_; simp only [Act.put, n1, n2, n3]) | (refine rd (by rfl) (ex_indexG 63 5 t unVs idVs rfl rfl rfl (unhide HTT)) ?_; simp only [Act.put, n1, n2, n3]) | (refine rd (by rfl) (ex_loadR (vs := v.cs) 24 5 rwV szV rfl rfl (unhide HV2 _ (unhide SS).fr.below) rfl) ?_; simp only [Act.put, n1, n2, n3]) | (refine zA 24 (zeroV.cs) (by rfl) rfl SS ?_; clear SS; intro X8 B8 SS; simp only [Act.put, n1, n2, n3]) | (refine zS (v.cs) 0 24 (by rfl) rfl rfl rfl rfl (oneV v) szV SS rfl ?_; clear SS; intro X9 SS; simp only [Act.put, n1, n2, n3]) | (refine z1 3 Tryz.isAgg3 0 (by rfl) rfl rfl SS rfl rfl ?_; simp only [Act.put, n1, n2, n3]) | (refine zL (v.cs) 24 5 0 rwV szV (by rfl) rfl rfl SS rfl rfl rfl ?_; simp only [Act.put, n1, n2, n3]) | (refine rd (by rfl) (ex_eqYes rfl rfl rfl hk) ?_; simp only [Act.put, n1, n2, n3])))
            have HC := check_h h v _ ((unhide HH).on (Sy.nil2 (unhide SA) (Sy.left (L := []) (M := [_]) (unhide SS))).fr.below) (tabs_below (unhide HT) (Sy.nil2 (unhide SA) (Sy.left (L := []) (M := [_]) (unhide SS))).fr.below)
            rw [vagg] at HC
            refine HC.mono ?_
            rintro e X5 ⟨rfl, hb5⟩
            replace SS := hide ((unhide SS).on hb5)
            clear hb5 HC
            by_cases hz : checkE h.l.length v = 0
            · have HD3 : Hid (∀ j u, j < t + 1 → (namedL p)[j]? = some u → knV h.l.length u = true) := hide (fun j u hj hu => by
                rcases Nat.lt_or_ge j t with h | h
                · exact unhide HD2 j u h hu
                · obtain rfl : j = t := by omega
                  obtain rfl : v = u := Option.some.inj (hv.symm.trans hu)
                  exact (by unfold knV; simp [hz]))
              clear HD2 hv
              go_wp2_with (first | go_skip | ((with_reducible show wpList _ _ _ _ _ _); first | (refine rd (by rfl) (ex_neE0 rfl rfl rfl hz) ?_; simp only [Act.put, n1, n2, n3])))
              replace SS := hide (Sy.left (L := []) (M := [_]) (unhide SS))
              go_wp2
              go_roundg ((namedL p).length - (t + 1))
              case measure => have := unhide HTT; omega
              case rel => exact ⟨t + 1, by go_num, by have := unhide HTT; omega, by omega, HD3, SS⟩
            · have HFA : Hid (l.all (knO h.l.length) = false) := hide (allO_false hp (allV_false hv (by unfold knV; simp [hk, hz])))
              clear hp hv HD2 HD HRV HV2
              go_wp2_with (first | go_skip | ((with_reducible show wpList _ _ _ _ _ _); first | (refine rd (by rfl) (ex_neE1 rfl rfl rfl hz) ?_; simp only [Act.put, n1, n2, n3])))
              go_ret
              exact ⟨by unfold knOE; rw [unhide HFA]; rfl, (Sy.nil2 (unhide SA) (Sy.left (L := []) (M := [_]) (unhide SS))).fr.below⟩
          · have HD3 : Hid (∀ j u, j < t + 1 → (namedL p)[j]? = some u → knV h.l.length u = true) := hide (fun j u hj hu => by
              rcases Nat.lt_or_ge j t with h | h
              · exact unhide HD2 j u h hu
              · obtain rfl : j = t := by omega
                obtain rfl : v = u := Option.some.inj (hv.symm.trans hu)
                exact (by unfold knV; simp [hk]))
            clear HD2 hv
            go_wp2_with (first | go_skip | ((with_reducible show wpList _ _ _ _ _ _); first | (refine rd (by rfl) (ex_lenG 63 24 Tryz.underlying63 rfl rfl) ?_; simp only [Act.put, n1, n2, n3]) | (refine rd (by rfl) (ex_indexG 63 5 t unVs idVs rfl rfl rfl (unhide HTT)) ?_; simp only [Act.put, n1, n2, n3]) | (refine rd (by rfl) (ex_loadR (vs := v.cs) 24 5 rwV szV rfl rfl (unhide HV2 _ (unhide SS).fr.below) rfl) ?_; simp only [Act.put, n1, n2, n3]) | (refine zA 24 (zeroV.cs) (by rfl) rfl SS ?_; clear SS; intro X8 B8 SS; simp only [Act.put, n1, n2, n3]) | (refine zS (v.cs) 0 24 (by rfl) rfl rfl rfl rfl (oneV v) szV SS rfl ?_; clear SS; intro X9 SS; simp only [Act.put, n1, n2, n3]) | (refine z1 3 Tryz.isAgg3 0 (by rfl) rfl rfl SS rfl rfl ?_; simp only [Act.put, n1, n2, n3]) | (refine zL (v.cs) 24 5 0 rwV szV (by rfl) rfl rfl SS rfl rfl rfl ?_; simp only [Act.put, n1, n2, n3]) | (refine rd (by rfl) (ex_eqNo rfl rfl rfl hk) ?_; simp only [Act.put, n1, n2, n3])))
            replace SS := hide (Sy.left (L := []) (M := [_]) (unhide SS))
            go_wp2
            go_roundg ((namedL p).length - (t + 1))
            case measure => have := unhide HTT; omega
            case rel => exact ⟨t + 1, by go_num, by have := unhide HTT; omega, by omega, HD3, SS⟩
        · obtain rfl : t = (namedL p).length := by omega
          have HG : Hid (knO h.l.length p = true) := hide (allV_true (fun j v hj hv => unhide HD2 j v hj hv))
          clear hlt2 htl HD2
          have HD4 : Hid (∀ j u, j < i + 1 → l[j]? = some u → knO h.l.length u = true) := hide (fun j u hj hu => by
            rcases Nat.lt_or_ge j i with h | h
            · exact unhide HD j u h hu
            · obtain rfl : j = i := by omega
              obtain rfl : p = u := Option.some.inj (hp.symm.trans hu)
              exact (unhide HG))
          clear HD HG
          replace SS := hide (Sy.nil2 (unhide SA) (unhide SS))
          clear SA HRV
          go_wp2
          go_roundg (l.length - (i + 1))
          case measure => have := unhide HLT; omega
          case rel => exact ⟨i + 1, by go_num, by have := unhide HLT; omega, by omega, HD4, SS⟩
    · obtain rfl : i = l.length := by omega
      have HTA : Hid (l.all (knO h.l.length) = true) := hide (allO_true (fun j v hj hv => unhide HD j v hj hv))
      clear hlt hil HD
      go_wp2_with (first | go_skip | ((with_reducible show wpList _ _ _ _ _ _); first | (refine rd (by rfl) (ex_lenG 41 40 Tryz.underlying41 rfl rfl) ?_; simp only [Act.put, n1, n2, n3])))
      go_ret
      exact ⟨by unfold knOE; rw [unhide HTA]; rfl, (unhide SS).fr.below⟩
set_option maxHeartbeats 2000000 in
set_option maxRecDepth 100000 in
theorem callable_O (h : HP) (A : Option Addr) (c : Nat) (l : List OP) (w : World) (H : h.Is w) (hT : Lib.Utf8Tabs 1 2 w) (hl : h.l.length ≤ 65536) (hR : ReadsO w A l) (hz : l.length ≤ 256) (hG : ∀ o ∈ l, o.e.g.k ≠ 7 ∧ o.e.s.k ≠ 7) : Calls Tryz.prog 27 #[.pointer (some ⟨h.b, 0, none⟩), .slice A l.length c] w fun e w' => e = .returned (.int .i64 0) ∧ Below w.heap.size w w' := by
  have SS := hide (Sy.nil w [])
  have HH := hide H
  have HT := hide hT
  have HR := hide hR
  have HZ := hide hz
  clear H hT hR hz
  go_enter Tryz.func27, Tryz.ntmps27
  go_wp2_with (first | go_skip | ((with_reducible show wpList _ _ _ _ _ _); first | (refine rd (by rfl) (ex_lenG 41 40 Tryz.underlying41 rfl rfl) ?_; simp only [Act.put, n1, n2, n3])))
  go_loopg [9] l.length (fun gm s9 wr => ∃ i : Nat, s9 = .int .i64 (i : Nat) ∧ i ≤ l.length ∧ l.length - i ≤ gm ∧ Hid (Sy w wr [] []))
  case atStart => exact ⟨0, rfl, by omega, by omega, SS⟩
  case round =>
    clear SS
    obtain ⟨i, rfl, hil, hgm, SS⟩ := hrel
    by_cases hlt : i < l.length
    · have dlt : decide ((i : Int) < (l.length : Int)) = true := decide_eq_true (by omega)
      have hw1 : IntKind.i64.wrap ((i : Int) + 1) = (i : Int) + 1 := by have := unhide HZ; rw [IntKind.wrap_i64]; omega
      obtain ⟨p, hp⟩ : ∃ p, l[i]? = some p := ⟨_, List.getElem?_eq_getElem hlt⟩
      obtain ⟨hOk, b, off, hA, hb, hrg⟩ := (unhide HR) i p hp
      subst hA
      have HA2 : Hid (∀ X, Below w.heap.size w X → X.rangeAt b (off + i * 32) p.cs) := hide (fun X hX => rangeAt_on hrg hb hX)
      have hdg : dumbB h p.e.g = false := by unfold dumbB; simp [(hG p (List.mem_of_getElem? hp)).1]
      have hds : dumbB h p.e.s = false := by unfold dumbB; simp [(hG p (List.mem_of_getElem? hp)).2]
      have HLT := hide hlt
      have hDG := fun X a b => dumb_h h p.e.g X a b hl
      have hDS := fun X a b => dumb_h h p.e.s X a b hl
      rw [hdg] at hDG
      rw [hds] at hDS
      simp only [vagg] at hDG hDS
      clear hil hlt hb hrg hOk hp hdg hds
      by_cases hc : p.c = 12
      · go_wp2_with (first | go_skip | ((with_reducible show wpList _ _ _ _ _ _); first | (refine rd (by rfl) (ex_lenG 41 40 Tryz.underlying41 rfl rfl) ?_; simp only [Act.put, n1, n2, n3]) | (refine rd (by rfl) (ex_indexG 41 32 i unPos idPos rfl rfl rfl (unhide HLT)) ?_; simp only [Act.put, n1, n2, n3]) | (refine rd (by rfl) (ex_loadR (vs := p.cs) 40 32 rwP_ szP_ rfl rfl (unhide HA2 _ (unhide SS).fr.below) rfl) ?_; simp only [Act.put, n1, n2, n3]) | (refine zA 40 (zerO.cs) (by rfl) rfl SS ?_; clear SS; intro X6 B6 SS; simp only [Act.put, n1, n2, n3]) | (refine zS (hp := (show 0 + 32 ≤ 32 by decide)) (p.cs) 0 40 (by rfl) rfl rfl rfl rfl (pcs_one _) szP_ SS rfl ?_; clear SS; intro Xs SS; simp only [Act.put, n1, n2, n3]) | (refine z1 3 Tryz.isAgg3 0 (by rfl) rfl rfl SS rfl rfl ?_; simp only [Act.put, n1, n2, n3]) | (refine zL (p.e.g.cs) 24 5 0 rwV szV (by rfl) rfl rfl SS rfl rfl rfl ?_; simp only [Act.put, n1, n2, n3]) | (refine zL (p.e.s.cs) 24 5 0 rwV szV (by rfl) rfl rfl SS rfl rfl rfl ?_; simp only [Act.put, n1, n2, n3]) | (refine rd (by rfl) (ex_eqYes rfl rfl rfl hc) ?_; simp only [Act.put, n1, n2, n3])))
        refine (hDG _ ((unhide HH).on (unhide SS).fr.below) (tabs_below (unhide HT) (unhide SS).fr.below)).mono ?_
        rintro e X5 ⟨rfl, hb5⟩
        replace SS := hide ((unhide SS).on hb5)
        clear hb5
        go_wp2_with (first | go_skip | ((with_reducible show wpList _ _ _ _ _ _); first | (refine rd (by rfl) (ex_lenG 41 40 Tryz.underlying41 rfl rfl) ?_; simp only [Act.put, n1, n2, n3]) | (refine rd (by rfl) (ex_indexG 41 32 i unPos idPos rfl rfl rfl (unhide HLT)) ?_; simp only [Act.put, n1, n2, n3]) | (refine rd (by rfl) (ex_loadR (vs := p.cs) 40 32 rwP_ szP_ rfl rfl (unhide HA2 _ (unhide SS).fr.below) rfl) ?_; simp only [Act.put, n1, n2, n3]) | (refine zA 40 (zerO.cs) (by rfl) rfl SS ?_; clear SS; intro X6 B6 SS; simp only [Act.put, n1, n2, n3]) | (refine zS (hp := (show 0 + 32 ≤ 32 by decide)) (p.cs) 0 40 (by rfl) rfl rfl rfl rfl (pcs_one _) szP_ SS rfl ?_; clear SS; intro Xs SS; simp only [Act.put, n1, n2, n3]) | (refine z1 3 Tryz.isAgg3 0 (by rfl) rfl rfl SS rfl rfl ?_; simp only [Act.put, n1, n2, n3]) | (refine zL (p.e.g.cs) 24 5 0 rwV szV (by rfl) rfl rfl SS rfl rfl rfl ?_; simp only [Act.put, n1, n2, n3]) | (refine zL (p.e.s.cs) 24 5 0 rwV szV (by rfl) rfl rfl SS rfl rfl rfl ?_; simp only [Act.put, n1, n2, n3]) | (refine rd (by rfl) (ex_eqYes rfl rfl rfl hc) ?_; simp only [Act.put, n1, n2, n3])))
        refine (hDS _ ((unhide HH).on (unhide SS).fr.below) (tabs_below (unhide HT) (unhide SS).fr.below)).mono ?_
        rintro e X5 ⟨rfl, hb5⟩
        replace SS := hide ((unhide SS).on hb5)
        clear hb5
        replace SS := hide (Sy.left (L := []) (M := [_]) (unhide SS))
        go_wp2
        go_roundg (l.length - (i + 1))
        case measure => have := unhide HLT; omega
        case rel => exact ⟨i + 1, by go_num, by have := unhide HLT; omega, by omega, SS⟩
      · go_wp2_with (first | go_skip | ((with_reducible show wpList _ _ _ _ _ _); first | (refine rd (by rfl) (ex_lenG 41 40 Tryz.underlying41 rfl rfl) ?_; simp only [Act.put, n1, n2, n3]) | (refine rd (by rfl) (ex_indexG 41 32 i unPos idPos rfl rfl rfl (unhide HLT)) ?_; simp only [Act.put, n1, n2, n3]) | (refine rd (by rfl) (ex_loadR (vs := p.cs) 40 32 rwP_ szP_ rfl rfl (unhide HA2 _ (unhide SS).fr.below) rfl) ?_; simp only [Act.put, n1, n2, n3]) | (refine zA 40 (zerO.cs) (by rfl) rfl SS ?_; clear SS; intro X6 B6 SS; simp only [Act.put, n1, n2, n3]) | (refine zS (hp := (show 0 + 32 ≤ 32 by decide)) (p.cs) 0 40 (by rfl) rfl rfl rfl rfl (pcs_one _) szP_ SS rfl ?_; clear SS; intro Xs SS; simp only [Act.put, n1, n2, n3]) | (refine z1 3 Tryz.isAgg3 0 (by rfl) rfl rfl SS rfl rfl ?_; simp only [Act.put, n1, n2, n3]) | (refine zL (p.e.g.cs) 24 5 0 rwV szV (by rfl) rfl rfl SS rfl rfl rfl ?_; simp only [Act.put, n1, n2, n3]) | (refine zL (p.e.s.cs) 24 5 0 rwV szV (by rfl) rfl rfl SS rfl rfl rfl ?_; simp only [Act.put, n1, n2, n3]) | (refine rd (by rfl) (ex_eqNo rfl rfl rfl hc) ?_; simp only [Act.put, n1, n2, n3])))
        replace SS := hide (Sy.left (L := []) (M := [_]) (unhide SS))
        go_wp2
        go_roundg (l.length - (i + 1))
        case measure => have := unhide HLT; omega
        case rel => exact ⟨i + 1, by go_num, by have := unhide HLT; omega, by omega, SS⟩
    · obtain rfl : i = l.length := by omega
      clear hlt hil
      go_wp2_with (first | go_skip | ((with_reducible show wpList _ _ _ _ _ _); first | (refine rd (by rfl) (ex_lenG 41 40 Tryz.underlying41 rfl rfl) ?_; simp only [Act.put, n1, n2, n3])))
      go_ret
      exact ⟨rfl, (unhide SS).fr.below⟩
