import Derived.Test.YthilnaeomkppaaaGreatFmtRl
set_option linter.all false
namespace Go.Proofs.YthilnaeomkppaaaGreatFmt
set_option maxHeartbeats 1000000
section
open Go Go.Proofs Go.Maps Go.RowKit FM
attribute [local go_sem] mm_DefineOwnProperty ta_caller
def rawD (n : Nat) : DD := ⟨numV (nf n), zeroV, zeroV, 2, 0, 0⟩
def lenD (n : Nat) : DD := ⟨numV (nf n), zeroV, zeroV, 2, 1, 1⟩
theorem num_good (x : Nat) : (numV x).good = true := by simp [VV.good, goodV, strV, numV, inG]
theorem num_th (x : Nat) : thV (numV x) = true := by simp [thV, numV]
theorem zero_th : thV zeroV = false := by simp [thV, zeroV]
theorem raw_shape (n : Nat) : shapeV (rawD n) = 2 := by simp [shapeV, rawD, num_th, zero_th]
theorem raw_kind (n : Nat) : kindV (rawD n) = 2 := by
  have hs : soundV (rawD n) = true := by simp [soundV, rawD, num_th, num_good, callV, zero_th, triV, zeroV]; simp [thV]
  unfold kindV
  rw [hs, raw_shape]
  rfl
theorem no_zero : noV zeroD = true := by simp [noV, shapeV, zeroD, zero_th]
theorem app_len (n : Nat) : appB true zeroD (rawD n) = true ∧ appD true zeroD (rawD n) = lenD n := by
  have hst : stV zeroD = true := by unfold stV; rw [no_zero]; rfl
  refine ⟨?_, ?_⟩
  · unfold appB
    rw [raw_kind, hst, no_zero]
    rfl
  · unfold appD
    rw [raw_kind, hst, no_zero]
    show fillV (rawD n) = lenD n
    unfold fillV
    rw [raw_shape]
    simp [orV, orT, rawD, lenD, num_th]
theorem ex_raw {o : Oper} {a : Act} {w : World} {x y : Operand} {n : Nat} (ho : o.op = .build 47 #[(0, x), (3, y)]) (hx : a.eval x = (numV (nf n)).agg) (hy : a.eval y = .int .i64 2) : (execOp a.eval o).run Tryz.prog w = .ok (.value (.agg (rawD n).cs.toArray)) w := by
  have e : (Instr.build 47 #[(0, (numV (nf n)).agg), (3, .int .i64 2)]).run Tryz.prog w = .ok (.agg (rawD n).cs.toArray) w := by kernel_rfl
  unfold execOp
  simp only [ho, List.map_toArray, List.map_cons, List.map_nil, hx, hy]
  simp [e]
theorem get_nil {T : TT} (h : pr T = []) (k : KK) : getD T k = zeroD := by
  rw [pr_get, h]
  rfl
theorem more_tab (h : HP) (gv : Value) (q : OB) (T' : TT) : (h.more gv q).tab h.l.length q T' = h.more gv { q with T := T' } := by
  unfold HP.tab HP.more
  simp
theorem more_last (h : HP) (gv : Value) (q : OB) : (h.more gv q).l[h.l.length]? = some q := by
  unfold HP.more
  simp
theorem zero_FD : FD zeroD := by unfold FD zeroD zeroV; decide
theorem raw_FD {n : Nat} (h : n ≤ 2000 ∨ n = 4294967295) : FD (rawD n) := ⟨nf_lt h, show 0 < 2 ^ 64 by decide, show 0 < 2 ^ 64 by decide⟩
set_option maxHeartbeats 2000000 in
set_option maxRecDepth 100000 in
theorem aadd_h (h : HP) (v : VV) (n : Nat) (w : World) (H : h.Is w) (hT : Tabs w) (hl : h.l.length ≤ 65535) (hc : orE [checkE h.l.length v, protoE v, roomE h] = 0) (hn : n ≤ 2000 ∨ n = 4294967295) : Calls Tryz.prog 17 #[.pointer (some ⟨h.b, 0, none⟩), v.agg, .int .u32 (n : Nat)] w fun e w' => ∃ (gv : Value) (q : OB), e = .returned (.tuple #[.int .i64 ((h.l.length : Int) + 1), .nilIface]) ∧ q.c = 3 ∧ q.p = v ∧ q.x = true ∧ pr q.T = [(lenK, lenD n)] ∧ q.T.last ≤ 1 ∧ h.To (h.more gv q) w w' := by
  have SS := hide H.start
  rw [vagg]
  go_enter Tryz.func17, Tryz.ntmps17
  go_wp2_with (first | go_skip | ((with_reducible show wpList _ _ _ _ _ _); first | (refine zB 34 (v.cs) (by rfl) rfl rfl rfl SS ?_; clear SS; intro Xa Ba SS; simp only [Act.put, n1, n2, n3]) | (refine zL (v.cs) 34 5 1 rwV szV (by rfl) rfl rfl SS rfl rfl rfl ?_; simp only [Act.put, n1, n2, n3]) | (refine rd (by rfl) (ex_bM rfl) ?_; simp only [Act.put, n1, n2, n3])))
  have HC := add_h h v _ ((unhide SS).hp 0 rfl) (hT.fr (unhide SS).fr H.low) (by omega)
  rw [vagg] at HC
  refine HC.mono ?_
  clear HC
  rintro _ Y (⟨rfl, hc1, T1⟩ | ⟨hc1, gv, q, rfl, a1, a2, a3, a4, a5, T1⟩)
  · exact absurd hc hc1
  · replace SS := hide ((unhide SS).heap 0 rfl T1)
    have hb1 : (h.more gv q).b = h.b := T1.hb
    clear T1
    go_wp2_with fail
    refine (lkey_any _).mono ?_
    rintro _ Y1 ⟨rfl, k1⟩
    replace SS := hide ((unhide SS).on k1)
    clear k1
    go_wp2_with (first | go_skip | ((with_reducible show wpList _ _ _ _ _ _); first | (refine rd (by rfl) (ex_nf rfl rfl) ?_; simp only [Act.put, n1, n2, n3])))
    refine (num_any (nf n) _).mono ?_
    rintro _ Y2 ⟨rfl, k2⟩
    replace SS := hide ((unhide SS).on k2)
    clear k2
    go_wp2_with (first | go_skip | ((with_reducible show wpList _ _ _ _ _ _); first | (refine rd (by rfl) (ex_raw rfl rfl rfl) ?_; simp only [Act.put, n1, n2, n3]) | (refine rd (by rfl) (ex_bM rfl) ?_; simp only [Act.put, n1, n2, n3])))
    have T0 : h.To (h.more gv q) w _ := HP.To.end H (unhide SS) hb1
    have hz : getD q.T lenK = zeroD := get_nil a4 _
    have HL := lay_h (h.more gv q) h.l.length q lenK (rawD n) _ ((unhide SS).hp 0 rfl) (by show (h.l ++ [q]).length ≤ 65536; simp; omega) (more_last h gv q) (T0.tabs H hT) lenK_ok lenK_good (by rw [hz]; exact zero_FD) (raw_FD hn) (by rw [a5]; decide)
    rw [dagg, hb1] at HL
    refine HL.mono ?_
    clear HL
    rintro _ Y3 ⟨h1, y, rfl, hP, T3⟩
    have HX := hide (T0.trans T3)
    clear T0 T3 SS
    unfold DefP at hP
    rw [hz, a3, (app_len n).1, (app_len n).2] at hP
    obtain ⟨rfl, hP⟩ := hP
    rcases hP with ⟨h0, _⟩ | ⟨_, T', rfl, hla, hpr⟩
    · cases h0
    · rw [more_tab] at HX
      have HR := hide (And.intro hla hpr)
      clear hla hpr
      go_wp2
      go_ret2
      exact ⟨gv, { q with T := T' }, rfl, a1, a2, a3, (by rw [(unhide HR).2, a4]; rfl), (by have := (unhide HR).1; rw [a5] at this; exact this), unhide HX⟩
def knE (n : Nat) (vs : List VV) : Int := orE (vs.map (checkE n))
theorem kn_get {n : Nat} {vs : List VV} {i : Nat} {v : VV} (h : ∀ j u, j < i → vs[j]? = some u → checkE n u = 0) (hv : vs[i]? = some v) (h0 : checkE n v ≠ 0) : knE n vs = checkE n v := by
  refine orE_get _ i _ (fun j u hj hu => ?_) ?_ h0
  · rw [List.getElem?_map] at hu
    obtain ⟨x, hx, rfl⟩ := Option.map_eq_some_iff.1 hu
    exact h j x hj hx
  · rw [List.getElem?_map, hv]
    rfl
theorem kn_none {n : Nat} {vs : List VV} (h : ∀ j u, j < vs.length → vs[j]? = some u → checkE n u = 0) : knE n vs = 0 := by
  refine orE_none _ (fun j u hj hu => ?_)
  rw [List.getElem?_map] at hu
  obtain ⟨x, hx, rfl⟩ := Option.map_eq_some_iff.1 hu
  exact h j x (by simpa using hj) hx
set_option maxHeartbeats 2000000 in
set_option maxRecDepth 100000 in
theorem aknown_h (h : HP) (B : Option Addr) (c : Nat) (vs : List VV) (w : World) (H : h.Is w) (hT : Lib.Utf8Tabs 4 5 w) (hR : ReadsV w B vs) (hz : vs.length ≤ 1000000) : Calls Tryz.prog 16 #[.pointer (some ⟨h.b, 0, none⟩), .slice B vs.length c] w fun e w' => e = .returned (.int .i64 (knE h.l.length vs)) ∧ Below w.heap.size w w' := by
  have SS := hide (Sy.nil w [])
  have HH := hide H
  clear H
  have HT := hide hT
  clear hT
  have HR := hide hR
  have HZ := hide hz
  clear hR hz
  go_enter Tryz.func16, Tryz.ntmps16
  go_wp2_with (first | go_skip | ((with_reducible show wpList _ _ _ _ _ _); first | (refine rd (by rfl) (ex_lenG 22 34 Tryz.underlying22 rfl rfl) ?_; simp only [Act.put, n1, n2, n3])))
  go_loopg [10] vs.length (fun gm s10 wr => ∃ i : Nat, s10 = .int .i64 (i : Nat) ∧ i ≤ vs.length ∧ vs.length - i ≤ gm ∧ Hid (∀ j v, j < i → vs[j]? = some v → checkE h.l.length v = 0) ∧ Hid (Sy w wr [] []))
  case atStart => exact ⟨0, rfl, by omega, by omega, hide (fun j v hj => by omega), SS⟩
  case round =>
    clear SS
    obtain ⟨i, rfl, hil, hgm, HD, SS⟩ := hrel
    by_cases hlt : i < vs.length
    · have dlt : decide ((i : Int) < (vs.length : Int)) = true := decide_eq_true (by omega)
      have hw1 : IntKind.i64.wrap ((i : Int) + 1) = (i : Int) + 1 := by have := unhide HZ; rw [IntKind.wrap_i64]; omega
      obtain ⟨v, hv⟩ : ∃ v, vs[i]? = some v := ⟨_, List.getElem?_eq_getElem hlt⟩
      obtain ⟨b, off, hA, hb, hrg⟩ := (unhide HR) i v hv
      subst hA
      have HA2 : Hid (∀ X, Below w.heap.size w X → X.rangeAt b (off + i * 5) v.cs) := hide (fun X hX => rangeAt_on hrg hb hX)
      have HLT := hide hlt
      clear hb hrg hlt hil
      by_cases h0 : checkE h.l.length v = 0
      · have HD2 : Hid (∀ j u, j < i + 1 → vs[j]? = some u → checkE h.l.length u = 0) := hide (fun j u hj hu => by
          rcases Nat.lt_or_ge j i with h | h
          · exact unhide HD j u h hu
          · obtain rfl : j = i := by omega
            obtain rfl : v = u := Option.some.inj (hv.symm.trans hu)
            exact h0)
        clear HD
        go_wp2_with (first | go_skip | ((with_reducible show wpList _ _ _ _ _ _); first | (refine rd (by rfl) (ex_lenG 22 34 Tryz.underlying22 rfl rfl) ?_; simp only [Act.put, n1, n2, n3]) | (refine rd (by rfl) (ex_indexG 22 5 i unVs idVs rfl rfl rfl (unhide HLT)) ?_; simp only [Act.put, n1, n2, n3]) | (refine rd (by rfl) (ex_loadR (vs := v.cs) 34 5 rwV szV rfl rfl (unhide HA2 _ (unhide SS).fr.below) rfl) ?_; simp only [Act.put, n1, n2, n3]) | (refine zA 34 (zeroV.cs) (by rfl) rfl SS ?_; clear SS; intro X3 B3 SS; simp only [Act.put, n1, n2, n3]) | (refine zS (v.cs) 0 34 (by rfl) rfl rfl rfl rfl (oneV v) szV SS rfl ?_; clear SS; intro X4 SS; simp only [Act.put, n1, n2, n3]) | (refine zL (v.cs) 34 5 0 rwV szV (by rfl) rfl rfl SS rfl rfl rfl ?_; simp only [Act.put, n1, n2, n3])))
        have HO := check_h h v _ ((unhide HH).on (unhide SS).fr.below) (tabs_below (unhide HT) (unhide SS).fr.below)
        rw [vagg] at HO
        refine HO.mono ?_
        rintro e X5 ⟨rfl, hb5⟩
        replace SS := hide ((unhide SS).on hb5)
        clear hb5 HO
        replace SS := hide (Sy.left (L := []) (M := [_]) (unhide SS))
        go_wp2_with (first | go_skip | ((with_reducible show wpList _ _ _ _ _ _); first | (refine rd (by rfl) (ex_neE0 rfl rfl rfl h0) ?_; simp only [Act.put, n1, n2, n3])))
        go_roundg (vs.length - (i + 1))
        case measure => have := unhide HLT; omega
        case rel => exact ⟨i + 1, by go_num, by have := unhide HLT; omega, by omega, HD2, SS⟩
      · have HE := hide (kn_get (unhide HD) hv h0)
        clear HD
        go_wp2_with (first | go_skip | ((with_reducible show wpList _ _ _ _ _ _); first | (refine rd (by rfl) (ex_lenG 22 34 Tryz.underlying22 rfl rfl) ?_; simp only [Act.put, n1, n2, n3]) | (refine rd (by rfl) (ex_indexG 22 5 i unVs idVs rfl rfl rfl (unhide HLT)) ?_; simp only [Act.put, n1, n2, n3]) | (refine rd (by rfl) (ex_loadR (vs := v.cs) 34 5 rwV szV rfl rfl (unhide HA2 _ (unhide SS).fr.below) rfl) ?_; simp only [Act.put, n1, n2, n3]) | (refine zA 34 (zeroV.cs) (by rfl) rfl SS ?_; clear SS; intro X3 B3 SS; simp only [Act.put, n1, n2, n3]) | (refine zS (v.cs) 0 34 (by rfl) rfl rfl rfl rfl (oneV v) szV SS rfl ?_; clear SS; intro X4 SS; simp only [Act.put, n1, n2, n3]) | (refine zL (v.cs) 34 5 0 rwV szV (by rfl) rfl rfl SS rfl rfl rfl ?_; simp only [Act.put, n1, n2, n3])))
        have HO := check_h h v _ ((unhide HH).on (unhide SS).fr.below) (tabs_below (unhide HT) (unhide SS).fr.below)
        rw [vagg] at HO
        refine HO.mono ?_
        rintro e X5 ⟨rfl, hb5⟩
        replace SS := hide ((unhide SS).on hb5)
        clear hb5 HO
        go_wp2_with (first | go_skip | ((with_reducible show wpList _ _ _ _ _ _); first | (refine rd (by rfl) (ex_neE1 rfl rfl rfl h0) ?_; simp only [Act.put, n1, n2, n3])))
        go_ret
        exact ⟨by rw [unhide HE]; rfl, (unhide SS).fr.below⟩
    · obtain rfl : i = vs.length := by omega
      have HE := hide (kn_none (unhide HD))
      clear hlt hil HD
      go_wp2_with (first | go_skip | ((with_reducible show wpList _ _ _ _ _ _); first | (refine rd (by rfl) (ex_lenG 22 34 Tryz.underlying22 rfl rfl) ?_; simp only [Act.put, n1, n2, n3])))
      go_ret
      exact ⟨by rw [unhide HE]; rfl, (unhide SS).fr.below⟩
def nullV : VV := ⟨2, false, 0, ByteArray.empty, 0⟩
theorem ReadsV.fr {w X : World} {E : List Nat} {B : Option Addr} {vs : List VV} (h : ReadsV w B vs) (k : Fr w X E) (hB : ∀ b off, B = some ⟨b, off, none⟩ → b ∉ E) : ReadsV X B vs := fun j v hv => by
  obtain ⟨b, off, hA, hb, hr⟩ := h j v hv
  refine ⟨b, off, hA, Nat.lt_of_lt_of_le hb k.size, fun t u hu => ?_⟩
  have e := hr t u hu
  have h1 := k.block b hb (hB b off hA)
  unfold World.cell? at e ⊢
  dsimp only at e ⊢
  rw [h1]
  exact e
theorem ReadsV.fr2 {w X : World} {E : List Nat} {B : Option Addr} {vs : List VV} (h : ReadsV w B vs) (k : Fr w X E) (hE : ∀ b ∈ E, w.heap.size ≤ b) : ReadsV X B vs := fun j v hv => by
  obtain ⟨b, off, hA, hb, hr⟩ := h j v hv
  refine ⟨b, off, hA, Nat.lt_of_lt_of_le hb k.size, fun t u hu => ?_⟩
  have e := hr t u hu
  have h1 := k.block b hb (fun hm => by have := hE b hm; omega)
  unfold World.cell? at e ⊢
  dsimp only at e ⊢
  rw [h1]
  exact e
theorem null_good : nullV.good = true := by simp [VV.good, goodV, strV, nullV, inG]
theorem null_check (n : Nat) : checkE n nullV = 0 := by
  unfold checkE
  rw [null_good]
  simp [knownE, knownV, nullV]
theorem or_kn (n : Nat) (vs : List VV) : orE [checkE n nullV, 0, knE n vs] = knE n vs := by
  rw [null_check]
  simp [orE]
  exact fun h => h.symm
set_option maxHeartbeats 2000000 in
set_option maxRecDepth 100000 in
theorem of_bad (h : HP) (B : Option Addr) (c : Nat) (vs : List VV) (w : World) (H : h.Is w) (hT : Tabs w) (HRV : ∀ {X : World}, Fr w X h.blocks → ReadsV X B vs) (hz : vs.length ≤ 1000000) (hc : knE h.l.length vs ≠ 0) : Calls Tryz.prog 6 #[.pointer (some ⟨h.b, 0, none⟩), nullV.agg, .slice B vs.length c] w fun e w' => e = .returned (.tuple #[.int .i64 0, ePair (knE h.l.length vs)]) ∧ h.To h w w' := by
  have SS := hide H.start
  have hR := HRV (Fr.refl w h.blocks)
  rw [show nullV.agg = .agg nullV.cs.toArray from rfl]
  go_enter Tryz.func6, Tryz.ntmps6
  go_wp2_with (first | go_skip | ((with_reducible show wpList _ _ _ _ _ _); first | (refine zB 34 (nullV.cs) (by rfl) rfl rfl rfl SS ?_; clear SS; intro Xa Ba SS; simp only [Act.put, n1, n2, n3])))
  have hS1 : Sy w _ h.blocks [hpO h, boxO Ba nullV.cs] := (unhide SS).drew
  clear SS
  refine wp_region_held_drew (P := Tryz.prog) (S := fun X => Sy w X h.blocks _) (by kernel_rfl) (hS1) (fun hS0 => ?_)
  refine gp 0 (some 13) (.pointer (some ⟨h.b, 0, none⟩)) rfl rfl (hS1) ?_
  simp only [Act.put, n1, n2, n3]
  refine gq 1 (some 14) (.agg (nullV.cs).toArray) rfl rfl (fun X hX => ex_loadN (vs := nullV.cs) 34 5 rwV szV rfl rfl (hX.hold 1 rfl) rfl rfl) (hS1) ?_
  simp only [Act.put, n1, n2, n3]
  refine gq 3 (some 16) (.agg (nullV.cs).toArray) rfl rfl (fun X hX => ex_loadN (vs := nullV.cs) 34 5 rwV szV rfl rfl (hX.hold 1 rfl) rfl rfl) (hS1) ?_
  simp only [Act.put, n1, n2, n3]
  refine gp 5 (some 18) (.pointer (some ⟨h.b, 0, none⟩)) rfl rfl (hS1) ?_
  simp only [Act.put, n1, n2, n3]
  refine gp 6 (some 19) (.slice B vs.length c) rfl rfl (hS1) ?_
  simp only [Act.put, n1, n2, n3]
  refine gr (rs := [2]) (gcB 2 (some 15) rfl rfl hS1 (check_h h nullV _ (hS1.hp 0 rfl) (hT.fr hS1.fr H.low).1) id ?_ gn)
  intro Yt1 hqt1
  simp only [Act.put, n1, n2, n3]
  refine gr (rs := [4]) (gcB 4 (some 17) rfl rfl hqt1 (aproto_null _) id ?_ gn)
  intro Yt2 hqt2
  simp only [Act.put, n1, n2, n3]
  refine gr (rs := [7]) (gcB 7 (some 20) rfl rfl hqt2 (aknown_h h B c vs _ (hqt2.hp 0 rfl) (hT.fr hqt2.fr H.low).1 (HRV hqt2.fr) hz) id ?_ gn)
  intro Yt3 hqt3
  simp only [Act.put, n1, n2, n3]
  refine gr (rs := [8]) (gbsS 8 (some 21) rfl rfl (by kernel_rfl) (ex_bsE3 rfl rfl rfl rfl) (Nat.succ_pos _) hqt3 (fun _ hZ => Sy.left (L := [_, _]) (M := [_]) hZ) ?_ gn)
  intro Yt4 Bt4 hEt4 hqt4
  clear hEt4
  simp only [Act.put, n1, n2, n3]
  refine gr (rs := [9]) (gcW 9 (some 22) rfl rfl (Sy.left (L := [_, _]) (M := [_]) hqt4) (or_any Bt4 3 [checkE h.l.length nullV, 0, knE h.l.length vs] _ (hqt4.hold 2 rfl) (by simp)) ?_ gn)
  refine gp 10 (some 8) (.int .i64 (orE [checkE h.l.length nullV, 0, knE h.l.length vs])) rfl rfl (Sy.left (L := [_, _]) (M := [_]) hqt4) ?_
  simp only [Act.put, n1, n2, n3]
  refine wpAnyH_done (by kernel_rfl) ?_ _
  try simp only [Act.put, n1, n2, n3]
  have SS := hide (Sy.left (L := [hpO h, boxO Ba nullV.cs]) (M := [boxO Bt4 (ints [checkE h.l.length nullV, 0, knE h.l.length vs])]) hqt4)
  rw [or_kn]
  go_wp2_with (first | go_skip | ((with_reducible show wpList _ _ _ _ _ _); first | (refine rd (by rfl) (ex_neE1 rfl rfl rfl hc) ?_; simp only [Act.put, n1, n2, n3])))
  go_ret2
  exact ⟨rfl, HP.To.end H (unhide SS) rfl⟩
end
section
open Go Go.Proofs Go.Maps Go.RowKit FM
def idxK (i : Nat) : KK := ⟨dStr i, 0⟩
def dval (l : List UInt8) : Nat := l.foldl (fun a c => 10 * a + (c.toNat - 48)) 0
theorem dval_dec (u : Nat) : dval (Lib.decDigits u) = u := by
  induction u using Nat.strongRecOn with
  | _ u ih =>
    by_cases h : u < 10
    · rw [Lib.decDigits, dif_pos h]
      have : (UInt8.ofNat (48 + u)).toNat = 48 + u := by simp; omega
      simp only [dval, List.foldl_cons, List.foldl_nil, this]
      omega
    · rw [Lib.decDigits, dif_neg h]
      have h1 := ih (u / 10) (by omega)
      have : (UInt8.ofNat (48 + u % 10)).toNat = 48 + u % 10 := by simp; omega
      unfold dval at h1 ⊢
      rw [List.foldl_append, h1]
      simp only [List.foldl_cons, List.foldl_nil, this]
      omega
theorem idx_inj {i j : Nat} (h : idxK i = idxK j) : i = j := by
  have h1 : dStr i = dStr j := congrArg KK.s h
  have h2 : (Lib.decDigits i).toArray = (Lib.decDigits j).toArray := congrArg ByteArray.data h1
  have h3 : Lib.decDigits i = Lib.decDigits j := congrArg Array.toList h2
  rw [← dval_dec i, h3, dval_dec]
theorem dec_head (u : Nat) : ∃ c l, Lib.decDigits u = c :: l ∧ c.toNat ≤ 57 := by
  induction u using Nat.strongRecOn with
  | _ u ih =>
    by_cases h : u < 10
    · refine ⟨_, [], by rw [Lib.decDigits, dif_pos h], ?_⟩
      simp; omega
    · obtain ⟨c, l, h1, h2⟩ := ih (u / 10) (by omega)
      refine ⟨c, l ++ [UInt8.ofNat (48 + u % 10)], ?_, h2⟩
      rw [Lib.decDigits, dif_neg h, h1]
      rfl
theorem idx_len (i : Nat) : idxK i ≠ lenK := fun h => by
  have h1 : dStr i = lenS := congrArg KK.s h
  have h2 : (Lib.decDigits i).toArray = #[108, 101, 110, 103, 116, 104] := congrArg ByteArray.data h1
  have h3 : Lib.decDigits i = [108, 101, 110, 103, 116, 104] := congrArg Array.toList h2
  obtain ⟨c, l, h4, h5⟩ := dec_head i
  rw [h4] at h3
  have h6 : c = 108 := (List.cons.inj h3).1
  rw [h6] at h5
  exact absurd h5 (by decide)
def opnD (v : VV) : DD := ⟨v, zeroV, zeroV, 2, 2, 2⟩
/-- The rows of an array's table: its length, and its elements. -/
def arrL (n : Nat) (vs : List VV) : List (KK × DD) := (lenK, lenD n) :: vs.mapIdx (fun i v => (idxK i, opnD v))
theorem arr_mem {n : Nat} {vs : List VV} {e : KK × DD} (h : e ∈ arrL n vs) : e = (lenK, lenD n) ∨ ∃ i v, vs[i]? = some v ∧ e = (idxK i, opnD v) := by
  rcases List.mem_cons.1 h with h | h
  · exact .inl h
  · obtain ⟨i, hi, he⟩ := List.mem_mapIdx.1 h
    exact .inr ⟨i, vs[i], List.getElem?_eq_getElem hi, he.symm⟩
theorem arr_none {n : Nat} {vs : List VV} {i : Nat} (h : vs.length ≤ i) : hasP (arrL n vs) (idxK i) = false := by
  unfold hasP
  rw [List.any_eq_false]
  intro e he
  rcases arr_mem he with rfl | ⟨j, v, hj, rfl⟩
  · simp
    exact fun h => idx_len i h.symm
  · simp
    intro hh
    have := idx_inj hh
    have := (List.getElem?_eq_some_iff.1 hj).1
    omega
theorem arr_put (n : Nat) (vs : List VV) (v : VV) : putP (arrL n vs) (idxK vs.length) (opnD v) = arrL n (vs ++ [v]) := by
  unfold putP
  rw [arr_none (Nat.le_refl _)]
  unfold arrL
  rw [List.mapIdx_append]
  simp
theorem lk_of {l : List (KK × DD)} {k : KK} (h : hasP l k = false) : lkP l k = none := by
  have := lk_has l k
  rw [h] at this
  exact Option.isNone_iff_eq_none.1 (by cases hx : lkP l k with | none => rfl | some _ => rw [hx] at this; cases this)
theorem arr_get_none {T : TT} {n : Nat} {vs : List VV} {i : Nat} (hT : pr T = arrL n vs) (h : vs.length ≤ i) : getD T (idxK i) = zeroD := by
  rw [pr_get, hT, lk_of (arr_none h)]
  rfl
theorem arr_get_len {T : TT} {n : Nat} {vs : List VV} (hT : pr T = arrL n vs) : getD T lenK = lenD n := by
  rw [pr_get, hT]
  unfold arrL lkP
  simp
theorem dec_ascii (c : Nat) (t : List Nat) (h : c < 128) : M.dec (c :: t) = (c, 1) := by
  have hg : M.goD (c :: t) = (c, 1) := by
    unfold M.goD
    simp [h]
  unfold M.dec
  rw [hg]
  have : ¬ (c = 65533 ∧ 1 ≤ 1) := by omega
  simp [this]
  omega
theorem valid_ascii (l : List Nat) (h : ∀ c ∈ l, c < 128) : M.valid false l = true := by
  induction l with
  | nil => rfl
  | cons c t ih =>
    have hc := h c (List.mem_cons_self ..)
    have hi : M.isHi c = false := by unfold M.isHi; simp; omega
    rw [M.valid_step false _ (by simp), dec_ascii c t hc]
    simp [hi]
    exact ih (fun x hx => h x (List.mem_cons_of_mem _ hx))
theorem dec_mem (u : Nat) : ∀ c ∈ Lib.decDigits u, c.toNat < 128 := by
  induction u using Nat.strongRecOn with
  | _ u ih =>
    intro c hc
    by_cases h : u < 10
    · rw [Lib.decDigits, dif_pos h] at hc
      rw [List.mem_singleton.1 hc]
      simp; omega
    · rw [Lib.decDigits, dif_neg h] at hc
      rcases List.mem_append.1 hc with h1 | h1
      · exact ih (u / 10) (by omega) c h1
      · rw [List.mem_singleton.1 h1]
        simp; omega
theorem dec_len (u : Nat) : (Lib.decDigits u).length ≤ u + 1 := by
  induction u using Nat.strongRecOn with
  | _ u ih =>
    by_cases h : u < 10
    · rw [Lib.decDigits, dif_pos h]
      simp
    · rw [Lib.decDigits, dif_neg h, List.length_append]
      have := ih (u / 10) (by omega)
      simp
      omega
theorem idx_good {u : Nat} (h : u ≤ 1000000) : goodK (idxK u) = true := by
  rw [goodK_eq]
  have h1 : (dStr u).size ≤ 1048576 := by
    have := dec_len u
    show (Lib.decDigits u).toArray.size ≤ _
    simp
    omega
  have h2 : vS (dStr u) = true := by
    unfold vS
    refine valid_ascii _ (fun c hc => ?_)
    unfold nums at hc
    obtain ⟨b, hb, rfl⟩ := List.mem_map.1 hc
    exact dec_mem u b hb
  simp [idxK, h1, h2]
theorem idx_ok {u : Nat} (h : u ≤ 1000000) : OkK (idxK u) := good_ok (idx_good h)
theorem good_th {v : VV} (h : v.good = true) : thV v = true := by
  cases ht : thV v with
  | true => rfl
  | false =>
    unfold thV at ht
    simp at ht
    obtain ⟨⟨⟨⟨h1, h2⟩, h3⟩, h4⟩, h5⟩ := ht
    unfold VV.good goodV inG at h
    simp [h1] at h
theorem opn_shape {v : VV} (h : v.good = true) : shapeV (opnD v) = 2 := by simp [shapeV, opnD, good_th h, zero_th]
theorem opn_kind {v : VV} (h : v.good = true) : kindV (opnD v) = 2 := by
  have hs : soundV (opnD v) = true := by simp [soundV, opnD, good_th h, h, callV, zero_th, triV, zeroV]; simp [thV]
  unfold kindV
  rw [hs, opn_shape h]
  rfl
theorem app_opn {v : VV} (h : v.good = true) : appB true zeroD (opnD v) = true ∧ appD true zeroD (opnD v) = opnD v := by
  have hst : stV zeroD = true := by unfold stV; rw [no_zero]; rfl
  refine ⟨?_, ?_⟩
  · unfold appB
    rw [opn_kind h, hst, no_zero]
    rfl
  · unfold appD
    rw [opn_kind h, hst, no_zero]
    show fillV (opnD v) = opnD v
    unfold fillV
    rw [opn_shape h]
    simp [orV, orT, opnD, good_th h]
