import Derived.Test.YtmgflhhealdfoaaGreatDoorRu
set_option linter.all false
namespace Go.Proofs.YtmgflhhealdfoaaGreatDoor
set_option maxHeartbeats 1000000
section
open Go Go.Proofs Go.Maps Go.RowKit FM
attribute [local go_sem] mm_GetOwnProperty mm_DefineOwnProperty mm_Get ta_caller ta_builder
/-- What a body leaves as it was; n operations were paid. -/
structure IV (h h1 : HP) (n : Nat) (P : List (KK × DD)) : Prop where
  b : h1.b = h.b
  K : h1.Ok
  f : h1.fuel = h.fuel - (n : Int)
  e : h1.ent = h.ent
  d : h1.depth = h.depth
  len : h1.l.length = h.l.length
  bod : h1.e = h.e
  q : ∃ q, h1.l[0]? = some q ∧ q.x = true ∧ q.T.last ≤ n ∧ pr q.T = P
theorem IV.less {h h1 : HP} {n : Nat} {P : List (KK × DD)} (I : IV h h1 n P) (hf : h1.fuel ≠ 0) : IV h h1.less (n + 1) P :=
  ⟨I.b, lessOk I.K hf, by show h1.fuel - 1 = _; rw [I.f]; omega, I.e, I.d, I.len, I.bod, I.q.imp fun q hq => ⟨hq.1, hq.2.1, Nat.le_succ_of_le hq.2.2.1, hq.2.2.2⟩⟩
theorem IV.tab {h h1 : HP} {n : Nat} {P P' : List (KK × DD)} (I : IV h h1 n P) (hf : h1.fuel ≠ 0) {q : OB} {T : TT} (hj : h1.l[0]? = some q) (hx : q.x = true) (hl : q.T.last ≤ n) (h1l : T.last ≤ q.T.last + 1) (hp : pr T = P') : IV h (h1.tab 0 q T).less (n + 1) P' := by
  refine ⟨I.b, lessOk (tabOk I.K 0 q T) hf, by show h1.fuel - 1 = _; rw [I.f]; omega, I.e, I.d, ?_, I.bod, { q with T := T }, ?_, hx, ?_, hp⟩
  · show (h1.l.set 0 _).length = _
    rw [List.length_set]
    exact I.len
  · show (h1.l.set 0 _)[0]? = _
    rw [List.getElem?_set]
    have := (List.getElem?_eq_some_iff.1 hj).1
    simp [this]
  · show T.last ≤ n + 1
    omega
theorem IV.body {h h1 : HP} {n : Nat} {P : List (KK × DD)} (I : IV h h1 n P) {g c : Nat} {l : List OP} (hb : h.body g c l) : h1.body g c l := hb.imp fun base e => I.bod.trans e
theorem IV.ne {h h1 : HP} {n : Nat} {P : List (KK × DD)} (I : IV h h1 n P) (hf : (n : Int) < h.fuel) : h1.fuel ≠ 0 := by rw [I.f]; omega
/-- What a definition with a value alone makes of a property that is not there, or is the same. -/
theorem dv_again {v : VV} (hc : chkV (dv v) = 0) (ht : thV v = true) : appB true (dn v) (dv v) = true ∧ appD true (dn v) (dv v) = dn v := by
  have hk : ¬ kindV (dv v) = 0 := by
    intro e
    unfold chkV at hc
    rw [e] at hc
    exact absurd hc (by decide)
  have z : thV zeroV = false := by kernel_rfl
  have zk : zeroV.k = 0 := rfl
  have T : Took (dn v) (dv v) := by
    refine ⟨?_, ?_, fun _ => rfl, fun h => ?_, fun h => ?_, fun h => absurd h (by show ¬ ((0 : Int) != 0) = true; decide), fun h => absurd h (by show ¬ ((0 : Int) != 0) = true; decide), fun h => absurd h (by show ¬ ((0 : Int) != 0) = true; decide)⟩
    · have hw := (dv_chk v).1 hc
      rw [ht] at hw
      have hg : v.good = true := by simpa using hw
      have zc : callV zeroV = true := by kernel_rfl
      have hkn : kindV (dn v) = 2 := by
        unfold kindV soundV shapeV dn triV
        simp [z, ht, hg, zc]
      unfold wholeV
      rw [hkn]
      unfold dn
      simp [ht]
    · unfold turnV
      have : shapeV (dn v) = 2 := by unfold shapeV dn; rw [z, ht]; rfl
      rw [this, dv_shape, ht]
      rfl
    · exact absurd h (by show ¬ thV zeroV = true; rw [z]; decide)
    · exact absurd h (by show ¬ thV zeroV = true; rw [z]; decide)
  exact ⟨(took_again true hk T).2.1, (took_again true hk T).1⟩
/-! The body of CallCatch. -/
def opC (t : Int) (v : VV) : OP := ⟨1, t, 0, 0, 0, zeroK, v, zeroD, false, false⟩
def opD (t b : Int) (k : KK) : OP := ⟨12, t, 0, b, 0, k, zeroV, zeroD, true, false⟩
def opW (ct : Bool) : OP := ⟨8, 3, 1, 0, 0, zeroK, zeroV, zeroD, false, ct⟩
def bodC (v : VV) (ct : Bool) (k d : KK) : List OP := [opT, opC 1 v, opD 2 1 k, opW ct, opD 4 3 d, opR 4]
def rC1 : List VV := (rgs 16).set 0 (refV 1)
def rC2 (v : VV) : List VV := rC1.set 1 v
def rC3 (v : VV) : List VV := (rC2 v).set 2 (boolV true)
def rC4 (v : VV) : List VV := (rC3 v).set 3 v
def rC5 (v : VV) : List VV := (rC4 v).set 4 (boolV true)
def PC2 (v : VV) (k d : KK) : List (KK × DD) := putP [(k, dn v)] d (dn v)
def stC (h : HP) (v : VV) (ct : Bool) (k d : KK) (j : Nat) (h1 : HP) (rs : List VV) : Prop :=
  (j = 0 ∧ IV h h1 0 [] ∧ rgs 16 = rs) ∨ (j = 1 ∧ IV h h1 1 [] ∧ rC1 = rs) ∨ (j = 2 ∧ IV h h1 2 [] ∧ rC2 v = rs) ∨ (j = 3 ∧ IV h h1 4 [(k, dn v)] ∧ rC3 v = rs) ∨ (ct = true ∧ j = 4 ∧ IV h h1 5 [(k, dn v)] ∧ rC4 v = rs) ∨ (ct = true ∧ j = 5 ∧ IV h h1 7 (PC2 v k d) ∧ rC5 v = rs)
def finC (h : HP) (v : VV) (ct : Bool) (k d : KK) (h2 : HP) (V : VV) (er : Value) (x : Ob) : Prop :=
  (ct = true ∧ IV h h2 8 (PC2 v k d) ∧ V = boolV true ∧ er = .nilIface ∧ x = noO) ∨ (ct = false ∧ IV h h2 5 [(k, dn v)] ∧ V = zeroV ∧ ∃ Bt, er = thrV Bt ∧ x = boxO Bt (tcs 1 v))
theorem knRef {n : Nat} (h : 1 ≤ n) : knownE n [refV 1] = 0 := by
  unfold knownE knownV refV hasH
  simp
  omega
theorem fd_zero : FD zeroD := ⟨by show (0 : Nat) < _; decide, by show (0 : Nat) < _; decide, by show (0 : Nat) < _; decide⟩
theorem fd_dn {v : VV} (h : v.x < 2 ^ 64) : FD (dn v) := ⟨h, by show (0 : Nat) < _; decide, by show (0 : Nat) < _; decide⟩
theorem get_one {T : TT} {k d : KK} {x : DD} (h : pr T = [(k, x)]) : getD T d = if k = d then x else zeroD := by
  rw [pr_get, h]
  unfold lkP
  by_cases e : k = d
  · simp [e]
  · simp [e]
/-- A property with a value is defined, where there was none or the same. -/
theorem c_def (h h1 : HP) (n : Nat) (P : List (KK × DD)) (B : Nat) (sf : Int) (ar : Value) (tg : VV) (rs : List VV) (k : KK) (v : VV) (i nb : Nat) (X : World) (I : IV h h1 n P) (hP : P = [] ∨ ∃ k0, P = [(k0, dn v)]) (hx64 : v.x < 2 ^ 64) (hk : goodK k = true) (hg : v.good = true) (ht : thV v = true) (hkn : knownE h.l.length [v] = 0) (hn5 : n ≤ 100) (hf : (n : Int) < h.fuel) (hd : h.ent ≠ h.depth) (HX : h1.Is X) (hF : Holds X B (frC h.b sf (refV 1) ar tg rs)) (hout : B ∉ h1.blocks) (hB : 6 ≤ B) (hT : Tabs X) (hl16 : rs.length = 16) (hi16 : i < 16) (hn : rs[nb]? = some v) (hn16 : nb < 16) (hi : rs[0]? = some (refV 1)) : Calls Tryz.prog 170 #[.pointer (some ⟨B, 0, none⟩), OP.agg ⟨12, (i : Nat), ((0 : Nat) : Int), (nb : Nat), 0, k, zeroV, zeroD, true, false⟩] X fun e w' => ∃ h2, e = .returned .nilIface ∧ IV h h2 (n + 1) (putP P k (dn v)) ∧ FT h1 h2 B (frC h.b sf (refV 1) ar tg (rs.set i (boolV true))) X w' := by
  obtain ⟨q, hj, hqx, hql, hqp⟩ := I.q
  have e : h1.b = h.b := I.b
  have hE : ∀ b ∈ B :: h1.blocks, 6 ≤ b := fun b hb => (List.mem_cons.1 hb).elim (fun e => e ▸ hB) (HX.low b)
  have hc : chkV (dv v) = 0 := dv_good hg
  have hor : orV v undV = v := orV_th ht
  have hz : defC h1 0 k (dv v) = 0 := dv_def hj hk hc (by rw [I.len]; exact hkn)
  have happ : FD (getD q.T k) ∧ appB q.x (getD q.T k) (dv v) = true ∧ appD q.x (getD q.T k) (dv v) = dn v := by
    rw [hqx]
    have hnew := dv_new v hc
    rw [hor] at hnew
    rcases hP with rfl | ⟨k0, rfl⟩
    · rw [get_new (by rw [hqp]; rfl)]
      exact ⟨fd_zero, hnew⟩
    · rw [get_one hqp]
      by_cases e1 : k0 = k
      · rw [if_pos e1]
        exact ⟨fd_dn hx64, dv_again hc ht⟩
      · rw [if_neg e1]
        exact ⟨fd_zero, hnew⟩
  rw [← e] at hF
  refine (s_def h1 B sf (refV 1) ar tg rs 0 k zeroV false 0 nb 0 v q X HX hF hout hl16 i hi16 hT hE I.K hj hk happ.1 (dv_fd hx64) (by omega) hz happ.2.1 (I.ne hf) (by rw [I.e, I.d]; exact hd) hn hn16 hi (by decide)).mono ?_
  rintro _ Y ⟨rfl, T', h5, h6, T⟩
  rw [happ.2.2, hqp] at h6
  rw [e] at T
  exact ⟨_, rfl, I.tab (I.ne hf) hj hqx hql h5 h6, T⟩
theorem runsC (h : HP) (B g c : Nat) (sf : Int) (ar : Value) (tg : VV) (v : VV) (ct : Bool) (k d : KK) (w : World) (hB : 6 ≤ B) (hlow : ∀ b ∈ h.blocks, 6 ≤ b) (hT : Tabs w) (hb : h.body g c (bodC v ct k d)) (hf : 20 ≤ h.fuel) (hd : h.ent ≠ h.depth) (hx64 : v.x < 2 ^ 64) (hk : goodK k = true) (hkd : goodK d = true) (hg : v.good = true) (ht : thV v = true) (hkn : knownE h.l.length [v] = 0) : Runs h B g c sf (refV 1) ar tg (bodC v ct k d) w (stC h v ct k d) (finC h v ct k d) := by
  have hE : ∀ b ∈ B :: h.blocks, 6 ≤ b := fun b hb => (List.mem_cons.1 hb).elim (fun e => e ▸ hB) (hlow b)
  refine ⟨?_, ?_, ?_, ?_, ?_⟩
  · rintro j h1 rs (⟨rfl, I, rfl⟩ | ⟨rfl, I, rfl⟩ | ⟨rfl, I, rfl⟩ | ⟨rfl, I, rfl⟩ | ⟨-, rfl, I, rfl⟩ | ⟨-, rfl, I, rfl⟩)
    all_goals exact ⟨by show _ < 6; decide, I.ne (by omega), I.K, I.body hb, I.b⟩
  · rintro j o h1 rs X ho hc (⟨rfl, I, rfl⟩ | ⟨rfl, I, rfl⟩ | ⟨rfl, I, rfl⟩ | ⟨rfl, I, rfl⟩ | ⟨rfl, rfl, I, rfl⟩ | ⟨rfl, rfl, I, rfl⟩) HX hF hout hfr
    · obtain rfl : opT = o := Option.some.inj ho
      have e : h1.less.b = h.b := I.b
      rw [← e] at hF
      refine (s_this h1.less B sf (refV 1) ar tg (rgs 16) 0 0 0 zeroK zeroV zeroD false false X HX hF hout rfl 0 (by decide)).mono ?_
      rintro _ Y ⟨rfl, T⟩
      rw [e] at T
      exact .inl ⟨h1.less, rC1, rfl, .inr (.inl ⟨rfl, I.less (I.ne (by omega)), rfl⟩), T⟩
    · obtain rfl : opC 1 v = o := Option.some.inj ho
      have e : h1.less.b = h.b := I.b
      rw [← e] at hF
      refine (s_const h1.less B sf (refV 1) ar tg rC1 0 0 0 zeroK v zeroD false false X HX hF hout rfl 1 (by decide)).mono ?_
      rintro _ Y ⟨rfl, T⟩
      rw [e] at T
      exact .inl ⟨h1.less, rC2 v, rfl, .inr (.inr (.inl ⟨rfl, I.less (I.ne (by omega)), rfl⟩)), T⟩
    · obtain rfl : opD 2 1 k = o := Option.some.inj ho
      refine (c_def h h1.less 3 [] B sf ar tg (rC2 v) k v 2 1 X (I.less (I.ne (by omega))) (.inl rfl) hx64 hk hg ht hkn (by omega) (by omega) hd HX hF hout hB (hT.fr hfr hE) rfl (by decide) rfl (by decide) rfl).mono ?_
      rintro _ Y ⟨h2, rfl, I2, T⟩
      exact .inl ⟨h2, rC3 v, rfl, .inr (.inr (.inr (.inl ⟨rfl, I2, rfl⟩))), T⟩
    · obtain rfl : opW ct = o := Option.some.inj ho
      have e : h1.less.b = h.b := I.b
      rw [← e] at hF
      cases ct
      · refine (s_thr h1.less B sf (refV 1) ar tg (rC3 v) 0 0 zeroK zeroV zeroD false 1 v X HX hF hout rfl 3 (by decide) rfl (by decide)).mono ?_
        rintro _ Y ⟨Bt, rfl, hH, hlo, T⟩
        rw [e] at T
        exact .inr ⟨Bt, v, rfl, .inr ⟨rfl, I.less (I.ne (by omega)), rfl, Bt, rfl, rfl⟩, hH, hlo, T⟩
      · have hE1 : ∀ b ∈ B :: h1.less.blocks, 6 ≤ b := fun b hb => (List.mem_cons.1 hb).elim (fun e => e ▸ hB) (HX.low b)
        refine (s_cat h1.less B sf (refV 1) ar tg (rC3 v) 0 0 zeroK zeroV zeroD false 1 v X HX hF hout rfl 3 (by decide) (hT.fr hfr hE) hE1 hg rfl (by decide)).mono ?_
        rintro _ Y ⟨rfl, T⟩
        rw [e] at T
        exact .inl ⟨h1.less, rC4 v, rfl, .inr (.inr (.inr (.inr (.inl ⟨rfl, rfl, I.less (I.ne (by omega)), rfl⟩)))), T⟩
    · obtain rfl : opD 4 3 d = o := Option.some.inj ho
      refine (c_def h h1.less 6 [(k, dn v)] B sf ar tg (rC4 v) d v 4 3 X (I.less (I.ne (by omega))) (.inr ⟨k, rfl⟩) hx64 hkd hg ht hkn (by omega) (by omega) hd HX hF hout hB (hT.fr hfr hE) rfl (by decide) rfl (by decide) rfl).mono ?_
      rintro _ Y ⟨h2, rfl, I2, T⟩
      exact .inl ⟨h2, rC5 v, rfl, .inr (.inr (.inr (.inr (.inr ⟨rfl, rfl, I2, rfl⟩)))), T⟩
    · obtain rfl : opR 4 = o := Option.some.inj ho
      exact absurd rfl hc
  · rintro j o h1 rs ho hc (⟨rfl, I, rfl⟩ | ⟨rfl, I, rfl⟩ | ⟨rfl, I, rfl⟩ | ⟨rfl, I, rfl⟩ | ⟨rfl, rfl, I, rfl⟩ | ⟨rfl, rfl, I, rfl⟩)
    · obtain rfl : opT = o := Option.some.inj ho
      exact absurd hc (by decide)
    · obtain rfl : opC 1 v = o := Option.some.inj ho
      exact absurd hc (by show ¬ (1 : Int) = 7; decide)
    · obtain rfl : opD 2 1 k = o := Option.some.inj ho
      exact absurd hc (by show ¬ (12 : Int) = 7; decide)
    · obtain rfl : opW ct = o := Option.some.inj ho
      exact absurd hc (by show ¬ (8 : Int) = 7; decide)
    · obtain rfl : opD 4 3 d = o := Option.some.inj ho
      exact absurd hc (by show ¬ (12 : Int) = 7; decide)
    · obtain rfl : opR 4 = o := Option.some.inj ho
      exact ⟨4, _, rfl, by decide, rfl, .inl ⟨rfl, I.less (I.ne (by omega)), rfl, rfl, rfl⟩⟩
  · intro o ho
    rcases List.mem_cons.1 ho with rfl | ho
    · decide
    rcases List.mem_cons.1 ho with rfl | ho
    · show ¬ (1 : Int) = 9
      decide
    rcases List.mem_cons.1 ho with rfl | ho
    · show ¬ (12 : Int) = 9
      decide
    rcases List.mem_cons.1 ho with rfl | ho
    · show ¬ (8 : Int) = 9
      decide
    rcases List.mem_cons.1 ho with rfl | ho
    · show ¬ (12 : Int) = 9
      decide
    rcases List.mem_cons.1 ho with rfl | ho
    · decide
    · cases ho
  · show 6 ≤ 256
    decide
def keyA : KK := ⟨⟨#[97]⟩, 0⟩
def keyB : KK := ⟨⟨#[98]⟩, 0⟩
def fiveV : VV := ⟨4, false, 4617315517961601024, ByteArray.empty, 0⟩
def dg (v : VV) : DD := ⟨zeroV, v, zeroV, 0, 0, 0⟩
def dgn (v : VV) : DD := ⟨zeroV, v, undV, 0, 1, 1⟩
theorem dg_fd {v : VV} (h : v.x < 2 ^ 64) : FD (dg v) := ⟨by show (0 : Nat) < _; decide, h, by show (0 : Nat) < _; decide⟩
theorem dg_new : chkV (dg (refV 2)) = 0 ∧ appB true zeroD (dg (refV 2)) = true ∧ appD true zeroD (dg (refV 2)) = dgn (refV 2) := ⟨by kernel_rfl, by kernel_rfl, by kernel_rfl⟩
theorem five_good : fiveV.good = true := by kernel_rfl
theorem goodA : goodK keyA = true := by kernel_rfl
theorem goodB : goodK keyB = true := by kernel_rfl
theorem keyAB : keyA ≠ keyB := by
  intro h
  have := congrArg (fun k : KK => k.s.data) h
  simp [keyA, keyB] at this
/-- Two objects: an ordinary one, and a function whose body is that of awake. -/
structure AW (h : HP) (qa qb : OB) (g c : Nat) : Prop where
  l : h.l = [qa, qb]
  bod : h.body g c (bodA keyA)
  m : qb.m = 1
  ow : qb.ow = some (81, pgV g c (bodA keyA) false)
  K : h.Ok
  f : 50 ≤ h.fuel
  e : h.ent + 4 ≤ h.depth
theorem aw_get (h : HP) (qa qb : OB) (g c : Nat) (w : World) (H : h.Is w) (hT : Tabs w) (A : AW h qa qb g c) (hp : pr qa.T = [(keyA, dn fiveV), (keyB, dgn (refV 2))]) : Calls Tryz.prog 20 #[.pointer (some ⟨h.b, 0, none⟩), .int .i64 ((0 : Nat) + 1 : Int), keyB.agg, (refV 1).agg] w fun e w' => e = .returned (.tuple #[fiveV.agg, .nilIface]) ∧ ∃ h2 : HP, h2.fuel = h.fuel - 6 ∧ h.To h2 w w' := by
  have hj0 : h.l[0]? = some qa := by rw [A.l]; rfl
  have hj1 : h.l[1]? = some qb := by rw [A.l]; rfl
  have hlen : h.l.length = 2 := by rw [A.l]; rfl
  have hf := A.f
  have hd := A.e
  have ga : getD qa.T keyA = dn fiveV := by
    rw [pr_get, hp]
    simp [lkP]
  have gb : getD qa.T keyB = dgn (refV 2) := by
    rw [pr_get, hp]
    simp [lkP, keyAB]
  have fa : (qa.T.find keyA).isSome = true := by rw [← pr_has, hp]; simp [hasP]
  have fb : (qa.T.find keyB).isSome = true := by rw [← pr_has, hp]; simp [hasP]
  have hrk : knownE h.l.length [refV 1] = 0 := knRef (by omega)
  have Ki : h.inn.Ok := innOk A.K (by omega) (by omega)
  have g0 : (getD qa.T keyA).g.k = 0 := by rw [ga]; rfl
  have Kii : h.inn.inn.Ok := innOk Ki (by show h.fuel - 1 ≠ 0; omega) (by show h.ent + 1 ≠ h.depth; omega)
  refine (dget_x h 0 qa keyB (refV 1) (fun h3 V er x => ∃ h2, h3 = h2.out ∧ finA h.inn.inn (getD qa.T keyA).v h2 V er x) w H hT A.K hj0 goodB (ref_good (by decide) (by decide)) hrk (by omega) (by omega) (fun X TX => ?_) ?_).mono ?_
  · refine get_a h.inn 0 qa keyB (refV 1) 1 _ X TX.is Ki.len hj0 (good_ok goodB) fb (by rw [gb]; rfl) (fun Y TY => ?_)
    refine fcall_h h.inn 1 qb g c (bodA keyA) false (refV 1) none 0 0 (stA h.inn.inn (getD qa.T keyA).v) (finA h.inn.inn (getD qa.T keyA).v) Y TY.is ((TX.trans TY).tabs H hT) Ki hj1 A.m (by show h.fuel - 1 ≠ 0; omega) (by show h.ent + 1 ≠ h.depth; omega) A.ow (fun B Z hB hTZ => ?_) (.inl ⟨rfl, rfl, rfl⟩) ?_
    · exact runsA h.inn.inn B g c _ _ _ keyA qa Z hB TY.is.low hTZ Kii A.bod (by show 4 ≤ h.fuel - 1 - 1; omega) (by show h.ent + 1 + 1 ≠ h.depth; omega) hj0 goodA hrk fa g0
    · rintro h2 V er x ⟨rfl, -, -⟩
      rfl
  · rintro h2 V er x ⟨h3, rfl, rfl, -, -⟩
    show h.ent + 1 + 1 - 1 = h.ent + 1
    omega
  · rintro _ Y ⟨h2, V, er, x, rfl, ⟨h3, rfl, rfl, rfl, rfl⟩, T⟩
    rw [ga] at *
    refine ⟨rfl, _, ?_, T⟩
    show h.fuel - 1 - 1 - 1 - 1 - 1 - 1 = h.fuel - 6
    omega
theorem aw_def_a (h : HP) (qa qb : OB) (g c : Nat) (w : World) (H : h.Is w) (hT : Tabs w) (A : AW h qa qb g c) (hx : qa.x = true) (hp : pr qa.T = []) (hl : qa.T.last ≤ 10) : Calls Tryz.prog 15 #[.pointer (some ⟨h.b, 0, none⟩), .int .i64 ((0 : Nat) + 1 : Int), keyA.agg, (dv fiveV).agg] w fun e w' => e = .returned (.tuple #[.bool true, .nilIface]) ∧ ∃ (h2 : HP) (qa2 : OB), h2.fuel = h.fuel - 1 ∧ h2.ent = h.ent ∧ h2.depth = h.depth ∧ qa2.x = true ∧ pr qa2.T = [(keyA, dn fiveV)] ∧ qa2.T.last ≤ 11 ∧ (49 < h.fuel - 1 → AW h2 qa2 qb g c) ∧ h.To h2 w w' := by
  have hj0 : h.l[0]? = some qa := by rw [A.l]; rfl
  have hf := A.f
  have hd := A.e
  have hc : chkV (dv fiveV) = 0 := dv_good five_good
  have hz : defC h 0 keyA (dv fiveV) = 0 := dv_def hj0 goodA hc (by unfold knownE knownV; rfl)
  have hnew := dv_new fiveV hc
  have e0 : getD qa.T keyA = zeroD := get_new (by rw [hp]; rfl)
  refine (ddef_x h 0 qa keyA (dv fiveV) w H hT A.K hj0 goodA (by rw [e0]; exact fd_zero) (dv_fd (by decide)) (by omega) hz (by rw [hx, e0]; exact hnew.1) (by omega) (by omega)).mono ?_
  rintro _ Y ⟨T', rfl, h5, h6, T⟩
  rw [hx, e0, hnew.2, hp, orV_th (by kernel_rfl)] at h6
  refine ⟨rfl, (h.tab 0 qa T').less, { qa with T := T' }, rfl, rfl, rfl, hx, h6, by show T'.last ≤ 11; omega, fun hge => ⟨?_, A.bod, A.m, A.ow, lessOk (tabOk A.K 0 qa T') (by show h.fuel ≠ 0; omega), by show 50 ≤ h.fuel - 1; omega, A.e⟩, T⟩
  show h.l.set 0 _ = _
  rw [A.l]
  rfl
theorem aw_def_b (h : HP) (qa qb : OB) (g c : Nat) (w : World) (H : h.Is w) (hT : Tabs w) (A : AW h qa qb g c) (hx : qa.x = true) (hp : pr qa.T = [(keyA, dn fiveV)]) (hl : qa.T.last ≤ 11) : Calls Tryz.prog 15 #[.pointer (some ⟨h.b, 0, none⟩), .int .i64 ((0 : Nat) + 1 : Int), keyB.agg, (dg (refV 2)).agg] w fun e w' => e = .returned (.tuple #[.bool true, .nilIface]) ∧ ∃ (h2 : HP) (qa2 : OB), h2.fuel = h.fuel - 1 ∧ h2.ent = h.ent ∧ h2.depth = h.depth ∧ qa2.x = true ∧ pr qa2.T = [(keyA, dn fiveV), (keyB, dgn (refV 2))] ∧ (49 < h.fuel - 1 → AW h2 qa2 qb g c) ∧ h.To h2 w w' := by
  have hj0 : h.l[0]? = some qa := by rw [A.l]; rfl
  have hj1 : h.l[1]? = some qb := by rw [A.l]; rfl
  have hlen : h.l.length = 2 := by rw [A.l]; rfl
  have hf := A.f
  have hd := A.e
  have hc := dg_new
  have hz : defC h 0 keyB (dg (refV 2)) = 0 := by
    have h2 : kErr keyB = 0 := by unfold kErr; rw [goodB]; rfl
    have h3 : knownE h.l.length [(dg (refV 2)).v, (dg (refV 2)).g, (dg (refV 2)).s] = 0 := by rw [hlen]; kernel_rfl
    have hcb : callB h 2 = true := (call_at hj1).1.trans (by rw [A.m]; rfl)
    have h4 : accE h [(dg (refV 2)).g, (dg (refV 2)).s] = 0 := by
      unfold accE accV dg refV
      simp [hcb, zeroV]
    unfold defC
    rw [th_ok hj0, h2, hc.1, h3, h4]
    rfl
  have e0 : getD qa.T keyB = zeroD := get_new (by rw [hp]; simp [hasP, keyAB])
  refine (ddef_x h 0 qa keyB (dg (refV 2)) w H hT A.K hj0 goodB (by rw [e0]; exact fd_zero) (dg_fd (by decide)) (by omega) hz (by rw [hx, e0]; exact hc.2.1) (by omega) (by omega)).mono ?_
  rintro _ Y ⟨T', rfl, h5, h6, T⟩
  rw [hx, e0, hc.2.2, hp, put_new (by simp [hasP, keyAB])] at h6
  refine ⟨rfl, (h.tab 0 qa T').less, { qa with T := T' }, rfl, rfl, rfl, hx, h6, fun hge => ⟨?_, A.bod, A.m, A.ow, lessOk (tabOk A.K 0 qa T') (by show h.fuel ≠ 0; omega), by show 50 ≤ h.fuel - 1; omega, A.e⟩, T⟩
  show h.l.set 0 _ = _
  rw [A.l]
  rfl
