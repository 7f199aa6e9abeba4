import Derived.Test.YtdlbciiekghkaaaDoorVj
import Derived.Test.YtdlbciiekghkaaaDoorSa
import Derived.Deep.QuietTactic
import Derived.BigQuiet
namespace Go.Proofs.YtdlbciiekghkaaaDoor
open Go.RowKit FM
attribute [local go_sem] bits_run run_store_float
def cmpI (a b : Int) : Int := if a < b then -1 else if b < a then 1 else 0
def cmpB (a b : Bool) : Int := if a = b then 0 else if b then -1 else 1
def cmpF (x y : Nat) : Int := if isN x then (if isN y then 0 else -1) else if isN y then 1 else cmpI (pl x) (pl y)
def cmpN (x y : Nat) : Int := if isN x || isN y then cmpF y x else if equalV x y then cmpB (!ng x) (!ng y) else cmpF x y
theorem cbools_any (a b : Bool) (w : World) : Calls Tryd.prog 60 #[.bool a, .bool b] w fun e w' => e = .returned (.int .i64 (cmpB a b)) ∧ w' = w := by
  cases a <;> cases b
  all_goals
    go_enter Tryd.func60, Tryd.ntmps60
    go_wp2
    go_ret
    exact ⟨rfl, rfl⟩
theorem csym_any (a b : Int) (w : World) : Calls Tryd.prog 63 #[.int .i64 a, .int .i64 b] w fun e w' => e = .returned (.int .i64 (cmpI a b)) ∧ w' = w := by
  by_cases h1 : a < b
  · have e : cmpI a b = -1 := by unfold cmpI; rw [if_pos h1]
    rw [e]; clear e
    go_enter Tryd.func63, Tryd.ntmps63
    go_wp2
    go_ret
    exact ⟨rfl, rfl⟩
  · by_cases h2 : b < a
    · have e : cmpI a b = 1 := by unfold cmpI; rw [if_neg h1, if_pos h2]
      rw [e]; clear e
      go_enter Tryd.func63, Tryd.ntmps63
      go_wp2
      go_ret
      exact ⟨rfl, rfl⟩
    · have e : cmpI a b = 0 := by unfold cmpI; rw [if_neg h1, if_neg h2]
      rw [e]; clear e
      go_enter Tryd.func63, Tryd.ntmps63
      go_wp2
      go_ret
      exact ⟨rfl, rfl⟩
theorem cobj_any (a b : Int) (w : World) : Calls Tryd.prog 64 #[.int .i64 a, .int .i64 b] w fun e w' => e = .returned (.int .i64 (cmpI a b)) ∧ w' = w := by
  by_cases h1 : a < b
  · have e : cmpI a b = -1 := by unfold cmpI; rw [if_pos h1]
    rw [e]; clear e
    go_enter Tryd.func64, Tryd.ntmps64
    go_wp2
    go_ret
    exact ⟨rfl, rfl⟩
  · by_cases h2 : b < a
    · have e : cmpI a b = 1 := by unfold cmpI; rw [if_neg h1, if_pos h2]
      rw [e]; clear e
      go_enter Tryd.func64, Tryd.ntmps64
      go_wp2
      go_ret
      exact ⟨rfl, rfl⟩
    · have e : cmpI a b = 0 := by unfold cmpI; rw [if_neg h1, if_neg h2]
      rw [e]; clear e
      go_enter Tryd.func64, Tryd.ntmps64
      go_wp2
      go_ret
      exact ⟨rfl, rfl⟩
theorem isnan99 (b : Nat) (w : World) : Calls Tryd.prog 99 #[.float .f64 b] w fun e w' => e = .returned (.bool (isN b)) ∧ w' = w := by
  go_enter Tryd.func99, Tryd.ntmps99
  go_wp2
  go_ret
  exact ⟨by rw [← nanF]; rfl, rfl⟩
theorem cfloat_any (x y : Nat) (w : World) : Calls Tryd.prog 82 #[.float .f64 x, .float .f64 y] w fun e w' => e = .returned (.int .i64 (cmpF x y)) ∧ w' = w := by
  have hl := ltF x y
  have hg := gtF x y
  rw [← fo] at hl hg
  have HX := hide (isnan99 x)
  have HY := hide (isnan99 y)
  unfold cmpF
  generalize isN x = nx at *
  generalize isN y = ny at *
  cases nx <;> cases ny
  · by_cases h1 : pl x < pl y
    · have e : cmpI (pl x) (pl y) = -1 := by unfold cmpI; rw [if_pos h1]
      rw [decide_eq_true h1] at hl
      have hp : (if false = true then (if false = true then (0 : Int) else -1) else if false = true then 1 else cmpI (pl x) (pl y)) = -1 := by rw [e]; rfl
      rw [hp]; clear e hp h1 hg
      go_enter Tryd.func82, Tryd.ntmps82
      go_wp2_with fail
      refine (unhide HX _).mono ?_
      rintro e w' ⟨rfl, rfl⟩
      go_wp2_with fail
      refine (unhide HY _).mono ?_
      rintro e w' ⟨rfl, rfl⟩
      go_wp2
      go_ret
      exact ⟨rfl, rfl⟩
    · by_cases h2 : pl y < pl x
      · have e : cmpI (pl x) (pl y) = 1 := by unfold cmpI; rw [if_neg h1, if_pos h2]
        rw [decide_eq_false h1] at hl
        rw [decide_eq_true h2] at hg
        have hp : (if false = true then (if false = true then (0 : Int) else -1) else if false = true then 1 else cmpI (pl x) (pl y)) = 1 := by rw [e]; rfl
        rw [hp]; clear e hp h1 h2
        go_enter Tryd.func82, Tryd.ntmps82
        go_wp2_with fail
        refine (unhide HX _).mono ?_
        rintro e w' ⟨rfl, rfl⟩
        go_wp2_with fail
        refine (unhide HY _).mono ?_
        rintro e w' ⟨rfl, rfl⟩
        go_wp2
        go_ret
        exact ⟨rfl, rfl⟩
      · have e : cmpI (pl x) (pl y) = 0 := by unfold cmpI; rw [if_neg h1, if_neg h2]
        rw [decide_eq_false h1] at hl
        rw [decide_eq_false h2] at hg
        have hp : (if false = true then (if false = true then (0 : Int) else -1) else if false = true then 1 else cmpI (pl x) (pl y)) = 0 := by rw [e]; rfl
        rw [hp]; clear e hp h1 h2
        go_enter Tryd.func82, Tryd.ntmps82
        go_wp2_with fail
        refine (unhide HX _).mono ?_
        rintro e w' ⟨rfl, rfl⟩
        go_wp2_with fail
        refine (unhide HY _).mono ?_
        rintro e w' ⟨rfl, rfl⟩
        go_wp2
        go_ret
        exact ⟨rfl, rfl⟩
  all_goals
    clear hl hg
    generalize cmpI (pl x) (pl y) = q
    go_enter Tryd.func82, Tryd.ntmps82
    go_wp2_with fail
    refine (unhide HX _).mono ?_
    rintro e w' ⟨rfl, rfl⟩
    go_wp2_with fail
    refine (unhide HY _).mono ?_
    rintro e w' ⟨rfl, rfl⟩
    go_wp2
    go_ret
    exact ⟨rfl, rfl⟩
theorem signbit_any (x : Nat) (w : World) : Calls Tryd.prog 83 #[.float .f64 x] w fun e w' => e = .returned (.bool (ng x)) ∧ w' = w := by
  have h : ng x = decide (wrap64 (x : Int) < 0) := by
    unfold ng wrap64
    rw [Bool.eq_iff_iff]
    simp
    omega
  rw [h]
  clear h
  go_enter Tryd.func83, Tryd.ntmps83
  go_wp2
  go_ret
  exact ⟨rfl, rfl⟩
theorem cnum_any (x y : Nat) (hx : x < 2 ^ 64) (hy : y < 2 ^ 64) (w : World) : Calls Tryd.prog 61 #[.float .f64 x, .float .f64 y] w fun e w' => e = .returned (.int .i64 (cmpN x y)) ∧ w' = w := by
  have he := eq_order x y hx hy
  have HX := hide (isnan_any x)
  have HY := hide (isnan_any y)
  have HC := hide (cfloat_any x y)
  have HD := hide (cfloat_any y x)
  have HS := hide (signbit_any x)
  have HT := hide (signbit_any y)
  clear hx hy
  unfold cmpN
  generalize isN x = nx at *
  generalize isN y = ny at *
  generalize equalV x y = eq at *
  generalize cmpF x y = fxy at *
  generalize cmpF y x = fyx at *
  generalize ng x = sx at *
  generalize ng y = sy at *
  cases nx
  · cases ny
    · have hp : (if (false || false) = true then fyx else if eq = true then cmpB (!sx) (!sy) else fxy) = if eq = true then cmpB (!sx) (!sy) else fxy := rfl
      rw [hp]
      clear hp HD
      cases eq
      · have hp : (if false = true then cmpB (!sx) (!sy) else fxy) = fxy := rfl
        rw [hp]
        clear hp HS HT
        go_enter Tryd.func61, Tryd.ntmps61
        go_wp2_with fail
        refine (unhide HX _).mono ?_
        rintro e w' ⟨rfl, rfl⟩
        go_wp2_with fail
        refine (unhide HY _).mono ?_
        rintro e w' ⟨rfl, rfl⟩
        go_wp2_with fail
        refine (unhide HC _).mono ?_
        rintro e w' ⟨rfl, rfl⟩
        go_wp2
        go_ret
        exact ⟨rfl, rfl⟩
      · have hp : (if true = true then cmpB (!sx) (!sy) else fxy) = cmpB (!sx) (!sy) := rfl
        rw [hp]
        clear hp HC
        go_enter Tryd.func61, Tryd.ntmps61
        go_wp2_with fail
        refine (unhide HX _).mono ?_
        rintro e w' ⟨rfl, rfl⟩
        go_wp2_with fail
        refine (unhide HY _).mono ?_
        rintro e w' ⟨rfl, rfl⟩
        go_wp2_with fail
        refine (unhide HS _).mono ?_
        rintro e w' ⟨rfl, rfl⟩
        go_wp2_with fail
        refine (unhide HT _).mono ?_
        rintro e w' ⟨rfl, rfl⟩
        go_wp2_with fail
        refine (cbools_any _ _ _).mono ?_
        rintro e w' ⟨rfl, rfl⟩
        go_wp2
        go_ret
        exact ⟨rfl, rfl⟩
    · have hp : (if (false || true) = true then fyx else if eq = true then cmpB (!sx) (!sy) else fxy) = fyx := rfl
      rw [hp]
      clear hp HC HS HT he
      go_enter Tryd.func61, Tryd.ntmps61
      go_wp2_with fail
      refine (unhide HX _).mono ?_
      rintro e w' ⟨rfl, rfl⟩
      go_wp2_with fail
      refine (unhide HY _).mono ?_
      rintro e w' ⟨rfl, rfl⟩
      go_wp2_with fail
      refine (unhide HD _).mono ?_
      rintro e w' ⟨rfl, rfl⟩
      go_wp2
      go_ret
      exact ⟨rfl, rfl⟩
  · have hp : (if (true || ny) = true then fyx else if eq = true then cmpB (!sx) (!sy) else fxy) = fyx := rfl
    rw [hp]
    clear hp HC HS HT he HY
    go_enter Tryd.func61, Tryd.ntmps61
    go_wp2_with fail
    refine (unhide HX _).mono ?_
    rintro e w' ⟨rfl, rfl⟩
    go_wp2_with fail
    refine (unhide HD _).mono ?_
    rintro e w' ⟨rfl, rfl⟩
    go_wp2
    go_ret
    exact ⟨rfl, rfl⟩
/-- The order of two values that are well formed. -/
def cmpV (a b : VV) : Int :=
  if a.k ≠ b.k then cmpI a.k b.k else if a.k = 3 then cmpB a.b b.b else if a.k = 4 then cmpN a.x b.x else if a.k = 5 then M.cmpL (unS a.s) (unS b.s) else if a.k = 6 then cmpI a.i b.i else if a.k = 7 then cmpI a.i b.i else 0
theorem compareInt_eq (a b : Int) : Lib.compareInt a b = cmpI a b := by
  unfold Lib.compareInt cmpI
  rfl
end Go.Proofs.YtdlbciiekghkaaaDoor
