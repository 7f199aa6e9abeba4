import Derived.Test.YteohiamifoonkaaDoorWd
namespace Go.Proofs.YteohiamifoonkaaDoor
open Go.RowKit Go.Shelf
attribute [local go_sem] Oper.semAt_some

def u16v (u : Nat) : Value := .int .u16 (u : Nat)
def unitsN (cs : List Nat) : List Nat := cs.flatMap M.U
theorem info77 : (Tryd.prog.info? 77).map (fun i => (i.zero, i.size, i.bytes)) = some (some (.int .u16 0), 1, 2) := by kernel_rfl

/-- append onto a row of one's own, as one step of a region that draws its order, inside a fence. -/
theorem stepIn_append {F : Fence} {n : Nat} {P : Program} (w : World) {ops : Array Oper} {o : Oper} {a : Act} {K : Act → World → Prop} {Q : Exit → Act → World → Prop} {E : Prop}
    (hg : o.guard = none) (s x : Operand) (t : TypeId) (hop : o.op = Op.call { callee := Callee.builtin Builtin.append, args := #[s, x], argTypes := #[t, t] })
    (base : Nat) (e : TypeId) (i : TypeInfo) (z : Value) (size bytes : Nat) (h1 : P.underlying t = some (.slice e)) (h2 : P.info? e = some i) (h3 : i.zero = some z) (h4 : i.size = size) (h5 : i.bytes = bytes) (h6 : z.cells.size = size) (h7 : 0 < size)
    (v : Value) (k : Nat) (xs : List Value) (hs : a.eval s = v) (hown : w.ownsRow base e size v k xs) (ad : Addr) (m c : Nat) (news : List Value) (hx : a.eval x = .slice (some ad) m c) (hn : news.length = m * size)
    (hc : ∀ j u, news[j]? = some u → w.cell? (ad.add j) = some u) (h1c : ∀ u ∈ news, u.oneCell' = true) (b1 : k + m ≤ maxLen) (b2 : (k + m) * bytes ≤ 140737488355328) (b3 : base ≤ w.heap.size)
    (hK : ∀ v' w', w'.ownsRow base e size v' (k + m) (xs ++ news) → w.grownBy w' v.ownBlock → (v' = .slice none 0 0 ↔ v = .slice none 0 0 ∧ m = 0) → K (a.put o.dst v') w') :
    if Region.wanted o (yielded ops a.tmps) = true then Oper.wpIn F n P o a w K Q else E := by
  have hw : Region.wanted o (yielded ops a.tmps) = true := by simp [Region.wanted, hg]
  rw [if_pos hw]
  obtain ⟨v', w', hrun, r1, r2, r3⟩ := run_append_own (P := P) w base t o.type e i z size bytes h1 h2 h3 h4 h5 h6 h7 v k xs hown ad m c news hn hc h1c b1 b2 b3
  unfold Oper.wpIn
  refine ⟨?_, ?_⟩
  · simp [Oper.about, hop, resolve, Target.leads, Sem.run_pure]
  · rw [Oper.semAt_plain F _ _ (by rw [hop]; intro c hc'; cases hc')]
    simp [execOp, hop, resolve, invoke, builtin, hs, hx, hrun, Result.andThen]
    exact hK v' w' r1 r2 r3

def fstU (c : Nat) : Nat := if 65536 ≤ c then 55296 + (c - 65536) / 1024 else c
def sndU (c : Nat) : Nat := 56320 + (c - 65536) % 1024
theorem U_one {c : Nat} (h : ¬ 65536 ≤ c) : M.U c = [fstU c] := by simp [M.U, fstU, h, Nat.lt_of_not_le h]
theorem U_two {c : Nat} (h : 65536 ≤ c) : M.U c = [fstU c, sndU c] := by simp [M.U, fstU, sndU, h, Nat.not_lt.2 h]

def uN (l : List PT) : List Nat := l.flatMap fun x => M.U x.1.2
theorem uN_snoc (l : List PT) (x : PT) : uN (l ++ [x]) = uN l ++ M.U x.1.2 := by simp [uN]
theorem uN_pts : ∀ (k : Nat) (cs : List CP), uN (pts k cs) = unitsN (cs.map (·.1))
  | _, [] => rfl
  | k, c :: r => by
    have := uN_pts (k + wid c.1) r
    simp only [uN, unitsN, pts, List.flatMap_cons, List.map_cons] at *
    rw [this]
theorem pts_len : ∀ (k : Nat) (cs : List CP), (pts k cs).length = cs.length
  | _, [] => rfl
  | k, c :: r => by simp [pts, pts_len]
theorem U_len (c : Nat) : (M.U c).length ≤ 2 := by unfold M.U; split <;> simp
theorem uN_len (l : List PT) : (uN l).length ≤ 2 * l.length := by
  induction l with
  | nil => simp [uN]
  | cons x r ih => have := U_len x.1.2; simp only [uN, List.flatMap_cons, List.length_append, List.length_cons] at *; omega
theorem bytes_len : ∀ (cs : List CP), cs.length ≤ (bytes cs).length
  | [] => by simp [bytes]
  | c :: r => by
    have := bytes_len r; have := M.E_len c.1
    simp only [bytes, List.map_cons, List.flatMap_cons, List.length_append, List.length_cons] at *; omega

end Go.Proofs.YteohiamifoonkaaDoor
