import Derived.Test.YthilnaeomkppaaaGreatFmtQf
import Derived.Test.YthilnaeomkppaaaGreatFmtQe
import Derived.Laws.BytesArg
import Derived.Laws.IdiomStrings
import Derived.Deep.AppendLies
set_option linter.all false
namespace Go.Proofs.YthilnaeomkppaaaGreatFmt
section
open Go.RowKit Go.Shelf
attribute [local go_sem] Oper.semAt_some
def u16v (u : Nat) : Value := .int .u16 (u : Nat)
def unitsN (cs : List Nat) : List Nat := cs.flatMap M.U
/-- append onto a row of one's own, as one step of a region that draws its order, inside a fence. -/
theorem stepIn_append {F : Fence} {n : Nat} {P : Program} (w : World) {ops : Array Oper} {o : Oper} {a : Act} {K : Act → World → Prop} {Q : Exit → Act → World → Prop} {E : Prop}
    (hg : o.guard = none) (s x : Operand) (t : TypeId) (hop : o.op = Op.call { callee := Callee.builtin Builtin.append, args := #[s, x], argTypes := #[t, t] })
    (base : Nat) (e : TypeId) (i : TypeInfo) (z : Value) (size bytes : Nat) (h1 : P.underlying t = some (.slice e)) (h2 : P.info? e = some i) (h3 : i.zero = some z) (h4 : i.size = size) (h5 : i.bytes = bytes) (h6 : z.cells.size = size) (h7 : 0 < size)
    (v : Value) (k : Nat) (xs : List Value) (hs : a.eval s = v) (hown : w.ownsRow base e size v k xs) (ad : Addr) (m c : Nat) (news : List Value) (hx : a.eval x = .slice (some ad) m c) (hn : news.length = m * size)
    (hc : ∀ j u, news[j]? = some u → w.cell? (ad.add j) = some u) (h1c : ∀ u ∈ news, u.oneCell' = true) (b1 : k + m ≤ maxLen) (b2 : (k + m) * bytes ≤ 140737488355328) (b3 : base ≤ w.heap.size)
    (hK : ∀ v' w', w'.ownsRow base e size v' (k + m) (xs ++ news) → w.grownBy w' v.ownBlock → (v' = .slice none 0 0 ↔ v = .slice none 0 0 ∧ m = 0) → K (a.put o.dst v') w') :
    if Region.wanted o (yielded ops a.tmps) = true then Oper.wpIn F n P o a w K Q else E := by
  have hw : Region.wanted o (yielded ops a.tmps) = true := by simp [Region.wanted, hg]
  rw [if_pos hw]
  obtain ⟨v', w', hrun, r1, r2, r3⟩ := run_append_own (P := P) w base t o.type e i z size bytes h1 h2 h3 h4 h5 h6 h7 v k xs hown ad m c news hn hc h1c b1 b2 b3
  unfold Oper.wpIn
  refine ⟨?_, ?_⟩
  · simp [Oper.about, hop, resolve, Target.leads, Sem.run_pure]
  · rw [Oper.semAt_plain F _ _ (by rw [hop]; intro c hc'; cases hc')]
    simp [execOp, hop, resolve, invoke, builtin, hs, hx, hrun, Result.andThen]
    exact hK v' w' r1 r2 r3

def fstU (c : Nat) : Nat := if 65536 ≤ c then 55296 + (c - 65536) / 1024 else c
def sndU (c : Nat) : Nat := 56320 + (c - 65536) % 1024
theorem U_one {c : Nat} (h : ¬ 65536 ≤ c) : M.U c = [fstU c] := by simp [M.U, fstU, h, Nat.lt_of_not_le h]
theorem U_two {c : Nat} (h : 65536 ≤ c) : M.U c = [fstU c, sndU c] := by simp [M.U, fstU, sndU, h, Nat.not_lt.2 h]

def uN (l : List PT) : List Nat := l.flatMap fun x => M.U x.1.2
theorem uN_snoc (l : List PT) (x : PT) : uN (l ++ [x]) = uN l ++ M.U x.1.2 := by simp [uN]
theorem uN_pts : ∀ (k : Nat) (cs : List CP), uN (pts k cs) = unitsN (cs.map (·.1))
  | _, [] => rfl
  | k, c :: r => by
    have := uN_pts (k + wid c.1) r
    simp only [uN, unitsN, pts, List.flatMap_cons, List.map_cons] at *
    rw [this]
theorem pts_len : ∀ (k : Nat) (cs : List CP), (pts k cs).length = cs.length
  | _, [] => rfl
  | k, c :: r => by simp [pts, pts_len]
theorem U_len (c : Nat) : (M.U c).length ≤ 2 := by unfold M.U; split <;> simp
theorem uN_len (l : List PT) : (uN l).length ≤ 2 * l.length := by
  induction l with
  | nil => simp [uN]
  | cons x r ih => have := U_len x.1.2; simp only [uN, List.flatMap_cons, List.length_append, List.length_cons] at *; omega
theorem bytes_len : ∀ (cs : List CP), cs.length ≤ (bytes cs).length
  | [] => by simp [bytes]
  | c :: r => by
    have := bytes_len r; have := M.E_len c.1
    simp only [bytes, List.map_cons, List.flatMap_cons, List.length_append, List.length_cons] at *; omega

end
section
open Go.RowKit Go.Shelf
def u8v (u : Nat) : Value := .int .u8 (u : Nat)
theorem info5 : (Tryz.prog.info? 5).map (fun i => (i.zero, i.size, i.bytes)) = some (some (.int .u8 0), 1, 1) := by kernel_rfl

theorem nums_of (l : List UInt8) : nums ⟨l.toArray⟩ = l.map UInt8.toNat := rfl
theorem back_u8 (l : List Nat) (h : ∀ x ∈ l, x < 256) : (l.map UInt8.ofNat).map UInt8.toNat = l := by
  rw [List.map_map]
  conv => rhs; rw [← List.map_id l]
  apply List.map_congr_left
  intro x hx
  have := h x hx
  simp [UInt8.toNat_ofNat']
  omega
/-- string(b) of a row of one's own. -/
theorem run_str (w : World) (B n : Nat) (v : Value) (l : List Nat) (hown : w.ownsRow B 5 1 v n (l.map u8v)) (h256 : ∀ x ∈ l, x < 256) :
    ∃ s, (convert 120 9 v).run Tryz.prog w = .ok (.string s) w ∧ nums s = l := by
  obtain ⟨hl, h⟩ := hown
  simp only [List.length_map, Nat.mul_one] at hl
  rcases h with ⟨rfl, rfl⟩ | ⟨g, cap, cur, rfl, hBg, hgb, hnc, hcm, hcs, htk⟩
  · refine ⟨ByteArray.empty, run_convert_bytes_nil w 120 5 Tryz.underlying120 Tryz.underlying5 0 0 9 Tryz.underlying9, ?_⟩
    rw [List.length_eq_zero_iff.1 hl]; rfl
  · refine ⟨⟨(l.map UInt8.ofNat).toArray⟩, ?_, ?_⟩
    · have hlen : (l.map UInt8.ofNat).length = n := by simp [hl]
      have := run_convert_bytes_back (P := Tryz.prog) w 120 9 5 ⟨g, 0, none⟩ cap (l.map UInt8.ofNat) Tryz.underlying120 Tryz.underlying5 Tryz.underlying9 (fun j hj => by
        have hj' : j < l.length := by simpa using hj
        have hx : l[j] < 256 := h256 _ (List.getElem_mem hj')
        have hown' : w.ownsRow B 5 1 (.slice (some ⟨g, 0, none⟩) n cap) n (l.map u8v) := ⟨by simp [hl], .inr ⟨g, cap, cur, rfl, hBg, hgb, hnc, hcm, hcs, htk⟩⟩
        have hc := hown'.cells (g := g) rfl j (u8v l[j]) (by simp [hj'])
        rw [hc]
        simp only [u8v, List.getElem_map, UInt8.toNat_ofNat']
        rw [Nat.mod_eq_of_lt hx])
      rw [hlen] at this
      exact this
    · rw [nums_of, back_u8 l h256]

theorem E_256 (c : Nat) (hc : c ≤ 1114111) : ∀ x ∈ M.E c, x < 256 := by
  unfold M.E; repeat' split
  all_goals (intro x hx; simp at hx; omega)

theorem below_app {B n : Nat} {w w' : World} {v : Value} {e : TypeId} {xs : List Value} {tmp : Obj} (hown : w.ownsRow B e 1 v n xs) (hB : B ≤ w.heap.size) (hgrow : (w.alloc tmp).grownBy w' v.ownBlock) : Below B w w' := by
  refine ((Below.refl B w).alloc hB tmp).grown hgrow (by simp; omega) fun j ej => ?_
  rcases hown.2 with ⟨rfl, _⟩ | ⟨g, cap, cur, rfl, hb, _, _⟩
  · simp [Value.ownBlock] at ej
  · obtain rfl : g = j := by simpa [Value.ownBlock] using ej
    exact hb

theorem news_cells (w : World) (cs : Array Value) (t : TypeId) : ∀ j u, cs.toList[j]? = some u → (w.alloc (.cells cs t)).cell? ((⟨w.heap.size, 0, none⟩ : Addr).add j) = some u :=
  World.news_of_block (World.alloc_heap_new w _)
/-- v is a slice whose elements are the units l. -/
def Reads (w : World) (v : Value) (l : List Nat) : Prop :=
  (∃ A c, v = .slice A 0 c ∧ l = []) ∨ ∃ b off cap, v = .slice (some ⟨b, off, none⟩) l.length cap ∧ b < w.heap.size ∧ ∀ i, i < l.length → w.cell? ⟨b, off + i, none⟩ = some (.int .u16 (l.getD i 0 : Nat))
theorem Reads.same {w w' : World} {v : Value} {l : List Nat} (h : Reads w v l) (hb : Below w.heap.size w w') : Reads w' v l := by
  rcases h with h | ⟨b, off, cap, rfl, hlt, hc⟩
  · exact .inl h
  · exact .inr ⟨b, off, cap, rfl, Nat.lt_of_lt_of_le hlt hb.size, fun i hi => (hb.cell (p := ⟨b, off + i, none⟩) hlt).trans (hc i hi)⟩

theorem row_pair (a b : Nat) (r : List Nat) (h : (M.isHi a && M.isLo b) = true) : M.row (a :: b :: r) = (65536 + 1024 * (a - 55296) + (b - 56320)) :: M.row r := by
  simp only [M.row, h, if_true]
theorem row_single (a : Nat) (t : List Nat) (h : ∀ b r, t = b :: r → (M.isHi a && M.isLo b) = false) : M.row (a :: t) = a :: M.row t := M.row_cons_of a t h
theorem drop_getD (l : List Nat) (k : Nat) (h : k < l.length) : l.drop k = l.getD k 0 :: l.drop (k + 1) := by
  rw [List.drop_eq_getElem_cons h, List.getD_eq_getElem?_getD, List.getElem?_eq_getElem h]; rfl

def i64v (u : Nat) : Value := .int .i64 (u : Nat)
/-- The code points of a row, each with where it begins. -/
def rowP : Nat → List Nat → List (Nat × Nat)
  | _, [] => []
  | k, [a] => [(k, a)]
  | k, a :: b :: r => if M.isHi a && M.isLo b then (k, 65536 + 1024 * (a - 55296) + (b - 56320)) :: rowP (k + 2) r else (k, a) :: rowP (k + 1) (b :: r)
def ptCells (l : List (Nat × Nat)) : List Value := l.flatMap fun p => [i64v p.1, i64v p.2]
theorem rowP_snd : ∀ (n k : Nat) (l : List Nat), l.length ≤ n → (rowP k l).map (·.2) = M.row l := by
  intro n
  induction n with
  | zero =>
    intro k l h
    have : l = [] := List.eq_nil_of_length_eq_zero (by omega)
    subst this; rfl
  | succ n ih =>
    intro k l h
    match l, h with
    | [], _ => rfl
    | [a], _ => rfl
    | a :: b :: r, h =>
      simp only [rowP, M.row]
      split
      · simp only [List.map_cons]; rw [ih (k + 2) r (by simp at h; omega)]
      · simp only [List.map_cons]; rw [ih (k + 1) (b :: r) (by simp at h ⊢; omega)]
theorem rowP_pair (k a b : Nat) (r : List Nat) (h : (M.isHi a && M.isLo b) = true) : rowP k (a :: b :: r) = (k, 65536 + 1024 * (a - 55296) + (b - 56320)) :: rowP (k + 2) r := by
  simp only [rowP, h, if_true]
theorem rowP_single (k a : Nat) (t : List Nat) (h : ∀ b r, t = b :: r → (M.isHi a && M.isLo b) = false) : rowP k (a :: t) = (k, a) :: rowP (k + 1) t := by
  cases t with
  | nil => rfl
  | cons b r => simp [rowP, h b r rfl]
theorem below_app' {B n size : Nat} {w w' : World} {v : Value} {e : TypeId} {xs : List Value} {tmp : Obj} (hown : w.ownsRow B e size v n xs) (hB : B ≤ w.heap.size) (hgrow : (w.alloc tmp).grownBy w' v.ownBlock) : Below B w w' := by
  refine ((Below.refl B w).alloc hB tmp).grown hgrow (by simp; omega) fun j ej => ?_
  rcases hown.2 with ⟨rfl, _⟩ | ⟨g, cap, cur, rfl, hb, _, _⟩
  · simp [Value.ownBlock] at ej
  · obtain rfl : g = j := by simpa [Value.ownBlock] using ej
    exact hb

theorem row_small (l : List Nat) (h16 : ∀ x ∈ l, x < 65536) : ∀ c ∈ M.row l, c ≤ 1114111 := (M.row_props l.length l (Nat.le_refl _) h16).1
theorem ptCells_get (l : List (Nat × Nat)) (k : Nat) (h : k < l.length) : (ptCells l)[k * 2 + 1]? = some (i64v (l[k].2)) ∧ (ptCells l)[k * 2]? = some (i64v (l[k].1)) := by
  induction l generalizing k with
  | nil => simp at h
  | cons p r ih =>
    cases k with
    | zero => simp [ptCells]
    | succ k =>
      have := ih k (by simpa using h)
      have e1 : (k + 1) * 2 + 1 = (k * 2 + 1) + 2 := by omega
      have e2 : (k + 1) * 2 = (k * 2) + 2 := by omega
      rw [e1, e2]
      simp only [ptCells, List.flatMap_cons, List.cons_append, List.nil_append, List.getElem?_cons_succ, List.getElem_cons_succ] at *
      exact this

def tailZ (n : Nat) (l : List Nat) (c : Nat) : Int := match M.tailN n l c with
  | some c => (c : Int)
  | none => -1
theorem tail_bound : ∀ (n : Nat) (l : List Nat) (c d : Nat), M.tailN n l c = some d → d < 64 ^ n * (c + 1)
  | 0, _, c, d, h => by simp [M.tailN] at h; omega
  | n + 1, l, c, d, h => by
    unfold M.tailN at h
    split at h
    · simp at h
    · split at h
      · simp at h
      · rename_i b t hb
        have := tail_bound n t (64 * c + (b - 128)) d h
        have h2 : 64 ^ n * (64 * c + (b - 128) + 1) ≤ 64 ^ n * (64 * (c + 1)) := Nat.mul_le_mul_left _ (by omega)
        rw [Nat.pow_succ]
        have h3 : 64 ^ n * 64 * (c + 1) = 64 ^ n * (64 * (c + 1)) := by rw [Nat.mul_assoc]
        omega
theorem rd1_none {b n base : Nat} {t : List Nat} (hh : M.head b = some (n, base)) (ht : M.tailN n t 0 = none) : M.rd1 (b :: t) = none := by
  simp only [M.rd1, hh, ht]
theorem rd1_some {b n base c : Nat} {t : List Nat} (hh : M.head b = some (n, base)) (ht : M.tailN n t 0 = some c) : M.rd1 (b :: t) = if 1114111 < c + base * 64 ^ n then none else some (c + base * 64 ^ n, n) := by
  simp only [M.rd1, hh, ht]
theorem rd_none {l : List Nat} (hne : l ≠ []) (h : M.rd1 l = none) : M.rd l = none := by rw [M.rd_step l hne, h]
theorem rd_some {l : List Nat} {c n : Nat} (hne : l ≠ []) (h : M.rd1 l = some (c, n)) : M.rd l = (M.rd (l.drop (1 + n))).map (M.U c ++ ·) := by rw [M.rd_step l hne, h]
theorem tail_len : ∀ (n : Nat) (l : List Nat) (c d : Nat), M.tailN n l c = some d → n ≤ l.length
  | 0, _, _, _, _ => Nat.zero_le _
  | n + 1, l, c, d, h => by
    unfold M.tailN at h
    split at h
    · simp at h
    · split at h
      · simp at h
      · rename_i b t hb
        have := tail_len n t _ d h
        simp; omega
theorem wrap_small {a : Nat} (h : a ≤ 1114111) : IntKind.i64.wrap (a : Int) = (a : Int) := by rw [IntKind.wrap_i64]; omega

/-- What read comes to. -/
def rdB (s : ByteArray) : Bool := (M.rd (nums s)).isSome
def rdL (s : ByteArray) : List Nat := (M.rd (nums s)).getD []

theorem nums_inj {s t : ByteArray} (h : nums s = nums t) : s = t := by
  have h1 : s.data.toList = t.data.toList := by
    have h2 := congrArg (List.map UInt8.ofNat) h
    unfold nums at h2
    simpa [List.map_map, Function.comp_def] using h2
  cases s; cases t
  simp only [ByteArray.mk.injEq]
  exact Array.toList_inj.1 h1
theorem toList_inj {s t : ByteArray} (h : s.toList = t.toList) : s = t := by
  rw [Lib.toList_data, Lib.toList_data] at h
  cases s; cases t
  simp only [ByteArray.mk.injEq]
  exact Array.toList_inj.1 h
theorem owns_below {w w' : World} {B : Nat} {e : TypeId} {size n : Nat} {v : Value} {xs : List Value} (h : w.ownsRow B e size v n xs) (hb : Below w.heap.size w w') : w'.ownsRow B e size v n xs :=
  h.kept (grown_of_below hb) (by
    cases hv : v.ownBlock with
    | none => exact .inl rfl
    | some g => exact .inr (by simp))
theorem owns_base {w : World} {B B' : Nat} {e : TypeId} {size n : Nat} {v : Value} {xs : List Value} (h : w.ownsRow B e size v n xs) (hb : B' ≤ B) : w.ownsRow B' e size v n xs := by
  obtain ⟨h1, h2 | ⟨g, cap, cur, e1, e2, e3⟩⟩ := h
  · exact ⟨h1, .inl h2⟩
  · exact ⟨h1, .inr ⟨g, cap, cur, e1, Nat.le_trans hb e2, e3⟩⟩
theorem rdL_small (s : ByteArray) : ∀ x ∈ rdL s, x < 65536 := by
  unfold rdL
  cases h : M.rd (nums s) with
  | none => simp
  | some u => simpa using M.rd_small _ _ u (Nat.le_refl _) h
theorem rd1_tail {l : List Nat} {c n : Nat} (h : M.rd1 l = some (c, n)) : 1 + n ≤ l.length ∧ (M.U c).length ≤ 1 + n := by
  unfold M.rd1 at h
  split at h
  · simp at h
  · split at h
    · simp at h
    · rename_i b t n' base hh
      split at h
      · simp at h
      · rename_i d htl
        split at h
        · simp at h
        · simp only [Option.some.injEq, Prod.mk.injEq] at h
          obtain ⟨h1, h2⟩ := h
          have := tail_len _ _ _ _ htl
          have hb := tail_bound _ _ _ _ htl
          subst h2
          refine ⟨by simp; omega, ?_⟩
          have hUl := U_len c
          cases n' with
          | zero =>
            have hb0 : base < 128 := by
              unfold M.head at hh
              repeat' split at hh
              all_goals simp at hh
              omega
            simp at hb h1
            have : c < 65536 := by omega
            unfold M.U; rw [if_pos this]; simp
          | succ m => omega
theorem rd_len : ∀ (n : Nat) (l u : List Nat), l.length ≤ n → M.rd l = some u → u.length ≤ l.length := by
  intro n
  induction n with
  | zero =>
    intro l u hl h
    have : l = [] := List.eq_nil_of_length_eq_zero (by omega)
    subst this
    rw [M.rd_nil] at h; cases h; simp
  | succ n ih =>
    intro l u hl h
    by_cases hne : l = []
    · subst hne; rw [M.rd_nil] at h; cases h; simp
    · rw [M.rd_step l hne] at h
      have hl0 : 0 < l.length := List.length_pos_iff.2 hne
      cases h1 : M.rd1 l with
      | none => rw [h1] at h; simp at h
      | some p =>
        obtain ⟨c, k⟩ := p
        rw [h1] at h
        simp only [Option.map_eq_some_iff] at h
        obtain ⟨v, hv, rfl⟩ := h
        have := ih _ v (by simp; omega) hv
        have := rd1_tail h1
        simp only [List.length_append, List.length_drop] at *; omega
theorem rdL_len (s : ByteArray) : (rdL s).length ≤ s.size := by
  unfold rdL
  cases h : M.rd (nums s) with
  | none => simp
  | some u => have := rd_len _ _ u (Nat.le_refl _) h; rw [nums_len] at this; simpa using this

def vS (s : ByteArray) : Bool := M.valid false (nums s)
def unS (s : ByteArray) : List Nat := if vS s then rdL s else []
def erS (s : ByteArray) : Int := if vS s then 0 else 10

theorem reads_open {w : World} {v : Value} {l : List Nat} (hR : Reads w v l) : ∃ A cap, v = .slice A l.length cap ∧ (∀ i, i < l.length → ∃ b off, A = some ⟨b, off, none⟩ ∧ b < w.heap.size ∧ w.cell? ⟨b, off + i, none⟩ = some (.int .u16 (l.getD i 0 : Nat))) := by
  rcases hR with ⟨A, c, rfl, rfl⟩ | ⟨b, off, cap, rfl, hlt, hc⟩
  · exact ⟨A, c, rfl, fun i hi => by simp at hi⟩
  · exact ⟨_, _, rfl, fun i hi => ⟨b, off, rfl, hlt, hc i hi⟩⟩
end
section
open Go.RowKit FM
attribute [local go_sem] bits_run run_store_floatD
theorem zero_order (x : Nat) (hx : x < 2 ^ 64) : (FloatKind.f64.format.order x 0 == some .eq) = (decide (x = 0) || decide (x = 9223372036854775808)) := by
  rw [eq_order x 0 hx (by decide)]
  unfold equalV same0V sameV
  have e1 : isN 0 = false := by decide +kernel
  have e2 : sz 0 = 0 := by decide +kernel
  rw [e1, e2]
  by_cases h : sz x = 0
  · rw [sz0_nan h]
    unfold sz at h
    have : x = 0 ∨ x = 9223372036854775808 := by omega
    rcases this with rfl | rfl <;> simp [sz]
  · have h1 : ¬ x = 0 := by rintro rfl; exact h e2
    have h2 : ¬ x = 9223372036854775808 := by rintro rfl; exact h (by decide +kernel)
    simp [h, h1, h2]
def mnV (x : Nat) : Bool := decide (x = 9223372036854775808)
theorem quo_pos (w : World) : (binOp .quo 32 (.float .f64 4607182418800017408) (.float .f64 0)).run Tryz.prog w = .ok (.float .f64 9218868437227405312) w := by kernel_rfl
theorem quo_neg (w : World) : (binOp .quo 32 (.float .f64 4607182418800017408) (.float .f64 9223372036854775808)).run Tryz.prog w = .ok (.float .f64 18442240474082181120) w := by kernel_rfl
theorem o_00 : (FloatKind.f64.format.order 0 0 == some .eq) = true := by decide +kernel
theorem o_m0 : (FloatKind.f64.format.order 9223372036854775808 0 == some .eq) = true := by decide +kernel
theorem o_i0 : (FloatKind.f64.format.order 9218868437227405312 0 == some .lt) = false := by decide +kernel
theorem o_n0 : (FloatKind.f64.format.order 18442240474082181120 0 == some .lt) = true := by decide +kernel
end
section
open Go Go.Proofs Go.RowKit FM
theorem run_equalIn_float {P : Program} (d : Nat) (t : TypeId) (a b : Nat) (w : World) (h : P.underlying t = some (.float .f64)) : (Op.equalIn (d + 1) t (.float .f64 a) (.float .f64 b)).run P w = .ok (FloatKind.f64.format.order a b == some .eq) w := by
  simp [Op.equalIn, run_underlying h]
  rfl
section
attribute [local go_sem] bits_run
theorem signbit_any (x : Nat) (hx : x < 2 ^ 64) (w : World) : Calls Tryz.prog 92 #[.float .f64 x] w fun e w' => e = .returned (.bool (decide (2 ^ 63 ≤ x))) ∧ w' = w := by
  have h : (wrap64 (x : Int) < 0) = (2 ^ 63 ≤ x) := by
    unfold wrap64
    rw [eq_iff_iff]
    omega
  go_enter Tryz.func92, Tryz.ntmps92
  go_wp2
  go_ret
  exact ⟨by simp, rfl⟩
end
def thV (v : VV) : Bool := !(v.k == 0 && !v.b && v.x == 0 && v.s.toList.isEmpty && v.i == 0)
attribute [local go_sem] run_equalIn_float
set_option maxHeartbeats 1000000 in
set_option maxRecDepth 100000 in
theorem there_any (v : VV) (hx : v.x < 2 ^ 64) (w : World) : Calls Tryz.prog 76 #[v.agg] w fun e w' => e = .returned (.bool (thV v)) ∧ Below w.heap.size w w' := by
  have hz := zero_order v.x hx
  have HS := hide (signbit_any v.x hx)
  obtain ⟨k, b, x, s, i⟩ := v
  unfold VV.agg thV
  dsimp only at *
  by_cases hk : k = 0
  · subst hk
    cases b
    · generalize hq : (FloatKind.f64.format.order x 0 == some .eq) = q at *
      cases q
      · have hx0 : (x == 0) = false := by
          simp at hz
          simp [hz]
        rw [hx0]
        have hq2 : ¬ FloatKind.f64.format.order x 0 = some .eq := by simpa using hq
        clear hz hq HS hx hx0
        go_enter Tryz.func76, Tryz.ntmps76
        go_wp2
        go_ret
        exact ⟨rfl, (Below.refl w.heap.size w).alloc (Nat.le_refl _) _⟩
      · have hx0 : x = 0 ∨ x = 2 ^ 63 := by
          simp at hz
          omega
        have hq2 : FloatKind.f64.format.order x 0 = some .eq := by simpa using hq
        by_cases hs : s.toList.isEmpty = true
        · have hs2 := empty_of hs
          subst hs2
          by_cases hi : i = 0
          · subst hi
            have hr : (!((0 : Int) == 0 && !false && x == 0 && ByteArray.empty.toList.isEmpty && (0 : Int) == 0)) = decide (2 ^ 63 ≤ x) := by
              rw [hs]
              rcases hx0 with rfl | rfl <;> rfl
            rw [hr]
            generalize decide (2 ^ 63 ≤ x) = r at *
            clear hz hq hx hx0 hr hs
            go_enter Tryz.func76, Tryz.ntmps76
            go_wp2_with fail
            refine (unhide HS _).mono ?_
            rintro e w1 ⟨rfl, rfl⟩
            go_wp2
            go_ret
            exact ⟨rfl, (Below.refl w.heap.size w).alloc (Nat.le_refl _) _⟩
          · have hi2 : (i == 0) = false := by simp [hi]
            rw [hi2, Bool.and_false]
            clear hz hq hx hx0 hs HS
            go_enter Tryz.func76, Tryz.ntmps76
            go_wp2
            go_ret
            exact ⟨rfl, (Below.refl w.heap.size w).alloc (Nat.le_refl _) _⟩
        · have hs1 : s.toList.isEmpty = false := by simpa using hs
          have hs2 : ¬ s.toList = [] := by simpa using hs1
          rw [hs1, Bool.and_false, Bool.false_and]
          clear hz hq hx hx0 hs HS hs1
          go_enter Tryz.func76, Tryz.ntmps76
          go_wp2
          go_ret
          exact ⟨rfl, (Below.refl w.heap.size w).alloc (Nat.le_refl _) _⟩
    · clear hz HS hx
      go_enter Tryz.func76, Tryz.ntmps76
      go_wp2
      go_ret
      exact ⟨rfl, (Below.refl w.heap.size w).alloc (Nat.le_refl _) _⟩
  · clear hz HS hx
    have hk2 : (k == 0) = false := by simp [hk]
    rw [hk2]
    go_enter Tryz.func76, Tryz.ntmps76
    go_wp2
    go_ret
    exact ⟨rfl, (Below.refl w.heap.size w).alloc (Nat.le_refl _) _⟩
def shapeV (d : DD) : Int := if (thV d.v || d.w != 0) && (thV d.g || thV d.s) then 0 else if thV d.v || d.w != 0 then 2 else if thV d.g || thV d.s then 3 else 1
def triV (t : Int) : Bool := t == 0 || t == 1 || t == 2
theorem said_any (t : Int) (w : World) : Calls Tryz.prog 79 #[.int .i64 t] w fun e w' => e = .returned (.bool (t != 0)) ∧ w' = w := by
  go_enter Tryz.func79, Tryz.ntmps79
  go_wp2
  go_ret
  exact ⟨rfl, rfl⟩
theorem oneOfThree_any (t : Int) (w : World) : Calls Tryz.prog 78 #[.int .i64 t] w fun e w' => e = .returned (.bool (triV t)) ∧ w' = w := by
  unfold triV
  by_cases h0 : t = 0
  · subst h0
    go_enter Tryz.func78, Tryz.ntmps78
    go_wp2
    go_ret
    exact ⟨rfl, rfl⟩
  · have h0' : (t == 0) = false := by simp [h0]
    by_cases h1 : t = 1
    · subst h1
      go_enter Tryz.func78, Tryz.ntmps78
      go_wp2
      go_ret
      exact ⟨rfl, rfl⟩
    · have h1' : (t == 1) = false := by simp [h1]
      rw [h0', h1']
      go_enter Tryz.func78, Tryz.ntmps78
      go_wp2
      go_ret
      exact ⟨rfl, rfl⟩
/-- The floats of a descriptor are floats. -/
def FD (d : DD) : Prop := d.v.x < 2 ^ 64 ∧ d.g.x < 2 ^ 64 ∧ d.s.x < 2 ^ 64
theorem triOr_any (t a : Int) (w : World) : Calls Tryz.prog 84 #[.int .i64 t, .int .i64 a] w fun e w' => e = .returned (.int .i64 (if t != 0 then t else a)) ∧ w' = w := by
  by_cases h : t = 0
  · subst h
    go_enter Tryz.func84, Tryz.ntmps84
    go_wp2_with (go_at_call 79; refine (said_any _ _).mono ?_; rintro _ _ ⟨rfl, rfl⟩)
    go_ret
    exact ⟨rfl, rfl⟩
  · have h' : (t != 0) = true := by simp [h]
    rw [h', if_pos rfl]
    go_enter Tryz.func84, Tryz.ntmps84
    go_wp2_with (go_at_call 79; refine (said_any _ _).mono ?_; rintro _ _ ⟨rfl, rfl⟩)
    go_ret
    exact ⟨rfl, rfl⟩
theorem o_ig : (FloatKind.f64.format.order 9218868437227405312 0 == some .gt) = true := by decide +kernel
theorem o_ng : (FloatKind.f64.format.order 18442240474082181120 0 == some .gt) = false := by decide +kernel
section
attribute [local go_sem] quo_pos quo_neg
end
