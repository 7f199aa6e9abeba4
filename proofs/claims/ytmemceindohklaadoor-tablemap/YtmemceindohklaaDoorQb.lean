import Derived.Test.YtmemceindohklaaDoorQa
import Derived.Laws.BytesArg
import Derived.Laws.IdiomStrings
import Derived.Deep.AppendLies
import Derived.LoopTactic
import Derived.Deep.RegionHeld3

/-! Wf -/
namespace Go.Proofs.YtmemceindohklaaDoor
open Go.RowKit Go.Shelf

def u8v (u : Nat) : Value := .int .u8 (u : Nat)
theorem info5 : (Tryd.prog.info? 5).map (fun i => (i.zero, i.size, i.bytes)) = some (some (.int .u8 0), 1, 1) := by kernel_rfl

theorem nums_of (l : List UInt8) : nums ⟨l.toArray⟩ = l.map UInt8.toNat := rfl
theorem back_u8 (l : List Nat) (h : ∀ x ∈ l, x < 256) : (l.map UInt8.ofNat).map UInt8.toNat = l := by
  rw [List.map_map]
  conv => rhs; rw [← List.map_id l]
  apply List.map_congr_left
  intro x hx
  have := h x hx
  simp [UInt8.toNat_ofNat']
  omega
/-- string(b) of a row of one's own. -/
theorem run_str (w : World) (B n : Nat) (v : Value) (l : List Nat) (hown : w.ownsRow B 5 1 v n (l.map u8v)) (h256 : ∀ x ∈ l, x < 256) :
    ∃ s, (convert 130 9 v).run Tryd.prog w = .ok (.string s) w ∧ nums s = l := by
  obtain ⟨hl, h⟩ := hown
  simp only [List.length_map, Nat.mul_one] at hl
  rcases h with ⟨rfl, rfl⟩ | ⟨g, cap, cur, rfl, hBg, hgb, hnc, hcm, hcs, htk⟩
  · refine ⟨ByteArray.empty, run_convert_bytes_nil w 130 5 Tryd.underlying130 Tryd.underlying5 0 0 9 Tryd.underlying9, ?_⟩
    rw [List.length_eq_zero_iff.1 hl]; rfl
  · refine ⟨⟨(l.map UInt8.ofNat).toArray⟩, ?_, ?_⟩
    · have hlen : (l.map UInt8.ofNat).length = n := by simp [hl]
      have := run_convert_bytes_back (P := Tryd.prog) w 130 9 5 ⟨g, 0, none⟩ cap (l.map UInt8.ofNat) Tryd.underlying130 Tryd.underlying5 Tryd.underlying9 (fun j hj => by
        have hj' : j < l.length := by simpa using hj
        have hx : l[j] < 256 := h256 _ (List.getElem_mem hj')
        have hown' : w.ownsRow B 5 1 (.slice (some ⟨g, 0, none⟩) n cap) n (l.map u8v) := ⟨by simp [hl], .inr ⟨g, cap, cur, rfl, hBg, hgb, hnc, hcm, hcs, htk⟩⟩
        have hc := hown'.cells (g := g) rfl j (u8v l[j]) (by simp [hj'])
        rw [hc]
        simp only [u8v, List.getElem_map, UInt8.toNat_ofNat']
        rw [Nat.mod_eq_of_lt hx])
      rw [hlen] at this
      exact this
    · rw [nums_of, back_u8 l h256]

theorem E_256 (c : Nat) (hc : c ≤ 1114111) : ∀ x ∈ M.E c, x < 256 := by
  unfold M.E; repeat' split
  all_goals (intro x hx; simp at hx; omega)

theorem below_app {B n : Nat} {w w' : World} {v : Value} {e : TypeId} {xs : List Value} {tmp : Obj} (hown : w.ownsRow B e 1 v n xs) (hB : B ≤ w.heap.size) (hgrow : (w.alloc tmp).grownBy w' v.ownBlock) : Below B w w' := by
  refine ((Below.refl B w).alloc hB tmp).grown hgrow (by simp; omega) fun j ej => ?_
  rcases hown.2 with ⟨rfl, _⟩ | ⟨g, cap, cur, rfl, hb, _, _⟩
  · simp [Value.ownBlock] at ej
  · obtain rfl : g = j := by simpa [Value.ownBlock] using ej
    exact hb

theorem news_cells (w : World) (cs : Array Value) (t : TypeId) : ∀ j u, cs.toList[j]? = some u → (w.alloc (.cells cs t)).cell? ((⟨w.heap.size, 0, none⟩ : Addr).add j) = some u :=
  World.news_of_block (World.alloc_heap_new w _)
end Go.Proofs.YtmemceindohklaaDoor

/-! Wg -/
namespace Go.Proofs.YtmemceindohklaaDoor
open Go.RowKit Go.Shelf

/-- v is a slice whose elements are the units l. -/
def Reads (w : World) (v : Value) (l : List Nat) : Prop :=
  (∃ A c, v = .slice A 0 c ∧ l = []) ∨ ∃ b off cap, v = .slice (some ⟨b, off, none⟩) l.length cap ∧ b < w.heap.size ∧ ∀ i, i < l.length → w.cell? ⟨b, off + i, none⟩ = some (.int .u16 (l.getD i 0 : Nat))
theorem Reads.same {w w' : World} {v : Value} {l : List Nat} (h : Reads w v l) (hb : Below w.heap.size w w') : Reads w' v l := by
  rcases h with h | ⟨b, off, cap, rfl, hlt, hc⟩
  · exact .inl h
  · exact .inr ⟨b, off, cap, rfl, Nat.lt_of_lt_of_le hlt hb.size, fun i hi => (hb.cell (p := ⟨b, off + i, none⟩) hlt).trans (hc i hi)⟩

theorem row_pair (a b : Nat) (r : List Nat) (h : (M.isHi a && M.isLo b) = true) : M.row (a :: b :: r) = (65536 + 1024 * (a - 55296) + (b - 56320)) :: M.row r := by
  simp only [M.row, h, if_true]
theorem row_single (a : Nat) (t : List Nat) (h : ∀ b r, t = b :: r → (M.isHi a && M.isLo b) = false) : M.row (a :: t) = a :: M.row t := M.row_cons_of a t h
theorem drop_getD (l : List Nat) (k : Nat) (h : k < l.length) : l.drop k = l.getD k 0 :: l.drop (k + 1) := by
  rw [List.drop_eq_getElem_cons h, List.getD_eq_getElem?_getD, List.getElem?_eq_getElem h]; rfl

end Go.Proofs.YtmemceindohklaaDoor

/-! Wh -/
namespace Go.Proofs.YtmemceindohklaaDoor
open Go.RowKit Go.Shelf

def i64v (u : Nat) : Value := .int .i64 (u : Nat)
/-- The code points of a row, each with where it begins. -/
def rowP : Nat → List Nat → List (Nat × Nat)
  | _, [] => []
  | k, [a] => [(k, a)]
  | k, a :: b :: r => if M.isHi a && M.isLo b then (k, 65536 + 1024 * (a - 55296) + (b - 56320)) :: rowP (k + 2) r else (k, a) :: rowP (k + 1) (b :: r)
def ptCells (l : List (Nat × Nat)) : List Value := l.flatMap fun p => [i64v p.1, i64v p.2]
theorem rowP_snd : ∀ (n k : Nat) (l : List Nat), l.length ≤ n → (rowP k l).map (·.2) = M.row l := by
  intro n
  induction n with
  | zero =>
    intro k l h
    have : l = [] := List.eq_nil_of_length_eq_zero (by omega)
    subst this; rfl
  | succ n ih =>
    intro k l h
    match l, h with
    | [], _ => rfl
    | [a], _ => rfl
    | a :: b :: r, h =>
      simp only [rowP, M.row]
      split
      · simp only [List.map_cons]; rw [ih (k + 2) r (by simp at h; omega)]
      · simp only [List.map_cons]; rw [ih (k + 1) (b :: r) (by simp at h ⊢; omega)]
theorem rowP_pair (k a b : Nat) (r : List Nat) (h : (M.isHi a && M.isLo b) = true) : rowP k (a :: b :: r) = (k, 65536 + 1024 * (a - 55296) + (b - 56320)) :: rowP (k + 2) r := by
  simp only [rowP, h, if_true]
theorem rowP_single (k a : Nat) (t : List Nat) (h : ∀ b r, t = b :: r → (M.isHi a && M.isLo b) = false) : rowP k (a :: t) = (k, a) :: rowP (k + 1) t := by
  cases t with
  | nil => rfl
  | cons b r => simp [rowP, h b r rfl]
theorem below_app' {B n size : Nat} {w w' : World} {v : Value} {e : TypeId} {xs : List Value} {tmp : Obj} (hown : w.ownsRow B e size v n xs) (hB : B ≤ w.heap.size) (hgrow : (w.alloc tmp).grownBy w' v.ownBlock) : Below B w w' := by
  refine ((Below.refl B w).alloc hB tmp).grown hgrow (by simp; omega) fun j ej => ?_
  rcases hown.2 with ⟨rfl, _⟩ | ⟨g, cap, cur, rfl, hb, _, _⟩
  · simp [Value.ownBlock] at ej
  · obtain rfl : g = j := by simpa [Value.ownBlock] using ej
    exact hb

end Go.Proofs.YtmemceindohklaaDoor

/-! Wi -/
namespace Go.Proofs.YtmemceindohklaaDoor
open Go.RowKit Go.Shelf

theorem row_small (l : List Nat) (h16 : ∀ x ∈ l, x < 65536) : ∀ c ∈ M.row l, c ≤ 1114111 := (M.row_props l.length l (Nat.le_refl _) h16).1
theorem ptCells_get (l : List (Nat × Nat)) (k : Nat) (h : k < l.length) : (ptCells l)[k * 2 + 1]? = some (i64v (l[k].2)) ∧ (ptCells l)[k * 2]? = some (i64v (l[k].1)) := by
  induction l generalizing k with
  | nil => simp at h
  | cons p r ih =>
    cases k with
    | zero => simp [ptCells]
    | succ k =>
      have := ih k (by simpa using h)
      have e1 : (k + 1) * 2 + 1 = (k * 2 + 1) + 2 := by omega
      have e2 : (k + 1) * 2 = (k * 2) + 2 := by omega
      rw [e1, e2]
      simp only [ptCells, List.flatMap_cons, List.cons_append, List.nil_append, List.getElem?_cons_succ, List.getElem_cons_succ] at *
      exact this

def tailZ (n : Nat) (l : List Nat) (c : Nat) : Int := match M.tailN n l c with
  | some c => (c : Int)
  | none => -1
theorem tail_bound : ∀ (n : Nat) (l : List Nat) (c d : Nat), M.tailN n l c = some d → d < 64 ^ n * (c + 1)
  | 0, _, c, d, h => by simp [M.tailN] at h; omega
  | n + 1, l, c, d, h => by
    unfold M.tailN at h
    split at h
    · simp at h
    · split at h
      · simp at h
      · rename_i b t hb
        have := tail_bound n t (64 * c + (b - 128)) d h
        have h2 : 64 ^ n * (64 * c + (b - 128) + 1) ≤ 64 ^ n * (64 * (c + 1)) := Nat.mul_le_mul_left _ (by omega)
        rw [Nat.pow_succ]
        have h3 : 64 ^ n * 64 * (c + 1) = 64 ^ n * (64 * (c + 1)) := by rw [Nat.mul_assoc]
        omega
end Go.Proofs.YtmemceindohklaaDoor

/-! Wj -/
namespace Go.Proofs.YtmemceindohklaaDoor
open Go.RowKit Go.Shelf

theorem rd1_none {b n base : Nat} {t : List Nat} (hh : M.head b = some (n, base)) (ht : M.tailN n t 0 = none) : M.rd1 (b :: t) = none := by
  simp only [M.rd1, hh, ht]
theorem rd1_some {b n base c : Nat} {t : List Nat} (hh : M.head b = some (n, base)) (ht : M.tailN n t 0 = some c) : M.rd1 (b :: t) = if 1114111 < c + base * 64 ^ n then none else some (c + base * 64 ^ n, n) := by
  simp only [M.rd1, hh, ht]
theorem rd_none {l : List Nat} (hne : l ≠ []) (h : M.rd1 l = none) : M.rd l = none := by rw [M.rd_step l hne, h]
theorem rd_some {l : List Nat} {c n : Nat} (hne : l ≠ []) (h : M.rd1 l = some (c, n)) : M.rd l = (M.rd (l.drop (1 + n))).map (M.U c ++ ·) := by rw [M.rd_step l hne, h]
theorem tail_len : ∀ (n : Nat) (l : List Nat) (c d : Nat), M.tailN n l c = some d → n ≤ l.length
  | 0, _, _, _, _ => Nat.zero_le _
  | n + 1, l, c, d, h => by
    unfold M.tailN at h
    split at h
    · simp at h
    · split at h
      · simp at h
      · rename_i b t hb
        have := tail_len n t _ d h
        simp; omega
theorem wrap_small {a : Nat} (h : a ≤ 1114111) : IntKind.i64.wrap (a : Int) = (a : Int) := by rw [IntKind.wrap_i64]; omega

/-- What read comes to. -/
def rdB (s : ByteArray) : Bool := (M.rd (nums s)).isSome
def rdL (s : ByteArray) : List Nat := (M.rd (nums s)).getD []

end Go.Proofs.YtmemceindohklaaDoor

/-! Wk -/
namespace Go.Proofs.YtmemceindohklaaDoor
open Go.RowKit Go.Shelf

theorem nums_inj {s t : ByteArray} (h : nums s = nums t) : s = t := by
  have h1 : s.data.toList = t.data.toList := by
    have h2 := congrArg (List.map UInt8.ofNat) h
    unfold nums at h2
    simpa [List.map_map, Function.comp_def] using h2
  cases s; cases t
  simp only [ByteArray.mk.injEq]
  exact Array.toList_inj.1 h1
theorem toList_inj {s t : ByteArray} (h : s.toList = t.toList) : s = t := by
  rw [Lib.toList_data, Lib.toList_data] at h
  cases s; cases t
  simp only [ByteArray.mk.injEq]
  exact Array.toList_inj.1 h
theorem owns_below {w w' : World} {B : Nat} {e : TypeId} {size n : Nat} {v : Value} {xs : List Value} (h : w.ownsRow B e size v n xs) (hb : Below w.heap.size w w') : w'.ownsRow B e size v n xs :=
  h.kept (grown_of_below hb) (by
    cases hv : v.ownBlock with
    | none => exact .inl rfl
    | some g => exact .inr (by simp))
theorem owns_base {w : World} {B B' : Nat} {e : TypeId} {size n : Nat} {v : Value} {xs : List Value} (h : w.ownsRow B e size v n xs) (hb : B' ≤ B) : w.ownsRow B' e size v n xs := by
  obtain ⟨h1, h2 | ⟨g, cap, cur, e1, e2, e3⟩⟩ := h
  · exact ⟨h1, .inl h2⟩
  · exact ⟨h1, .inr ⟨g, cap, cur, e1, Nat.le_trans hb e2, e3⟩⟩
theorem rdL_small (s : ByteArray) : ∀ x ∈ rdL s, x < 65536 := by
  unfold rdL
  cases h : M.rd (nums s) with
  | none => simp
  | some u => simpa using M.rd_small _ _ u (Nat.le_refl _) h
theorem rd1_tail {l : List Nat} {c n : Nat} (h : M.rd1 l = some (c, n)) : 1 + n ≤ l.length ∧ (M.U c).length ≤ 1 + n := by
  unfold M.rd1 at h
  split at h
  · simp at h
  · split at h
    · simp at h
    · rename_i b t n' base hh
      split at h
      · simp at h
      · rename_i d htl
        split at h
        · simp at h
        · simp only [Option.some.injEq, Prod.mk.injEq] at h
          obtain ⟨h1, h2⟩ := h
          have := tail_len _ _ _ _ htl
          have hb := tail_bound _ _ _ _ htl
          subst h2
          refine ⟨by simp; omega, ?_⟩
          have hUl := U_len c
          cases n' with
          | zero =>
            have hb0 : base < 128 := by
              unfold M.head at hh
              repeat' split at hh
              all_goals simp at hh
              omega
            simp at hb h1
            have : c < 65536 := by omega
            unfold M.U; rw [if_pos this]; simp
          | succ m => omega
theorem rd_len : ∀ (n : Nat) (l u : List Nat), l.length ≤ n → M.rd l = some u → u.length ≤ l.length := by
  intro n
  induction n with
  | zero =>
    intro l u hl h
    have : l = [] := List.eq_nil_of_length_eq_zero (by omega)
    subst this
    rw [M.rd_nil] at h; cases h; simp
  | succ n ih =>
    intro l u hl h
    by_cases hne : l = []
    · subst hne; rw [M.rd_nil] at h; cases h; simp
    · rw [M.rd_step l hne] at h
      have hl0 : 0 < l.length := List.length_pos_iff.2 hne
      cases h1 : M.rd1 l with
      | none => rw [h1] at h; simp at h
      | some p =>
        obtain ⟨c, k⟩ := p
        rw [h1] at h
        simp only [Option.map_eq_some_iff] at h
        obtain ⟨v, hv, rfl⟩ := h
        have := ih _ v (by simp; omega) hv
        have := rd1_tail h1
        simp only [List.length_append, List.length_drop] at *; omega
theorem rdL_len (s : ByteArray) : (rdL s).length ≤ s.size := by
  unfold rdL
  cases h : M.rd (nums s) with
  | none => simp
  | some u => have := rd_len _ _ u (Nat.le_refl _) h; rw [nums_len] at this; simpa using this

def vS (s : ByteArray) : Bool := M.valid false (nums s)
def unS (s : ByteArray) : List Nat := if vS s then rdL s else []
def erS (s : ByteArray) : Int := if vS s then 0 else 10

theorem reads_open {w : World} {v : Value} {l : List Nat} (hR : Reads w v l) : ∃ A cap, v = .slice A l.length cap ∧ (∀ i, i < l.length → ∃ b off, A = some ⟨b, off, none⟩ ∧ b < w.heap.size ∧ w.cell? ⟨b, off + i, none⟩ = some (.int .u16 (l.getD i 0 : Nat))) := by
  rcases hR with ⟨A, c, rfl, rfl⟩ | ⟨b, off, cap, rfl, hlt, hc⟩
  · exact ⟨A, c, rfl, fun i hi => by simp at hi⟩
  · exact ⟨_, _, rfl, fun i hi => ⟨b, off, rfl, hlt, hc i hi⟩⟩
end Go.Proofs.YtmemceindohklaaDoor
