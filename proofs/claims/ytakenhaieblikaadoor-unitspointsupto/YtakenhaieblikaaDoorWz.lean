import Derived.Test.YtakenhaieblikaaDoorWy
import Derived.BigCall
namespace Go.Proofs.YtakenhaieblikaaDoor
open Go.RowKit Go.Shelf

theorem decode_drop (s : ByteArray) (p : Nat) (h : p < s.size) : Utf8.decode s p = M.goD ((nums s).drop p) := by
  have hl : ((nums s).drop p).length ≠ 0 := by rw [List.length_drop, nums_len]; omega
  have hg : ∀ k, (s.get! (p + k)).toNat = ((nums s).drop p).getD k 0 := fun k => by
    rw [get_nums, List.getD_eq_getElem?_getD, List.getD_eq_getElem?_getD, List.getElem?_drop]
  have hz : ∀ k, p + k < s.size ↔ k < ((nums s).drop p).length := fun k => by rw [List.length_drop, nums_len]; omega
  unfold M.goD Utf8.decode
  rw [if_neg hl]
  simp only [hg, hz, Bool.and_eq_true, beq_iff_eq, decide_eq_true_eq, valid_nat, ge_iff_le, Utf8.runeError, and_assoc]
theorem enc_E (c : Nat) (h : M.sca c) : (Lib.encodeRune (c : Int)).map UInt8.toNat = M.E c := by
  have h1 := rune_E c h.1 h.2
  unfold Lib.runeCells at h1
  have h2 : Lib.encodeRuneZ (c : Int) = (M.E c).map fun x : Nat => (x : Int) := by
    have := congrArg (List.map fun v : Value => match v with | .int _ n => n | _ => 0) h1
    simpa [List.map_map, Function.comp_def, u8v] using this
  unfold Lib.encodeRune
  rw [h2, List.map_map, List.map_map]
  have h3 := E_256 c h.1
  generalize M.E c = l at *
  clear h1 h2
  induction l with
  | nil => rfl
  | cons a r ih =>
    have ha := h3 a (by simp)
    simp only [List.map_cons, Function.comp, Int.toNat_natCast]
    rw [ih (fun x hx => h3 x (by simp [hx]))]
    congr 1
    simp [Nat.toUInt8, UInt8.toNat_ofNat']
    omega
theorem goD_len (l : List Nat) (h : l ≠ []) : (M.goD l).2 ≤ l.length := by
  have hl : 0 < l.length := List.length_pos_iff.2 h
  unfold M.goD
  rw [if_neg (by omega)]
  repeat' split
  all_goals (dsimp only; omega)
def ftL (s : ByteArray) : List Nat := (M.runes (nums s)).flatMap M.E

set_option maxHeartbeats 6400000 in
set_option maxRecDepth 1000000 in
theorem fromText_any (s : ByteArray) (hsz : s.size ≤ 1099511627776) (w : World) :
    Calls Tryd.prog 17 #[.string s] w fun e w' => ∃ t, e = .returned (.string t) ∧ nums t = ftL s ∧ Below w.heap.size w w' := by
  have hs' : (s.size : Int) ≤ 1099511627776 := by omega
  go_enter Tryd.func17, Tryd.ntmps17
  go_wp2_with fail
  have hB0 : Below w.heap.size w (w.alloc (.cells #[.pointer none, .slice none 0 0] 72)) := (Below.refl _ w).alloc (Nat.le_refl _) _
  have hbk0 : (w.alloc (.cells #[.pointer none, .slice none 0 0] 72)).heap[w.heap.size]? = some (.cells #[.pointer none, .slice none 0 0] 72 (0, 0)) := by
    show (w.heap.push _)[w.heap.size]? = _
    simp
  refine (Tryd.grow_fresh w.heap.size w.heap.size s.size _ (Nat.le_refl _) hbk0 (by simp) (by omega)).mono ?_
  rintro e w1 ⟨rfl, hbd, hb1⟩
  have hB1 := hB0.trans hb1
  have hlt1 : w.heap.size < w1.heap.size := by have := hb1.size; simp at this; omega
  go_wp2
  go_loopw [5] (fun _ wr => ∃ (pos : Nat) (acc : List UInt8), Lib.IsBuilderF 72 5 w.heap.size w.heap.size (Lib.byteCells acc) wr ∧ wr.heap[w1.heap.size]? = some (.stringIter s pos) ∧ Below w.heap.size w wr ∧ acc.map UInt8.toNat ++ (M.runes ((nums s).drop pos)).flatMap M.E = ftL s ∧ acc.length ≤ 4 * pos ∧ pos ≤ s.size) (fun _ wr => s.size - wr.iterPos w1.heap.size)
  case atStart =>
    refine ⟨0, [], ?_, World.iter_heap w1 s 0, hB1.alloc hB1.size _, rfl, by simp, Nat.zero_le _⟩
    exact .inr ((Lib.BuilderAtF.of hbd).alloc _)
  case round =>
    obtain ⟨pos, acc, hI, hit, hbw, hacc, hal, hpz⟩ := hrel
    have hsz' : w1.heap.size < wr.heap.size := (Array.getElem?_eq_some_iff.1 hit).1
    have HACC := hide hacc; clear hacc
    by_cases hp : pos < s.size
    · have hnx : ∀ ty, (Instr.next (.pointer (some ⟨w1.heap.size, 0, none⟩)) true ty).run Tryd.prog wr = _ := fun ty => Lib.run_next_any_at wr w1.heap.size s pos ty hit hp
      have hb256 : ∀ x ∈ (nums s).drop pos, x < 256 := fun x hx => nums_lt s x (List.mem_of_mem_drop hx)
      have hne : (nums s).drop pos ≠ [] := fun e => by have := congrArg List.length e; rw [List.length_drop, nums_len] at this; simp at this; omega
      have hwd := M.goD_pos _ hne
      have hsc := M.goD_sca _ hb256
      have hst := M.runes_step _ hne
      have hwl : pos + (M.goD ((nums s).drop pos)).2 ≤ s.size := by
        have := goD_len _ hne
        rw [List.length_drop, nums_len] at this; omega
      rw [← decode_drop s pos hp] at hwd hsc hst hwl
      have hd1 := decode_le s pos
      have hI2 := hI.iterAt hit (pos + (Utf8.decode s pos).2)
      have hit2 := Lib.iterAt_heap wr w1.heap.size s pos (pos + (Utf8.decode s pos).2) hit
      have hbw2 := Lib.below_iterAt hbw (k := w1.heap.size) (by omega) s (pos + (Utf8.decode s pos).2)
      have hsz2 : w.heap.size ≤ (wr.iterAt w1.heap.size s (pos + (Utf8.decode s pos).2)).heap.size := by rw [Lib.iterAt_size]; omega
      have HST := hide hst; have HSC := hide hsc; clear hst hsc
      go_wp2_with (go_at_call 40; refine (Tryd.write_rune w.heap.size w.heap.size _ _ (by omega) (by omega) _ hI2 (by rw [Lib.byteCells_length]; omega) hsz2).mono ?_; rintro e W1 ⟨rfl, h1, b1, k1⟩)
      go_wp2
      go_roundw
      case rel =>
        have hl4 := Lib.runeCells_le ((Utf8.decode s pos).1 : Int)
        rw [Lib.runeCells_length] at hl4
        refine ⟨pos + (Utf8.decode s pos).2, acc ++ Lib.encodeRune (Utf8.decode s pos).1, ?_, k1.iter hit2 (by omega), hbw2.trans b1, ?_, by simp; omega, hwl⟩
        · rw [Lib.byteCells_append, Lib.byteCells_encodeRune]; exact .inr h1
        · rw [← unhide HACC, unhide HST, List.map_append, enc_E _ (unhide HSC), List.flatMap_cons, List.append_assoc, List.drop_drop]
      case measure =>
        simp only [World.iterPos, k1.iter hit2 (by omega), hit]
        omega
    · have hnx : ∀ ty, (Instr.next (.pointer (some ⟨w1.heap.size, 0, none⟩)) true ty).run Tryd.prog wr = _ := fun ty => Lib.run_next_end_at wr w1.heap.size s pos ty hit hp
      go_wp2_with (go_at_call 41; refine (Tryd.builder_string w.heap.size w.heap.size acc wr hI (by omega)).mono ?_; rintro e W1 ⟨rfl, hI3, b3⟩)
      go_wp2
      go_ret
      refine ⟨_, rfl, ?_, hbw.trans b3⟩
      have h0 : (nums s).drop pos = [] := List.drop_eq_nil_of_le (by rw [nums_len]; omega)
      have := unhide HACC
      rw [h0, M.runes_nil, List.flatMap_nil, List.append_nil] at this
      rw [← this, nums_of]
end Go.Proofs.YtakenhaieblikaaDoor
