import Derived.Test.YtdlbciiekghkaaaDoorSf
import Derived.Test.YtdlbciiekghkaaaDoorSg
namespace Go.Proofs.YtdlbciiekghkaaaDoor
open Go Go.Proofs Go.Shelf Go.RowKit Go.Lib Go.Sort FM
theorem cmpG_ok : Cmp cmpG where
  neg a b := cmpV_neg a.1 b.1 a.2.2 b.2.2
  le a b d h1 h2 := cmpV_le a.1 b.1 d.1 a.2.2 b.2.2 d.2.2 h1 h2
theorem All2.mono {α β : Type} {r q : α → β → Prop} {l : List α} {m : List β} (h : All2 r l m) (hq : ∀ a b, r a b → q a b) : All2 q l m := by
  induction h with
  | nil => exact .nil
  | cons h1 _ ih => exact .cons (hq _ _ h1) ih
/-- What the program keeps of a sorted row is what the reference inserts, place by place alike. -/
theorem rows_alike (l : List GV) (d : Array GV) (hp : d.toList.Perm l) (hs : SortedIn (ltOf cmpG) 0 d.size d) :
    All2 (fun a b : GV => alikeV sameV a.1 b.1 = true) (keptUpTo (kpG d) d d.size) (sortC cmpG l) := by
  refine (sorted_kept cmpG_ok l d hp (kpG d) (by simp [kpG]) ?_ ?_).mono fun a b h => (cmpV_zero a.1 b.1 a.2.1 b.2.1 a.2.2 b.2.2).1 h
  · intro j h0 hj
    have hz := cmpV_zero d[j]!.1 d[j - 1]!.1 d[j]!.2.1 d[j - 1]!.2.1 d[j]!.2.2 d[j - 1]!.2.2
    unfold kpG cmpG
    rw [ne_eq, hz]
    have : decide (j = 0) = false := by simp; omega
    rw [this]
    cases alikeV sameV d[j]!.1 d[j - 1]!.1 <;> simp
  · intro j h0 hj
    have h := hs (j - 1) j (by omega) (by omega) hj
    simp only [ltOf, decide_eq_false_iff_not] at h
    have := cmpG_ok.neg d[j]! d[j - 1]!
    omega
end Go.Proofs.YtdlbciiekghkaaaDoor
