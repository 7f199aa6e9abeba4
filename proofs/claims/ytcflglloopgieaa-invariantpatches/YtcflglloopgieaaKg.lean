import Derived.Test.YtcflglloopgieaaKf
namespace Go.Proofs.Ytcflglloopgieaa
open Go Go.Proofs Go.Maps Go.RowKit FM
set_option linter.unusedSimpArgs false
set_option linter.unusedVariables false
set_option maxHeartbeats 1000000
/-! What Patch does, as lists. -/
def delP (k : KK) : List PR → Option (List PR)
  | [] => none
  | p :: l => if p.k = k then some l else (delP k l).map (p :: ·)
def putP (k : KK) (d : DD) : List PR → List PR
  | [] => [⟨k, d⟩]
  | p :: l => if p.k = k then ⟨p.k, d⟩ :: l else p :: putP k d l
def take1 (s : SH) (d : DL) : Option SH :=
  if d.wh = 2 then some { s with c := d.n } else if d.wh = 3 then some { s with p := d.v } else if d.wh = 4 then some { s with x := d.y }
  else if d.wh = 5 then (delP d.k s.ps).map (fun ps => { s with ps := ps }) else if d.wh = 6 then some { s with ps := putP d.k d.d s.ps } else none
def takeL (m : List SH) (d : DL) : Option (List SH) :=
  if d.wh = 1 ∧ d.o = (m.length : Int) + 1 then some (m ++ [⟨d.n, d.v, d.y, []⟩])
  else if 1 ≤ d.o ∧ d.o < (m.length : Int) + 1 then (m[d.o.toNat - 1]?).bind (fun s => (take1 s d).map (fun t => m.set (d.o.toNat - 1) t)) else none
def patchL : List SH → List DL → Option (List SH)
  | m, [] => some m
  | m, d :: l => (takeL m d).bind (fun m' => patchL m' l)
theorem patchL_append (l k : List DL) : ∀ m, patchL m (l ++ k) = (patchL m l).bind (fun m' => patchL m' k) := by
  induction l with
  | nil => intro m; rfl
  | cons d l ih =>
    intro m
    simp only [List.cons_append, patchL]
    cases takeL m d with
    | none => rfl
    | some m' => exact ih m'
theorem delP_at : ∀ (a b : List PR) (p : PR), (∀ q ∈ a, q.k ≠ p.k) → delP p.k (a ++ p :: b) = some (a ++ b)
  | [], b, p, _ => by simp [delP]
  | q :: a, b, p, h => by
    have h1 := h q (List.mem_cons_self ..)
    simp [delP, h1, delP_at a b p (fun r hr => h r (List.mem_cons_of_mem _ hr))]
theorem putP_at : ∀ (a b : List PR) (p : PR) (d : DD), (∀ q ∈ a, q.k ≠ p.k) → putP p.k d (a ++ p :: b) = a ++ ⟨p.k, d⟩ :: b
  | [], b, p, d, _ => by simp [putP]
  | q :: a, b, p, d, h => by
    have h1 := h q (List.mem_cons_self ..)
    simp [putP, h1, putP_at a b p d (fun r hr => h r (List.mem_cons_of_mem _ hr))]
theorem putP_new : ∀ (a : List PR) (k : KK) (d : DD), (∀ q ∈ a, q.k ≠ k) → putP k d a = a ++ [⟨k, d⟩]
  | [], k, d, _ => rfl
  | q :: a, k, d, h => by
    have h1 := h q (List.mem_cons_self ..)
    simp [putP, h1, putP_new a k d (fun r hr => h r (List.mem_cons_of_mem _ hr))]
theorem delP_none : ∀ (a : List PR) (k : KK), (∀ q ∈ a, q.k ≠ k) → delP k a = none
  | [], k, _ => rfl
  | q :: a, k, h => by
    have h1 := h q (List.mem_cons_self ..)
    simp [delP, h1, delP_none a k (fun r hr => h r (List.mem_cons_of_mem _ hr))]
end Go.Proofs.Ytcflglloopgieaa
