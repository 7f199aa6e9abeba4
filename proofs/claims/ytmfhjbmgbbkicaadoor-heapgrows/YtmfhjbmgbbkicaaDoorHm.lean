import Derived.Test.YtmfhjbmgbbkicaaDoorHl
namespace Go.Proofs.YtmfhjbmgbbkicaaDoor
open Go Go.Proofs Go.Maps Go.RowKit FM
set_option linter.unusedSimpArgs false
set_option linter.unusedVariables false
set_option maxHeartbeats 1000000
def wcs (o : OB) : List Value := shc o.p none 0
theorem wcs_length (o : OB) : (wcs o).length = 8 := rfl
/-- The heap, and the row of the shapes that it must have. -/
structure LI (w X : World) (h : HP) (cv : Value) (xs : List OB) : Prop where
  is : h.Is X w.heap.size
  own : X.ownsRow w.heap.size 38 8 cv xs.length (xs.flatMap wcs)
  sep : ∀ g, cv.ownBlock = some g → g ∉ h.blocks
  fr : Fr w X []
theorem LI.on {w X Y : World} {h : HP} {cv : Value} {xs : List OB} (L : LI w X h cv xs) (hf : Fr X Y []) : LI w Y h cv xs := ⟨L.is.fr hf, own_fr L.own hf, L.sep, L.fr.trans hf (by simp)⟩
theorem LI.make {w X Y : World} {h : HP} {cv gv : Value} {xs : List OB} {o : OB} (L : LI w X h cv xs) (hI : HP.Is Y w.heap.size ⟨h.b, gv, h.l ++ [o], h.cap, h.fuel, h.depth⟩) (hf : Fr X Y (h.b :: h.gv.ownBlock.toList)) (hg : ∀ g, gv.ownBlock = some g → h.gv.ownBlock = some g ∨ X.heap.size ≤ g) (ho : ∀ b ∈ o.blocks, X.heap.size ≤ b) :
    LI w Y ⟨h.b, gv, h.l ++ [o], h.cap, h.fuel, h.depth⟩ cv xs := by
  refine ⟨hI, own_blk L.own (fun g hg2 => ?_), fun g hg2 hm => ?_, AddOk.fr L.fr L.is hf⟩
  · refine hf.block g (World.ownsRow.lt L.own g hg2).2 (fun hm => L.sep g hg2 ?_)
    simp only [HP.blocks, List.mem_cons, List.mem_append] at hm ⊢
    exact hm.imp id .inl
  · have hlt := (World.ownsRow.lt L.own g hg2).2
    refine L.sep g hg2 ?_
    simp only [HP.blocks, HP.obs, List.flatMap_append, List.mem_cons, List.mem_append] at hm ⊢
    rcases hm with h1 | h1 | h1 | h1
    · exact .inl h1
    · rcases hg g (Option.mem_toList.1 h1) with h2 | h2
      · exact .inr (.inl (Option.mem_toList.2 h2))
      · omega
    · exact .inr (.inr h1)
    · have := ho g (by simpa using h1)
      omega
theorem LI.app {w X Y : World} {h : HP} {cv cv2 : Value} {xs : List OB} {o : OB} (L : LI w X h cv xs) (hown : Y.ownsRow w.heap.size 38 8 cv2 (xs.length + 1) (xs.flatMap wcs ++ wcs o)) (hg : X.grownBy Y cv.ownBlock) (hF : Fresh X cv cv2) : LI w Y h cv2 (xs ++ [o]) := by
  have hgY : Fr X Y cv.ownBlock.toList := Fr.grown hg
  refine ⟨L.is.block (fun b hb => hgY.block b (L.is.lt b hb) (fun hm => L.sep b (Option.mem_toList.1 hm) hb)), ?_, fun g hg2 hm => ?_, L.fr.trans hgY (fun b hb => .inr (World.ownsRow.lt L.own b (Option.mem_toList.1 hb)).1)⟩
  · rw [List.length_append, List.flatMap_append]
    simpa using hown
  · rcases hF with h3 | h3
    · exact L.sep g (h3 ▸ hg2) hm
    · rw [h3] at hg2
      have e : X.heap.size = g := Option.some.inj hg2
      have := L.is.lt g hm
      omega
theorem ex_gtr {o : Oper} {a : Act} {w : World} {x y : Operand} {n m : Int} (b : Bool) (ho : o.op = .binOp .gtr 3 x y 3) (hx : a.eval x = .int .i64 n) (hc : a.eval y = .int .i64 m) (h : decide (m < n) = b) : (execOp a.eval o).run Tryd.prog w = .ok (.value (.bool b)) w := by
  subst h
  unfold execOp
  simp only [ho, hx, hc]
  simp [go_sem, eqGuard]
theorem ex_b38 {o : Oper} {a : Act} {w : World} {x1 : Operand} (p : VV) (ho : o.op = .build 38 #[(0, .const (.int .i64 1)), (1, x1), (2, .const (.bool true))]) (h1 : a.eval x1 = .agg p.cs.toArray) : (execOp a.eval o).run Tryd.prog w = .ok (.value (.agg (shc p none 0).toArray)) w := by
  have e : (Instr.build 38 #[(0, .int .i64 1), (1, .agg p.cs.toArray), (2, .bool true)]).run Tryd.prog w = .ok (.agg (shc p none 0).toArray) w := by kernel_rfl
  unfold execOp
  simp only [ho]
  simp [Act.eval] at h1
  simp [Act.eval, h1, e]
theorem map_get {es : List SE} {l : List OB} (h : es.map SE.p = l.map OB.p) {k : Nat} {e : SE} {o : OB} (he : es[k]? = some e) (ho : l[k]? = some o) : e.p = o.p := by
  have h1 : (es.map SE.p)[k]? = (l.map OB.p)[k]? := by rw [h]
  rw [List.getElem?_map, List.getElem?_map, he, ho] at h1
  exact Option.some.inj h1
end Go.Proofs.YtmfhjbmgbbkicaaDoor
