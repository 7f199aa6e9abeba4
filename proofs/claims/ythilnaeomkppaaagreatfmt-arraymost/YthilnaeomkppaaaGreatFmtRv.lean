import Derived.Test.YthilnaeomkppaaaGreatFmtCards
import Derived.Test.YthilnaeomkppaaaGreatFmtTie
import Derived.Stop.JoinedTold
import Derived.SevenTiedAt
set_option linter.all false
namespace Go.Proofs.YthilnaeomkppaaaGreatFmt.arrayMost
theorem k_main : Tryz.pinned.checked.prog.mainIs = some (true, "351e770e85da7a1c9c5059a77cc64ad231eb84356eab7cdfdce657f130ad918b".toList) := by kernel_rfl
theorem k_looks : true = Tryz.pinned.checked.prog.looks [] := by kernel_rfl
theorem k_fun : (Tryz.f3.params.toList.all fun t => !Tryz.pinned.checked.prog.wantsStandIn t) = true := by kernel_rfl
theorem k_goes : false = Rows.arrayMostRow.goesBy Tryz.pinned.checked.prog := by kernel_rfl
theorem k_enter : Tryz.pinned.checked.prog.mayEnter = true := by kernel_rfl
theorem k_res : (Tryz.f3.resultTypes.toList.all fun t => Tryz.pinned.checked.prog.readableRec t && decide (t < Tryz.pinned.checked.prog.types.size)) = true := by kernel_rfl
theorem k_heard : Tryz.pinned.checked.prog.stopsHeard = true := by kernel_rfl
theorem k_io : Rows.arrayMostRow.ifacesOut = Tryz.f3.resultTypes.toList.any (Tryz.pinned.checked.prog.ifacesRec ·) := by kernel_rfl
theorem k_loo : Rows.arrayMostRow.loopsOut = Tryz.f3.resultTypes.toList.any (Tryz.pinned.checked.prog.loopsFrom ·) := by kernel_rfl
theorem k_kinds : Rows.arrayMostRow.kinds = (if Rows.arrayMostRow.domain.isEmpty then [] else Tryz.f3.params.toList.map fun t => match Tryz.pinned.checked.prog.underlying t with | some (.int k) => some k | _ => none) := by kernel_rfl
theorem k_pin : Rows.arrayMostRow.pinned = Rows.arrayMostRow.pinnedBy := by kernel_rfl
theorem k_keys : Rows.arrayMostRow.plainKeys = Tryz.pinned.checked.prog.plainKeys := by kernel_rfl
theorem k_lift : Rows.arrayMostRow.lifted = Tryz.pinned.checked.prog.liftsFinal := by kernel_rfl
theorem k_make : Tryz.pinned.checked.prog.make = some Rows.arrayMostRow.make := by kernel_rfl
theorem k_v1 : Rows.arrayMostRow.veiled = (Tryz.f3.params.toList ++ (OpenSpec.ofChange Rows.arrayMostSpec).bare.plain.varTypes Tryz.pinned.checked.prog ++ Tryz.f3.resultTypes.toList).any (Tryz.pinned.checked.prog.veiledRec ·) := by kernel_rfl
theorem k_v2 : Rows.arrayMostRow.veiledFits Tryz.pinned.checked.prog Tryz.f3.params.toList (Tryz.f3.params.toList ++ (OpenSpec.ofChange Rows.arrayMostSpec).bare.plain.varTypes Tryz.pinned.checked.prog ++ Tryz.f3.resultTypes.toList) = true := by kernel_rfl
theorem k_inst : Tryz.f3.isInstance Tryz.pinned.checked.prog Rows.arrayMostRow.origin Rows.arrayMostRow.targs := of_decide_eq_true (by kernel_rfl)
theorem k_wrap : Tryz.f3.isWrapper Tryz.pinned.checked.prog Rows.arrayMostRow.wrapper Rows.arrayMostRow.mainSum := by
  unfold Func.isWrapper
  rw [if_neg (of_decide_eq_false (by kernel_rfl))]
  exact ⟨rfl, rfl⟩
end Go.Proofs.YthilnaeomkppaaaGreatFmt.arrayMost
