import Derived.Test.YthilnaeomkppaaaGreatFmtCards
import Derived.Test.YthilnaeomkppaaaGreatFmtTie
import Derived.Stop.JoinedTold
import Derived.SevenTiedAt
set_option linter.all false
namespace Go.Proofs.YthilnaeomkppaaaGreatFmt.arrayMost
theorem stops : Tryz.pinned.checked.prog.stops = ["fmt.Sprintf"] := by kernel_rfl
theorem stopKnobs : Tryz.pinned.checked.prog.stopKnobs = [] := by kernel_rfl
theorem quiet (os : Os) : Stop.quiet Tryz.pinned.checked.prog os := by
  intro k hk
  rw [stopKnobs] at hk
  cases hk
theorem k_wf : Rows.arrayMostRow.wfByText (OpenSpec.ofChange Rows.arrayMostSpec) = true := by kernel_rfl
theorem k_maps : mapsRowed Tryz.pinned.checked.prog = true := by kernel_rfl
theorem k_tie : namedTie Tryz.pinned.checked.prog Rows.arrayMostRow.namedList (OpenSpec.ofChange Rows.arrayMostSpec).vars = true := by kernel_rfl
theorem k_fn : Tryz.pinned.checked.prog.funcNamed Rows.arrayMostRow.func = some 3 := by kernel_rfl
theorem k_read : (Tryz.f3.params.toList.all fun t => Tryz.pinned.checked.prog.readableRec t) = true := by kernel_rfl
theorem k_word : Tryz.pinned.checked.prog.envWorded = true := by kernel_rfl
theorem k_in : Rows.arrayMostRow.inPlace = Tryz.pinned.checked.prog.inPlace 3 := by kernel_rfl
theorem k_un : Rows.arrayMostRow.unfollowed = Tryz.pinned.checked.prog.unfollowed 3 := by kernel_rfl
theorem k_rec : Rows.arrayMostRow.recurses = Tryz.pinned.checked.prog.recurses 3 := by kernel_rfl
theorem k_named : Rows.arrayMostRow.named = Tryz.pinned.checked.prog.varsNamed 3 := by kernel_rfl
end Go.Proofs.YthilnaeomkppaaaGreatFmt.arrayMost
