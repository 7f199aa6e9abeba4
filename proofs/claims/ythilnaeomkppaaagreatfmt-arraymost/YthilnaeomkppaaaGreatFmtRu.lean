import Derived.Test.YthilnaeomkppaaaGreatFmtCards
import Derived.Test.YthilnaeomkppaaaGreatFmtTie
import Derived.Stop.JoinedTold
import Derived.SevenTiedAt
set_option linter.all false
namespace Go.Proofs.YthilnaeomkppaaaGreatFmt.arrayMost
theorem k_mp : Rows.arrayMostRow.maps = (Tryz.f3.params.toList ++ (OpenSpec.ofChange Rows.arrayMostSpec).bare.plain.varTypes Tryz.pinned.checked.prog).any (Tryz.pinned.checked.prog.mapsRec ·) := by kernel_rfl
theorem k_if : Rows.arrayMostRow.ifaces = (Tryz.f3.params.toList ++ (OpenSpec.ofChange Rows.arrayMostSpec).bare.plain.varTypes Tryz.pinned.checked.prog).any (Tryz.pinned.checked.prog.ifacesRec ·) := by kernel_rfl
theorem k_mo : Rows.arrayMostRow.mapsOut = Tryz.pinned.checked.prog.mapsAmong Tryz.f3.resultTypes.toList := by kernel_rfl
theorem k_lo : Rows.arrayMostRow.loops = (Tryz.f3.params.toList ++ (OpenSpec.ofChange Rows.arrayMostSpec).bare.plain.varTypes Tryz.pinned.checked.prog).any (Tryz.pinned.checked.prog.loopsFrom ·) := by kernel_rfl
theorem k_wk : Rows.arrayMostRow.wideKeys = (Tryz.f3.params.toList ++ (OpenSpec.ofChange Rows.arrayMostSpec).bare.plain.varTypes Tryz.pinned.checked.prog ++ Tryz.f3.resultTypes.toList).any (Tryz.pinned.checked.prog.wideKeysFrom ·) := by kernel_rfl
theorem k_vars : ((OpenSpec.ofChange Rows.arrayMostSpec).vars.all fun n => Tryz.pinned.checked.prog.varReadable n) = true := by kernel_rfl
end Go.Proofs.YthilnaeomkppaaaGreatFmt.arrayMost
