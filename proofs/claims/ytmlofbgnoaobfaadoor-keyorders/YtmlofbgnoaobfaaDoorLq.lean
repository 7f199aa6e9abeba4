import Derived.Test.YtmlofbgnoaobfaaDoorLn
import Derived.Test.YtmlofbgnoaobfaaDoorLp
namespace Go.Proofs.YtmlofbgnoaobfaaDoor
open Go Go.Proofs Go.RowKit
set_option linter.unusedSimpArgs false
set_option linter.unusedVariables false
theorem law_keys (A : Option Addr) (cap : Nat) (a b : KK) (l : List KK) (w : World) (hT : Lib.Utf8Tabs 2 3 w) (htab : TabP w) (hr : ReadsK w (.slice A l.length cap) l) (hc0 : ∀ c, Value.slice A l.length cap = .slice none 0 c → c = 0) : Calls Tryd.prog 3 #[a.agg, b.agg, .slice A l.length cap] w fun e w' => e = .returned (.bool true) ∧ Below w.heap.size w w' := by
  cases hga : goodK a <;> cases hgb : goodK b <;> (by_cases hlen : l.length ≤ 3000)
  · cases hall : l.all goodK
    · exact law_ff_bad A cap a b l w hT htab hr hc0 hga hgb hlen hall
    · exact law_ff_good A cap a b l w hT htab hr hc0 hga hgb hlen hall
  · exact law_ff_long A cap a b l w hT htab hr hc0 hga hgb (by omega)
  · cases hall : l.all goodK
    · exact law_ft_bad A cap a b l w hT htab hr hc0 hga hgb hlen hall
    · exact law_ft_good A cap a b l w hT htab hr hc0 hga hgb hlen hall
  · exact law_ft_long A cap a b l w hT htab hr hc0 hga hgb (by omega)
  · cases hall : l.all goodK
    · exact law_tf_bad A cap a b l w hT htab hr hc0 hga hgb hlen hall
    · exact law_tf_good A cap a b l w hT htab hr hc0 hga hgb hlen hall
  · exact law_tf_long A cap a b l w hT htab hr hc0 hga hgb (by omega)
  · cases hall : l.all goodK
    · exact law_tt_bad A cap a b l w hT htab hr hc0 hga hgb hlen hall
    · exact law_tt_good A cap a b l w hT htab hr hc0 hga hgb hlen hall
  · exact law_tt_long A cap a b l w hT htab hr hc0 hga hgb (by omega)
end Go.Proofs.YtmlofbgnoaobfaaDoor
