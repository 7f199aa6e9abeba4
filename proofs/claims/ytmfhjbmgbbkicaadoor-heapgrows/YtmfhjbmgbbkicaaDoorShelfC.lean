/-
  THE SHELF's CONTRACTS for cmp.Compare at int and for internal/stringslite.Clone, laid at this program in plain words (by lay-plain.mjs).
-/
import Derived.Shelf.Small.Wraps
import Derived.Shelf.LaysM
import Derived.Shelf.Strconv.Clone
import Derived.Test.YtmfhjbmgbbkicaaDoorProg
namespace Go.Proofs
open Go.Shelf
end Go.Proofs
