import Derived.Test.YtmpdhmdmfmgamaaDoorVj
import Derived.Deep.QuietTactic
import Derived.BigQuiet
namespace Go.Proofs.YtmpdhmdmfmgamaaDoor
open Go.RowKit FM
attribute [local go_sem] bits_run run_store_float
end Go.Proofs.YtmpdhmdmfmgamaaDoor
