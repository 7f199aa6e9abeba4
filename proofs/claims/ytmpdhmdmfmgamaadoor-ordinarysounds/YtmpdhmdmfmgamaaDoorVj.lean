import Derived.Test.YtmpdhmdmfmgamaaDoorVi
namespace Go.Proofs.YtmpdhmdmfmgamaaDoor
open Go.RowKit FM
attribute [local go_sem] bits_run run_store_float
def okE (g : Bool) (r : Bool) : Value := .tuple #[.bool (g && r), .int .i64 (errB g)]
end Go.Proofs.YtmpdhmdmfmgamaaDoor
