import Derived.Test.YthcmamjpfigdfaaGreatDoorQh
import Derived.Deep.RegionHeld3
set_option linter.all false
namespace Go.Proofs.YthcmamjpfigdfaaGreatDoor
set_option maxRecDepth 100000
set_option maxHeartbeats 0
section
open Go.RowKit Go.Shelf
theorem toList_inj {s t:ByteArray} (h:s.toList=t.toList):s=t:=by
 rw[Lib.toList_data,Lib.toList_data] at h
 cases s;cases t
 simp only[ByteArray.mk.injEq]
 exact Array.toList_inj.1 h
def vS (s:ByteArray):Bool:=M.valid false (Dq s)
