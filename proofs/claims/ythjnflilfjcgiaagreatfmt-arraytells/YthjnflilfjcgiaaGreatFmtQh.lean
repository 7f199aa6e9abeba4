import Derived.Test.YthjnflilfjcgiaaGreatFmtQd
import Derived.RangeFuncNested
import Derived.RangeFuncBound
import Derived.RangeFuncCalls
import Derived.RangeFuncLeaves
import Derived.RangeFuncBox
import Derived.Shelf.Abstract
import Derived.Shelf.RegionOpen
import Derived.OwnWalkIn
import Derived.TacticsInMore
import Derived.LoopNIn
import Derived.LoopIn
import Derived.Maps.AppendAt
import Derived.Laws.BytesArg
import Derived.Laws.IdiomStrings
import Derived.Deep.AppendLies
import Derived.Deep.RegionHeld3
set_option linter.all false
namespace Go.Proofs.YthjnflilfjcgiaaGreatFmt
set_option maxRecDepth 100000
set_option maxHeartbeats 0
section
open Go.RowKit Go.Shelf
attribute [local go_sem] Oper.semAt_some
abbrev CP:={c:Nat // c<=1114111}
abbrev PT:={x:Nat×Nat // x.2<=1114111}
def encs (x:PT):Array Value:= #[.int .i64 (x.1.1:Nat), .int .i32 (x.1.2:Nat)]
def bytes (cs:List CP):List Nat:=(cs.map (·.1)).flatMap M.E

theorem tabs_size {w:World} (h:Lib.Utf8Tabs 4 5 w):6<=w.heap.size:=by
 have:=(h.2 0 (by omega)).1
 rcases Nat.lt_or_ge 5 w.heap.size with h'|h'
 ·omega
 ·simp[World.cell?,Array.getElem?_eq_none h'] at this
theorem tabs_belowB {B:Nat} {w w':World} (h:Lib.Utf8Tabs 4 5 w) (hB:6<=B) (hb:Below B w w'):Lib.Utf8Tabs 4 5 w':=
 ⟨fun c hc=>(hb.cell (p:=⟨4,c,none⟩) (by show 4<B;omega)).trans (h.1 c hc),fun i hi=>⟨(hb.cell (p:=⟨5,2 * i,none⟩) (by show 5<B;omega)).trans (h.2 i hi).1,(hb.cell (p:=⟨5,2 * i+1,none⟩) (by show 5<B;omega)).trans (h.2 i hi).2⟩⟩
theorem grown_of_below {w w':World} (h:Below w.heap.size w w'):w.grownBy w' none:=⟨h.os,h.tape,h.output,h.size,fun k hk _=>h.block k hk⟩

end
section
open Go.RowKit Go.Shelf
theorem toList_inj {s t:ByteArray} (h:s.toList=t.toList):s=t:=by
 rw[Lib.toList_data,Lib.toList_data] at h
 cases s;cases t
 simp only[ByteArray.mk.injEq]
 exact Array.toList_inj.1 h
def vS (s:ByteArray):Bool:=M.valid false (nums s)
