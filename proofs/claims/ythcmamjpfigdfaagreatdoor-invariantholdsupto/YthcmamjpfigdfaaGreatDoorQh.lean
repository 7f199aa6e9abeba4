import Derived.Test.YthcmamjpfigdfaaGreatDoorQd
import Derived.RangeFuncNested
import Derived.RangeFuncBound
import Derived.RangeFuncCalls
import Derived.RangeFuncLeaves
import Derived.RangeFuncBox
import Derived.Shelf.Abstract
import Derived.Shelf.RegionOpen
import Derived.OwnWalkIn
import Derived.TacticsInMore
import Derived.LoopNIn
import Derived.LoopIn
import Derived.Maps.AppendAt
import Derived.Laws.BytesArg
import Derived.Laws.IdiomStrings
import Derived.Deep.AppendLies
set_option linter.all false
namespace Go.Proofs.YthcmamjpfigdfaaGreatDoor
set_option maxRecDepth 100000
set_option maxHeartbeats 0
section
open Go.RowKit Go.Shelf
attribute [local go_sem] Oper.semAt_some
abbrev CP:={c:Nat // c<=1114111}
def bytes (cs:List CP):List Nat:=(cs.map (·.1)).flatMap M.E

theorem Zbu {w:World} (h:Lib.Utf8Tabs 1 2 w):3<=w.heap.size:=by
 have:=(h.2 0 (by omega)).1
 rcases Nat.lt_or_ge 2 w.heap.size with h'|h'
 ·omega
 ·simp[World.cell?,Array.getElem?_eq_none h'] at this
theorem ZcV {B:Nat} {w w':World} (h:Lib.Utf8Tabs 1 2 w) (hB:3<=B) (hb:Below B w w'):Lib.Utf8Tabs 1 2 w':=
 ⟨fun c hc=>(hb.cell (p:=⟨1,c,none⟩) (by show 1<B;omega)).trans (h.1 c hc),fun i hi=>⟨(hb.cell (p:=⟨2,2 * i,none⟩) (by show 2<B;omega)).trans (h.2 i hi).1,(hb.cell (p:=⟨2,2 * i+1,none⟩) (by show 2<B;omega)).trans (h.2 i hi).2⟩⟩
theorem Eg {w w':World} (h:Below w.heap.size w w'):w.grownBy w' none:=⟨h.os,h.tape,h.output,h.size,fun k hk _=>h.block k hk⟩

end
section
open Go.RowKit Go.Shelf
def Reads (w:World) (v:Value) (l:List Nat):Prop:=
 (∃A c,v= .slice A 0 c/\l= [])∨ ∃b off cap,v= .slice (some ⟨b,off,none⟩) l.length cap/\b<w.heap.size/\ ∀i,i<l.length->w.cell? ⟨b,off+i,none⟩=some (.int .u16 (l.getD i 0:Nat))
