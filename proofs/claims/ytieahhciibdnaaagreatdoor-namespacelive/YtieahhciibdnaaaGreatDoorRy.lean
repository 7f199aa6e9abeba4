import Derived.Test.YtieahhciibdnaaaGreatDoorRx
set_option linter.all false
namespace Go.Proofs.YtieahhciibdnaaaGreatDoor
set_option maxRecDepth 100000
set_option maxHeartbeats 0
section
open Go Go.Proofs Go.Maps Go.RowKit FM
attribute [local go_sem] Ak Ae Aq Dl Dk Bl Af Aj Ad Bj Et Es
theorem law_live (A PA:Option Addr) (c pc:Nat) (ns:List ByteArray) (ps:List PR) (r:VV) (w:World) (h6:6<=w.heap.size) (hT:Tabs w) (hN:ReadsN w A ns) (hP:Pj w PA ps) (hFD: ∀p∈ps,FD p.d) (hOK: ∀p∈ps,OkK p.k) (hz1:ns.length<=9223372036854775806) (hz2:ps.length<=9223372036854775806):Calls Tryz.prog 3 #[.slice A ns.length c, .slice PA ps.length pc,r.agg] w fun e w'=>e= .returned (.bool true)/\Below w.heap.size w w':=by
 by_cases hl:ns.length<=60
 ·by_cases hl2:ps.length<=60
  ·by_cases hE:Ko ns=0
   ·exact law_main A PA c pc ns ps r w h6 hT hN hP hl hl2 hFD hOK hE
   ·cases hg:r.good
    ·exact Zbv A PA c pc ns ps r w h6 hT hN hP hg hl hl2 hE
    ·by_cases hk:r.k=7
     ·exact Zbu A PA c pc ns ps r w h6 hT hN hP hg hk hl hl2 hE
     ·exact Zaz A PA c pc ns ps r w h6 hT hN hP hg hk hl hl2 hE
  ·exact Zbt A PA c pc ns ps r w h6 hT hN hP (.inr ⟨hl,by omega⟩) hz1 hz2
 ·exact Zbt A PA c pc ns ps r w h6 hT hN hP (.inl (by omega)) hz1 hz2
