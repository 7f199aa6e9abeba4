import Derived.Test.YthjnflilfjcgiaaGreatFmtRv
import Derived.Test.YthjnflilfjcgiaaGreatFmtRw
set_option linter.all false
namespace Go.Proofs.YthjnflilfjcgiaaGreatFmt
set_option maxRecDepth 100000
set_option maxHeartbeats 0
section
open Go Go.Proofs Go.Maps Go.RowKit FM
theorem law_past (x:Nat) (v:VV) (w:World) (h6:6<=w.heap.size) (hT:Tabs w) (hx:x<2^64) (hv:v.x<2^64):Calls Tryz.prog 4 #[.float .f64 x,v.agg] w fun e w'=>e= .returned (.bool true)/\Below w.heap.size w w':=by
 by_cases hn: ∃k,IsL x k
 ·obtain⟨k,hk⟩:=hn
  exact ZcV x v w h6 hT hx hv k hk
 ·exact past_bad x v w h6 hT hx hv hn
end
section
open Go.WideShapes Go.ChangeShapes Go Go.Proofs Go.Maps Go.RowKit FM
theorem open_flt {H:Type} {enc:TypeId×Value->H} {P:Program} {W:World} {r:Reach} {b0 base:Nat} {sp:Nat->Bool} {held:Bool} {t:TypeId} {v:Value} {d:DataW H} {p:List MemPlace} (ht:P.underlying t=some (.float .f64)) (hval:Value.okWide P W r b0 t v) (h:DataW.Trod enc P W base sp held t v d p): ∃b,v= .float .f64 b/\b<2^64:=by
 obtain⟨b,rfl⟩:=okWide_float ht hval
 obtain⟨fuel,hf⟩:=h
 obtain⟨b',hc,hb, -⟩:=Vs ht hf
 simp at hc
 subst hc
 exact⟨b,rfl,hb⟩
theorem open_val {H:Type} {enc:TypeId×Value->H} {W:World} {v:Value} {d:DataW H} {p:List MemPlace} {r:Reach} {b0:Nat} (hval:Value.okWide Tryz.prog W r b0 35 v) (h:DataW.Trod enc Tryz.prog W 0 (fun _=>true) true 35 v d p): ∃u:VV,v=u.agg/\u.x<2^64:=by
 obtain⟨cs,rfl,hsz⟩:=okWide_struct Tryz.underlying35 hval
 obtain⟨fuel,hf⟩:=h
 obtain⟨u,hc,h2⟩:=Zbj hf
 refine⟨u, ?_,h2⟩
 have hc':cs.toList=u.cs:=hc
 have:cs=u.cs.toArray:=Array.toList_inj.1 (by simpa using hc')
 rw[this,Kg]
