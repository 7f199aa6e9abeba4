import Derived.Test.YthcmamjpfigdfaaGreatDoorQm
import Derived.Laws.StructEq
set_option linter.all false
namespace Go.Proofs.YthcmamjpfigdfaaGreatDoor
set_option maxRecDepth 100000
set_option maxHeartbeats 0
section
open Go Go.Proofs Go.RowKit
theorem Xq {r s:Bool} {p:Sem Next} (h:r=s) (hy: ∀w,p.run Tryz.prog w= .ok (.value (.bool r)) w): ∀w,p.run Tryz.prog w= .ok (.value (.bool s)) w:=h▸hy
def goodK (k:KK):Bool:=(Rh k.s k.n).good
theorem Zdu (k:KK):goodK k=if k.n=0 then decide (k.s.size<=1048576) && vS k.s else decide (1<=k.n) && decide (k.n<=65536) && k.s.toList.isEmpty:=by
 unfold goodK Rh
 by_cases h:k.n=0
 ·rw[if_pos h,if_pos h]
  simp[VV.good,Ml,inG,Zbc,ZaL,vS]
 ·rw[if_neg h,if_neg h]
  simp[VV.good,Ml,inG,Zbc]
  cases k.s.toList.isEmpty<;>simp
theorem ZaG {k:KK} (h:goodK k=true):k.s.size<=1048576:=Zgi h
theorem Zft {k:KK} (h:goodK k=true):0<=k.n/\k.n<=65536:=by
 rw[Zdu] at h
 by_cases hn:k.n=0
 ·omega
 ·rw[if_neg hn] at h
  simp at h
  omega
theorem subI (x y:Int) (hx: -1099511627776<=x/\x<=1099511627776) (hy: -1099511627776<=y/\y<=1099511627776) (w:World):(binOp .sub 3 (.int .i64 x) (.int .i64 y)).run Tryz.prog w= .ok (.int .i64 (x - y)) w:=by
 have e:IntKind.i64.wrap (x - y)=x - y:=by
  rw[IntKind.wrap_i64]
  omega
 simp[binOp,go_sem,e]
theorem kd_range (s:ByteArray) (n:Int):0<=Zbj s n/\Zbj s n<=2:=by
 unfold Zbj
 split
 ·split<;>omega
 ·omega
theorem kn_le (s:ByteArray) (n:Int):Zcm s n<=4294967294:=by
 unfold Zcm
 split
 ·cases h:Qa (Dq s) with
  |none=>simp
  |some m=>simpa using Zfm _ _ h
 ·omega
theorem all_take {l:List KK} {j:Nat} (h:j<l.length):(l.take (j+1)).all goodK=((l.take j).all goodK && goodK l[j]):=by
 rw[List.take_succ_eq_append_getElem h,List.all_append]
 simp
theorem all_not {l:List KK} {j:Nat} (h:j<l.length) (hg:goodK l[j]=false):l.all goodK=false:=by
 rw[List.all_eq_false]
 exact⟨l[j],List.getElem_mem h,by rw[hg];decide⟩
