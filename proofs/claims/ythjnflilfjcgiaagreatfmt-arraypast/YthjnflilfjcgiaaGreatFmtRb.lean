import Derived.Test.YthjnflilfjcgiaaGreatFmtQz
set_option linter.all false
namespace Go.Proofs.YthjnflilfjcgiaaGreatFmt
set_option maxRecDepth 100000
set_option maxHeartbeats 0
section
open Go Go.Proofs Go.Maps Go.RowKit FM
attribute [local go_sem] Ad Ag Ak Df Bi Ae Bg
theorem Zab {o:Oper} {a:Act} {w:World} {x y:Operand} {n m:Int} (ho:o.op= .binOp .neq 3 x y 3) (hx:a.eval x= .int .i64 n) (hc:a.eval y= .int .i64 m) (h:n≠m):(execOp a.eval o).run Tryz.prog w= .ok (.value (.bool true)) w:=by
 unfold execOp
 simp only[ho,hx,hc]
 simp[go_sem,eqGuard,h]
theorem ex_neY {o:Oper} {a:Act} {w:World} {x y:Operand} {n m:Int} (ho:o.op= .binOp .neq 3 x y 3) (hx:a.eval x= .int .i64 n) (hc:a.eval y= .int .i64 m) (h:n=m):(execOp a.eval o).run Tryz.prog w= .ok (.value (.bool false)) w:=by
 unfold execOp
 simp only[ho,hx,hc]
 simp[go_sem,eqGuard,h]
