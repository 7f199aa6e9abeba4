import Derived.Test.YtfnohipnenkhoaaGreatDoorRu
set_option linter.all false
namespace Go.Proofs.YtfnohipnenkhoaaGreatDoor
set_option maxRecDepth 100000
set_option maxHeartbeats 0
section
open Go Go.Proofs Go.Maps Go.RowKit FM Tryz
attribute [local go_sem] Ao Am Au Ah Ap Ai Ax Dn Dm Bq Aj Bp
theorem act9_h (h:HP) (N:Nat) (t:AT) (w:World) (H:h.Is w) (G:h.Gd N) (hN:N<=90000) (hT:Tabs w) (K:t.Ok) (hK:t.Known) (hz:t.ds.length<=1000000) (hR: ∀X,Fr w X h.blocks->t.Reads X):Calls prog 10 #[.pointer (some ⟨h.b,0,none⟩), .agg (actC t).toArray] w (ZdD h N t w):=by
 by_cases hW:t.W=91
 ·exact act9_91 h N t w H G hN hT K hW hz hR
 ·exact act9_7 h N t w H G hN hT K hK hW hR
def refB (f:Int):Bool:=decide (f=4)||(decide (f=5)||(decide (f=8)||decide (f=6)))
theorem Zev (n:AN) (w:World):Calls prog 11 #[.agg (Bj n).toArray] w fun e w'=>e= .returned (.bool (refB n.f))/\Below w.heap.size w w':=by
 have SS:=Ab (Sy.nil w [])
 unfold refB
 by_cases h4:n.f=4
 ·have H4:decide (n.f=4)=true:=decide_eq_true h4
  rw[H4]
  simp only[Bool.true_or,Bool.or_true,Bool.false_or]
  clear h4
  go_enter func11,ntmps11
  go_wp2_with (first|go_skip|((with_reducible show wpList ..);first|(refine zB 45 (Bj n) (by rfl) rfl rfl rfl SS ?_;clear SS;intro Xa Ba SS;simp only[nn])|(refine z1 3 isAgg3 0 (by rfl) rfl rfl SS rfl rfl ?_;simp only[nn])|(refine rd rfl (Dk true rfl rfl rfl H4) ?_;simp only[nn])))
  go_ret
  exact⟨rfl,(Aa SS).fr.below⟩
 ·have H4:decide (n.f=4)=false:=decide_eq_false h4
  rw[H4]
  clear h4
  by_cases h5:n.f=5
  ·have H5:decide (n.f=5)=true:=decide_eq_true h5
   rw[H5]
   simp only[Bool.true_or,Bool.or_true,Bool.false_or]
   clear h5
   go_enter func11,ntmps11
   go_wp2_with (first|go_skip|((with_reducible show wpList ..);first|(refine zB 45 (Bj n) (by rfl) rfl rfl rfl SS ?_;clear SS;intro Xa Ba SS;simp only[nn])|(refine z1 3 isAgg3 0 (by rfl) rfl rfl SS rfl rfl ?_;simp only[nn])|(refine rd rfl (Dk false rfl rfl rfl H4) ?_;simp only[nn])|(refine rd rfl (Dk true rfl rfl rfl H5) ?_;simp only[nn])))
   go_ret
   exact⟨rfl,(Aa SS).fr.below⟩
  ·have H5:decide (n.f=5)=false:=decide_eq_false h5
   rw[H5]
   clear h5
   by_cases h8:n.f=8
   ·have H8:decide (n.f=8)=true:=decide_eq_true h8
    rw[H8]
    simp only[Bool.true_or,Bool.or_true,Bool.false_or]
    clear h8
    go_enter func11,ntmps11
    go_wp2_with (first|go_skip|((with_reducible show wpList ..);first|(refine zB 45 (Bj n) (by rfl) rfl rfl rfl SS ?_;clear SS;intro Xa Ba SS;simp only[nn])|(refine z1 3 isAgg3 0 (by rfl) rfl rfl SS rfl rfl ?_;simp only[nn])|(refine rd rfl (Dk false rfl rfl rfl H4) ?_;simp only[nn])|(refine rd rfl (Dk false rfl rfl rfl H5) ?_;simp only[nn])|(refine rd rfl (Dk true rfl rfl rfl H8) ?_;simp only[nn])))
    go_ret
    exact⟨rfl,(Aa SS).fr.below⟩
   ·have H8:decide (n.f=8)=false:=decide_eq_false h8
    rw[H8]
    clear h8
    by_cases h6:n.f=6
    ·have H6:decide (n.f=6)=true:=decide_eq_true h6
     rw[H6]
     simp only[Bool.true_or,Bool.or_true,Bool.false_or]
     clear h6
     go_enter func11,ntmps11
     go_wp2_with (first|go_skip|((with_reducible show wpList ..);first|(refine zB 45 (Bj n) (by rfl) rfl rfl rfl SS ?_;clear SS;intro Xa Ba SS;simp only[nn])|(refine z1 3 isAgg3 0 (by rfl) rfl rfl SS rfl rfl ?_;simp only[nn])|(refine rd rfl (Dk false rfl rfl rfl H4) ?_;simp only[nn])|(refine rd rfl (Dk false rfl rfl rfl H5) ?_;simp only[nn])|(refine rd rfl (Dk false rfl rfl rfl H8) ?_;simp only[nn])|(refine rd rfl (Dk true rfl rfl rfl H6) ?_;simp only[nn])))
     go_ret
     exact⟨rfl,(Aa SS).fr.below⟩
    ·have H6:decide (n.f=6)=false:=decide_eq_false h6
     rw[H6]
     clear h6
     simp only[Bool.true_or,Bool.or_true,Bool.false_or,Bool.or_false]
     go_enter func11,ntmps11
     go_wp2_with (first|go_skip|((with_reducible show wpList ..);first|(refine zB 45 (Bj n) (by rfl) rfl rfl rfl SS ?_;clear SS;intro Xa Ba SS;simp only[nn])|(refine z1 3 isAgg3 0 (by rfl) rfl rfl SS rfl rfl ?_;simp only[nn])|(refine rd rfl (Dk false rfl rfl rfl H4) ?_;simp only[nn])|(refine rd rfl (Dk false rfl rfl rfl H5) ?_;simp only[nn])|(refine rd rfl (Dk false rfl rfl rfl H8) ?_;simp only[nn])|(refine rd rfl (Dk false rfl rfl rfl H6) ?_;simp only[nn])))
     go_ret
     exact⟨rfl,(Aa SS).fr.below⟩
end
section
open Go Go.Proofs Go.Maps Go.RowKit FM
attribute [local go_sem] Ao Am Au Ah Ap Ai Ax Dn Dm Bq Aj Bp
def Ma:AT:=⟨0,0,0,0,⟨⟨#[]⟩,0⟩,Av,Av,Ak,none,0, [],Av,0,none,0, [], .slice none 0 0, .bool false, .slice none 0 0, .slice none 0 0, .string ⟨#[]⟩, .slice none 0 0, .slice none 0 0, .int .i64 0, .bool false, .float .f64 0, .string ⟨#[]⟩, .int .i64 0, .int .i64 0, .int .i64 0, .int .i64 0, .slice none 0 0, .slice none 0 0⟩
theorem Jn:(Tryz.prog.info? 59).map (fun i=>(i.zero,i.size,i.bytes))=some (some (.agg (actC Ma).toArray),59,688):=by kernel_rfl
theorem Zat (t:AT):(actC t).length=59:=rfl
theorem Zav:Tryz.prog.underlying 22=some (.slice (Tryz.prog.elem 22)):=by kernel_rfl
theorem ZaB (w:World):(sizeOf (Tryz.prog.elem 22)).run Tryz.prog w= .ok 59 w:=by kernel_rfl
def Nw (c f d:Int) (v:Value):List Value:= [.int .i64 c, .int .i64 f, .int .i64 d,v]
def knB (t:AT):Bool:=decide (t.W=71)||(decide (t.W=72)||(decide (t.W=91)||(decide (t.W=0) && (decide (1<=t.M) && decide (t.M<=11)))))
theorem ZeF {t:AT} (h:knB t=true):t.Known:=by
 simp only[knB,Bool.or_eq_true,Bool.and_eq_true,decide_eq_true_eq] at h
 exact h
theorem ex_leq {o:Oper} {a:Act} {w:World} {x y:Operand} {n m:Int} (b:Bool) (ho:o.op= .binOp .leq 3 x y 3) (hx:a.eval x= .int .i64 n) (hc:a.eval y= .int .i64 m) (h:decide (n<=m)=b):(execOp a.eval o).run Tryz.prog w= .ok (.value (.bool b)) w:=by
 subst h
 unfold execOp
 simp only[ho,hx,hc]
 simp[go_sem,eqGuard]
