import Derived.Test.YtfnohipnenkhoaaGreatDoorRu
set_option linter.all false
namespace Go.Proofs.YtfnohipnenkhoaaGreatDoor
set_option maxRecDepth 100000
set_option maxHeartbeats 0
section
open Go Go.Proofs Go.Maps Go.RowKit FM
attribute [local go_sem] Am Al Ar Ah Ao Ai Aw Do Dn Bq Aj Bo
theorem act9_h (h:HP) (N:Nat) (t:AT) (w:World) (H:h.Is w) (G:h.Gd N) (hN:N<=90000) (hT:Tabs w) (K:t.Ok) (hK:t.Known) (hz:t.ds.length<=1000000) (hR: ∀X,Fr w X h.blocks->t.Reads X):Calls Tryz.prog 10 #[.pointer (some ⟨h.b,0,none⟩), .agg (actC t).toArray] w (ZdS h N t w):=by
 by_cases hW:t.W=91
 ·exact act9_91 h N t w H G hN hT K hW hz hR
 ·exact act9_7 h N t w H G hN hT K hK hW hR
def Lo:AT:=⟨0,0,0,0,⟨⟨#[]⟩,0⟩,Av,Av,Ak,none,0, [],Av,0,none,0, [], .slice none 0 0, .bool false, .slice none 0 0, .slice none 0 0, .string ⟨#[]⟩, .slice none 0 0, .slice none 0 0, .int .i64 0, .bool false, .float .f64 0, .string ⟨#[]⟩, .int .i64 0, .int .i64 0, .int .i64 0, .int .i64 0, .slice none 0 0, .slice none 0 0⟩
theorem Jp:(Tryz.prog.info? 59).map (fun i=>(i.zero,i.size,i.bytes))=some (some (.agg (actC Lo).toArray),59,688):=by kernel_rfl
theorem ZaG (t:AT):(actC t).length=59:=rfl
theorem Zb5:Tryz.prog.underlying 22=some (.slice (Tryz.prog.elem 22)):=by kernel_rfl
theorem ZcA (w:World):(sizeOf (Tryz.prog.elem 22)).run Tryz.prog w= .ok 59 w:=by kernel_rfl
def Oh (c f d:Int) (v:Value):List Value:= [.int .i64 c, .int .i64 f, .int .i64 d,v]
def knB (t:AT):Bool:=decide (t.W=71)||(decide (t.W=72)||(decide (t.W=91)||(decide (t.W=0) && (decide (1<=t.M) && decide (t.M<=11)))))
theorem ZeT {t:AT} (h:knB t=true):t.Known:=by
 simp only[knB,Bool.or_eq_true,Bool.and_eq_true,decide_eq_true_eq] at h
 exact h
theorem ex_leq {o:Oper} {a:Act} {w:World} {x y:Operand} {n m:Int} (b:Bool) (ho:o.op= .binOp .leq 3 x y 3) (hx:a.eval x= .int .i64 n) (hc:a.eval y= .int .i64 m) (h:decide (n<=m)=b):(execOp a.eval o).run Tryz.prog w= .ok (.value (.bool b)) w:=by
 subst h
 unfold execOp
 simp only[ho,hx,hc]
 simp[go_sem,eqGuard]
