import Derived.Test.YtfefpbjkbmaicaaGreatDoorRh
set_option linter.all false
namespace Go.Proofs.YtfefpbjkbmaicaaGreatDoor
set_option maxRecDepth 100000
set_option maxHeartbeats 0
section
open Go Go.Proofs Go.Maps Go.RowKit FM Tryz
attribute [local go_sem] Av Ap Dv Du De Au Ao Az Dd Gu Gt
theorem ex_bhp {o:Oper} {a:Act} {w:World} {x1 x2 x3:Operand} (c f d:Int) (ho:o.op= .build 61 #[(1,x1),(2,x2),(3,x3)]) (h1:a.eval x1= .int .i64 c) (h2:a.eval x2= .int .i64 f) (h3:a.eval x3= .int .i64 d):(execOp a.eval o).run prog w= .ok (.value (.agg (hcs ⟨0, .slice none 0 0, [],c,f,d,0,noO,Rv⟩).toArray)) w:=by
 have e:(Instr.build 61 #[(1, .int .i64 c),(2, .int .i64 f),(3, .int .i64 d)]).run prog w= .ok (.agg (hcs ⟨0, .slice none 0 0, [],c,f,d,0,noO,Rv⟩).toArray) w:=by kernel_rfl
 unfold execOp
 simp only[ho,List.map_toArray,List.map_cons,List.map_nil,h1,h2,h3]
 simp[e]
def Mw (c f d:Int):Bool:=decide (c<0)||(decide (65536<c)||(decide (f<0)||(decide (d<1)||decide (256<d))))
def El (b:Nat) (c f d:Int):HP:=⟨b, .slice none 0 0, [],c,f,d,0,noO,Rv⟩
theorem new_is {w X:World} {B:Nat} {c f d:Int} (S:Sy w X [] [Al B (hcs ⟨0, .slice none 0 0, [],c,f,d,0,noO,Rv⟩)]) (h6:6<=w.heap.size):(El B c f d).Is X:=by
 have hB:=S.hold 0 rfl
 have hlo:w.heap.size<=B:=(S.lo _ (List.mem_cons_self ..) B (List.mem_singleton.2 rfl)).elim (fun h=>by cases h) id
 refine⟨fun o ho=> ?_, ?_,fun b hb=> ?_⟩
 ·rcases List.mem_cons.1 ho with rfl|ho
  ·exact⟨hB,by simp[hcs]⟩
  rcases List.mem_cons.1 ho with rfl|ho
  ·exact⟨rfl, .inl ⟨rfl,rfl⟩⟩
  rcases List.mem_cons.1 ho with rfl|ho
  ·exact trivial
  ·cases ho
 ·simp[HP.things,El,Ew,noO,Value.ownBlock]
 ·have:b=B:=by simpa [HP.blocks,HP.things,El,Ew,Al,noO,Value.ownBlock] using hb
  omega
theorem ZaU (B:Nat) (c f d:Int):(El B c f d).blocks= [B]:=by simp[HP.blocks,HP.things,El,Ew,Al,noO,Value.ownBlock]
def NewP (c f d:Int) (w:World) (e:Ending) (w':World):Prop:=(Mw c f d=true/\e= .returned (.tuple #[.pointer none, .int .i64 7])/\Below w.heap.size w w')∨(Mw c f d=false/\ ∃B,e= .returned (.tuple #[.pointer (some ⟨B,0,none⟩), .int .i64 0])/\(El B c f d).Is w'/\w.heap.size<=B/\Below w.heap.size w w')
theorem new_h (c f d:Int) (w:World) (h6:6<=w.heap.size):Calls prog 5 #[.int .i64 c, .int .i64 f, .int .i64 d] w (NewP c f d w):=by
 have SS:=Ac (Sy.nil w [])
 by_cases h1:c<0
 ·have d1:decide (c<0)=true:=decide_eq_true h1
  go_enter func5,ntmps5
  go_wp2
  go_ret2
  exact .inl ⟨by unfold Mw;simp[*],rfl,(Aa SS).fr.below⟩
 ·have d1:decide (c<0)=false:=decide_eq_false h1
  by_cases h2:65536<c
  ·have d2:decide (65536<c)=true:=decide_eq_true h2
   go_enter func5,ntmps5
   go_wp2
   go_ret2
   exact .inl ⟨by unfold Mw;simp[*],rfl,(Aa SS).fr.below⟩
  ·have d2:decide (65536<c)=false:=decide_eq_false h2
   by_cases h3:f<0
   ·have d3:decide (f<0)=true:=decide_eq_true h3
    go_enter func5,ntmps5
    go_wp2
    go_ret2
    exact .inl ⟨by unfold Mw;simp[*],rfl,(Aa SS).fr.below⟩
   ·have d3:decide (f<0)=false:=decide_eq_false h3
    by_cases h4:d<1
    ·have d4:decide (d<1)=true:=decide_eq_true h4
     go_enter func5,ntmps5
     go_wp2
     go_ret2
     exact .inl ⟨by unfold Mw;simp[*],rfl,(Aa SS).fr.below⟩
    ·have d4:decide (d<1)=false:=decide_eq_false h4
     by_cases h5:256<d
     ·have d5:decide (256<d)=true:=decide_eq_true h5
      go_enter func5,ntmps5
      go_wp2
      go_ret2
      exact .inl ⟨by unfold Mw;simp[*],rfl,(Aa SS).fr.below⟩
     ·have d5:decide (256<d)=false:=decide_eq_false h5
      go_enter func5,ntmps5
      go_wp2_with (first|go_skip|((with_reducible show wpList ..);first|(refine rd rfl (ex_bhp c f d rfl rfl rfl rfl) ?_)|(refine zB 61 (hcs ⟨0, .slice none 0 0, [],c,f,d,0,noO,Rv⟩) (by rfl) rfl rfl rfl SS ?_;clear SS;intro Xa Ba SS;simp only[nn])))
      go_ret2
      exact .inr ⟨by unfold Mw;simp[*],Ba,rfl,new_is (Aa SS) h6,((Aa SS).lo _ (List.mem_cons_self ..) Ba (List.mem_singleton.2 rfl)).elim (fun h=>by cases h) id,(Aa SS).fr.below⟩
