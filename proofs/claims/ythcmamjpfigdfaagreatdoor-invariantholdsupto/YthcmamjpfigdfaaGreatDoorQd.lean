import Derived.Test.YthcmamjpfigdfaaGreatDoorQc
import Derived.LoopTactic
set_option linter.all false
namespace Go.Proofs.YthcmamjpfigdfaaGreatDoor
set_option maxRecDepth 100000
set_option maxHeartbeats 0
section
open Go.RowKit Go.Shelf
def Zb3:Value->Nat
 | .string s=>s.size
 |_=>0
theorem Ao {w w':World} (h:Lib.Utf8Tabs 1 2 w) (hb:Below w.heap.size w w'):Lib.Utf8Tabs 1 2 w':=Utf8Tabs_below h hb

theorem Va (u:ByteArray) (n:Nat):Dq (u.extract n u.size)=(Dq u).drop n:=by
 unfold Dq
 rw[ByteArray.data_extract,Array.toList_extract,←List.map_drop]
 congr 1
 rw[List.extract_eq_take_drop,List.take_of_length_le]
 rw[List.length_drop];exact Nat.le_refl _
theorem Zb5 (u:ByteArray) (n:Nat):(u.extract n u.size).size=u.size - n:=by
 rw[←Jc,Va,List.length_drop,Jc]
theorem ZfM (s:ByteArray) (w:World) (hT:Lib.Utf8Tabs 1 2 w):Calls Tryz.prog 168 #[.string s] w fun e w'=>e= .returned (.bool (M.valid false (Dq s)))/\Below w.heap.size w w':=by
 have HT:=Ab hT;clear hT
 go_enter Tryz.func168,Tryz.ntmps168
 go_wp2
 go_loopw [0,3] (fun t b wr=> ∃(u:ByteArray) (h:Bool),t= .string u/\b= .bool h/\M.valid false (Dq s)=M.valid h (Dq u)/\Below w.heap.size w wr) (fun t _ _=>Zb3 t)
 case atStart=>exact⟨s,false,rfl,rfl,rfl,Below.refl _ _⟩
 case round=>
  obtain⟨u,h,rfl,rfl,hv,hB⟩:=hrel
  have HV:=Ab hv;clear hv
  have hNE:Dq u= []↔u.size=0:=by rw[←Jc,List.length_eq_zero_iff]
  cases hE:u.toList.isEmpty with
  |true=>
   have hz:Dq u= []:=by
    rw[hNE,ByteArray.size,←Array.length_toList,List.length_eq_zero_iff]
    simpa [Lib.toList_data] using hE
   go_wp2
   go_ret
   refine⟨?_,hB⟩
   rw[Aa HV,hz];rfl
  |false=>
   have hz:Dq u≠ []:=by
    intro e
    rw[hNE,ByteArray.size,←Array.length_toList,List.length_eq_zero_iff] at e
    simp[Lib.toList_data,e] at hE
   have hst:=M.valid_step h (Dq u) hz
   have hinv:=M.dec_inv (Dq u) (Zfd u)
   have hdc:=ZeH u wr (Ao (Aa HT) hB)
   generalize M.dec (Dq u)=p at *
   obtain⟨c,n⟩:=p
   dsimp only at *
   have HD:=Ab hdc;clear hdc
   have HS:=Ab hst;clear hst
   have HN:=Ab hNE;clear hNE
   have HZ:=Ab hz;clear hz
   by_cases hn:n=0
   ·have HI:=Ab hinv;clear hinv
    have hn':((n:Int)==0)=true:=by rw[beq_iff_eq];omega
    go_wp2_with fail
    refine(Aa HD).mono ?_
    rintro e w1 ⟨rfl,hb⟩
    go_wp2
    go_ret
    refine⟨?_,hB.trans (hb.mono hB.size)⟩
    rw[Aa HV,Aa HS,hn];rfl
   ·obtain⟨d1,d2,d3⟩:=hinv hn
    have hn':((n:Int)==0)=false:=by rw[beq_eq_false_iff_ne];omega
    have hnle:n<=u.size:=by
     have:=congrArg List.length d2
     rw[List.length_append,Jc] at this;omega
    have h1n:(1:Int)<=(n:Int):=by omega
    have hnle':(n:Int)<=(u.size:Int):=by omega
    have D2:=Ab d2;clear d2
    have D3:=Ab d3;clear d3
    clear hinv
    have hsz:=Zb5 u n
    have HZ2:=Ab hsz;clear hsz
    have fin: ∀(w2:World),Below wr.heap.size wr w2->(decide (n=0)||h && M.isLo c)=false->(∃(u_1:ByteArray) (h:Bool),
      Value.string (u.extract n u.size)=Value.string u_1/\Value.bool (hiZ ↑c)=Value.bool h/\M.valid false (Dq s)=M.valid h (Dq u_1)/\Below w.heap.size w w2)/\
      Zb3 (Value.string (u.extract n u.size))<Zb3 (Value.string u):=by
     intro w2 hb he
     refine⟨⟨u.extract n u.size,M.isHi c,rfl,by rw[hiZ_nat], ?_,hB.trans (hb.mono hB.size)⟩, ?_⟩
     ·rw[Aa HV,Aa HS,he,Va];simp
     ·simp only[Zb3];rw[Aa HZ2];omega
    have FIN:=Ab fin;clear fin
    cases h with
    |true=>
     go_wp2_with fail
     refine(Aa HD).mono ?_
     rintro e w1 ⟨rfl,hb⟩
     go_wp2_with fail
     refine(Zge _ _).mono ?_
     rintro e w2 ⟨rfl,rfl⟩
     rw[loZ_nat]
     cases hl:M.isLo c with
     |true=>
      go_wp2
      go_ret
      refine⟨?_,hB.trans (hb.mono hB.size)⟩
      rw[Aa HV,Aa HS,hl];simp
     |false=>
      go_wp2_with fail
      refine(ZaC _ _).mono ?_
      rintro e w3 ⟨rfl,rfl⟩
      go_wp2
      exact Aa FIN _ hb (by simp[hl,hn])
    |false=>
     go_wp2_with fail
     refine(Aa HD).mono ?_
     rintro e w1 ⟨rfl,hb⟩
     go_wp2_with fail
     refine(ZaC _ _).mono ?_
     rintro e w2 ⟨rfl,rfl⟩
     go_wp2
     exact Aa FIN _ hb (by simp[hn])
