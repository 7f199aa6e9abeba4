import Derived.Test.YthjnflilfjcgiaaGreatFmtQc
import Derived.LoopTactic
set_option linter.all false
namespace Go.Proofs.YthjnflilfjcgiaaGreatFmt
set_option maxRecDepth 100000
set_option maxHeartbeats 0
section
open Go.RowKit Go.Shelf
def strLen:Value->Nat
 | .string s=>s.size
 |_=>0
theorem tabs_below {w w':World} (h:Lib.Utf8Tabs 4 5 w) (hb:Below w.heap.size w w'):Lib.Utf8Tabs 4 5 w':=Utf8Tabs_below h hb

theorem nums_extract (u:ByteArray) (n:Nat):nums (u.extract n u.size)=(nums u).drop n:=by
 unfold nums
 rw[ByteArray.data_extract,Array.toList_extract,←List.map_drop]
 congr 1
 rw[List.extract_eq_take_drop,List.take_of_length_le]
 rw[List.length_drop];exact Nat.le_refl _
theorem size_extract (u:ByteArray) (n:Nat):(u.extract n u.size).size=u.size - n:=by
 rw[←nums_len,nums_extract,List.length_drop,nums_len]
theorem valid_any (s:ByteArray) (w:World) (hT:Lib.Utf8Tabs 4 5 w):Calls Tryz.prog 87 #[.string s] w fun e w'=>e= .returned (.bool (M.valid false (nums s)))/\Below w.heap.size w w':=by
 have HT:=hide hT;clear hT
 go_enter Tryz.func87,Tryz.ntmps87
 go_wp2
 go_loopw [0,3] (fun t b wr=> ∃(u:ByteArray) (h:Bool),t= .string u/\b= .bool h/\M.valid false (nums s)=M.valid h (nums u)/\Below w.heap.size w wr) (fun t _ _=>strLen t)
 case atStart=>exact⟨s,false,rfl,rfl,rfl,Below.refl _ _⟩
 case round=>
  obtain⟨u,h,rfl,rfl,hv,hB⟩:=hrel
  have HV:=hide hv;clear hv
  have hNE:nums u= []↔u.size=0:=by rw[←nums_len,List.length_eq_zero_iff]
  cases hE:u.toList.isEmpty with
  |true=>
   have hz:nums u= []:=by
    rw[hNE,ByteArray.size,←Array.length_toList,List.length_eq_zero_iff]
    simpa [Lib.toList_data] using hE
   go_wp2
   go_ret
   refine⟨?_,hB⟩
   rw[uh HV,hz];rfl
  |false=>
   have hz:nums u≠ []:=by
    intro e
    rw[hNE,ByteArray.size,←Array.length_toList,List.length_eq_zero_iff] at e
    simp[Lib.toList_data,e] at hE
   have hst:=M.valid_step h (nums u) hz
   have hinv:=M.dec_inv (nums u) (nums_lt u)
   have hdc:=decode_any u wr (tabs_below (uh HT) hB)
   generalize M.dec (nums u)=p at *
   obtain⟨c,n⟩:=p
   dsimp only at *
   have HD:=hide hdc;clear hdc
   have HS:=hide hst;clear hst
   have HN:=hide hNE;clear hNE
   have HZ:=hide hz;clear hz
   by_cases hn:n=0
   ·have HI:=hide hinv;clear hinv
    have hn':((n:Int)==0)=true:=by rw[beq_iff_eq];omega
    go_wp2_with fail
    refine(uh HD).mono ?_
    rintro e w1 ⟨rfl,hb⟩
    go_wp2
    go_ret
    refine⟨?_,hB.trans (hb.mono hB.size)⟩
    rw[uh HV,uh HS,hn];rfl
   ·obtain⟨d1,d2,d3⟩:=hinv hn
    have hn':((n:Int)==0)=false:=by rw[beq_eq_false_iff_ne];omega
    have hnle:n<=u.size:=by
     have:=congrArg List.length d2
     rw[List.length_append,nums_len] at this;omega
    have h1n:(1:Int)<=(n:Int):=by omega
    have hnle':(n:Int)<=(u.size:Int):=by omega
    have D2:=hide d2;clear d2
    have D3:=hide d3;clear d3
    clear hinv
    have hsz:=size_extract u n
    have HZ2:=hide hsz;clear hsz
    have fin: ∀(w2:World),Below wr.heap.size wr w2->(decide (n=0)||h && M.isLo c)=false->(∃(u_1:ByteArray) (h:Bool),
      Value.string (u.extract n u.size)=Value.string u_1/\Value.bool (hiZ ↑c)=Value.bool h/\M.valid false (nums s)=M.valid h (nums u_1)/\Below w.heap.size w w2)/\
      strLen (Value.string (u.extract n u.size))<strLen (Value.string u):=by
     intro w2 hb he
     refine⟨⟨u.extract n u.size,M.isHi c,rfl,by rw[hiZ_nat], ?_,hB.trans (hb.mono hB.size)⟩, ?_⟩
     ·rw[uh HV,uh HS,he,nums_extract];simp
     ·simp only[strLen];rw[uh HZ2];omega
    have FIN:=hide fin;clear fin
    cases h with
    |true=>
     go_wp2_with fail
     refine(uh HD).mono ?_
     rintro e w1 ⟨rfl,hb⟩
     go_wp2_with fail
     refine(isLow_any _ _).mono ?_
     rintro e w2 ⟨rfl,rfl⟩
     rw[loZ_nat]
     cases hl:M.isLo c with
     |true=>
      go_wp2
      go_ret
      refine⟨?_,hB.trans (hb.mono hB.size)⟩
      rw[uh HV,uh HS,hl];simp
     |false=>
      go_wp2_with fail
      refine(isHigh_any _ _).mono ?_
      rintro e w3 ⟨rfl,rfl⟩
      go_wp2
      exact uh FIN _ hb (by simp[hl,hn])
    |false=>
     go_wp2_with fail
     refine(uh HD).mono ?_
     rintro e w1 ⟨rfl,hb⟩
     go_wp2_with fail
     refine(isHigh_any _ _).mono ?_
     rintro e w2 ⟨rfl,rfl⟩
     go_wp2
     exact uh FIN _ hb (by simp[hn])
