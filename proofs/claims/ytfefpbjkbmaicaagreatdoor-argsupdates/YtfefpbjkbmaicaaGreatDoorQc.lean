import Derived.Test.YtfefpbjkbmaicaaGreatDoorQa
import Derived.Test.YtfefpbjkbmaicaaGreatDoorQb
import Derived.WalkKit
import Derived.Below
import Derived.Deep.QuietTactic
import Derived.BigQuiet
import Derived.Laws.BitsLemmas
import Derived.WalkSmall
import Derived.LoopTactic
import Derived.RangeFuncNested
import Derived.RangeFuncBound
import Derived.RangeFuncCalls
import Derived.RangeFuncLeaves
import Derived.RangeFuncBox
import Derived.Shelf.Abstract
import Derived.Shelf.RegionOpen
import Derived.OwnWalkIn
import Derived.TacticsInMore
import Derived.LoopNIn
import Derived.LoopIn
import Derived.Maps.AppendAt
set_option linter.all false
namespace Go.Proofs.YtfefpbjkbmaicaaGreatDoor
set_option maxRecDepth 100000
set_option maxHeartbeats 0
section
open Go.RowKit Go.Shelf
def hiZ (c:Int):Bool:=decide (55296<=c) && decide (c<56320)
def loZ (c:Int):Bool:=decide (56320<=c) && decide (c<=57343)
theorem Zby (c:Nat):hiZ c=M.isHi c:=by
 unfold hiZ M.isHi
 rw[show decide ((55296:Int)<=(c:Int))=decide (55296<=c) from decide_eq_decide.2 (by omega),show decide ((c:Int)<56320)=decide (c<56320) from decide_eq_decide.2 (by omega)]
theorem Zbq (c:Nat):loZ c=M.isLo c:=by
 unfold loZ M.isLo
 rw[show decide ((56320:Int)<=(c:Int))=decide (56320<=c) from decide_eq_decide.2 (by omega),show decide ((c:Int)<=57343)=decide (c<=57343) from decide_eq_decide.2 (by omega)]

theorem Rz (c:Int) (w:World):Calls Tryz.prog 119 #[.int .i32 c] w fun e w'=>e= .returned (.bool (hiZ c))/\w'=w:=by
 unfold hiZ
 by_cases h1:55296<=c<;>by_cases h2:c<56320
 all_goals
  go_enter Tryz.func119,Tryz.ntmps119
  go_wp2
  go_ret
  simp[h1,h2]
theorem Zch (c:Int) (w:World):Calls Tryz.prog 118 #[.int .i32 c] w fun e w'=>e= .returned (.bool (loZ c))/\w'=w:=by
 unfold loZ
 by_cases h1:56320<=c<;>by_cases h2:c<=57343
 all_goals
  go_enter Tryz.func118,Tryz.ntmps118
  go_wp2
  go_ret
  simp[h1,h2]
theorem Ps (c:Int) (w:World):Calls Tryz.prog 125 #[.int .u16 c] w fun e w'=>e= .returned (.bool (hiZ c))/\w'=w:=by
 unfold hiZ
 by_cases h1:55296<=c<;>by_cases h2:c<56320
 all_goals
  have h3:c<=56319↔c<56320:=by omega
  go_enter Tryz.func125,Tryz.ntmps125
  go_wp2
  go_ret
  simp[h1,h2]
  try omega
theorem Zbp (c:Int) (w:World):Calls Tryz.prog 126 #[.int .u16 c] w fun e w'=>e= .returned (.bool (loZ c))/\w'=w:=by
 unfold loZ
 by_cases h1:56320<=c<;>by_cases h2:c<=57343
 all_goals
  go_enter Tryz.func126,Tryz.ntmps126
  go_wp2
  go_ret
  simp[h1,h2]
theorem Rb {k:IntKind} {a b:Int} (h:a=b):Ending.returned (.int k a)= .returned (.int k b):=by rw[h]
def Dg (s:ByteArray):List Nat:=s.data.toList.map UInt8.toNat
theorem Dz (s:ByteArray):(Dg s).length=s.size:=by unfold Dg;rw[List.length_map];rfl
theorem Yc (s:ByteArray): ∀x∈Dg s,x<256:=by
 intro x hx;unfold Dg at hx;rw[List.mem_map] at hx;obtain⟨y,_,rfl⟩:=hx;exact y.toNat_lt
theorem Lm (s:ByteArray) (k:Nat) (h:k<s.size):(Dg s).getD k 0=(s[k]'h).toNat:=by
 have h':k<s.data.toList.length:=h
 unfold Dg
 rw[List.getD_eq_getElem?_getD,List.getElem?_map,List.getElem?_eq_getElem h']
 rfl

theorem u8_224: ∀n:Fin 256,bits .and .u8 (n.val:Int) 224=(n.val:Int) / 32 * 32:=by decide+kernel
theorem u8_192: ∀n:Fin 256,bits .and .u8 (n.val:Int) 192=(n.val:Int) / 64 * 64:=by decide+kernel

theorem surr_any (s:ByteArray) (w:World):Calls Tryz.prog 128 #[.string s] w fun e w'=>e= .returned (.tuple #[.int .i32 ((M.surr (Dg s)).1:Nat), .int .i64 ((M.surr (Dg s)).2:Nat)])/\ ∃n,w'=w.drewN n:=by
 by_cases h:s.size<3
 ·have e:M.surr (Dg s)=(0,0):=by unfold M.surr;rw[Dz,if_pos (Or.inl h)]
  rw[e]
  have h':(s.size:Int)<3:=by omega
  go_enter Tryz.func128,Tryz.ntmps128
  go_wp2
  go_ret2
  exact⟨rfl,0,rfl⟩
 ·have hz0:(0:Int)<(s.size:Int):=by omega
  have hz1:(1:Int)<(s.size:Int):=by omega
  have hz2:(2:Int)<(s.size:Int):=by omega
  have h': ¬((s.size:Int)<3):=by omega
  obtain⟨x0,hx0⟩: ∃x0,s[0]'(by omega)=x0:=⟨_,rfl⟩
  obtain⟨x1,hx1⟩: ∃x1,s[1]'(by omega)=x1:=⟨_,rfl⟩
  obtain⟨x2,hx2⟩: ∃x2,s[2]'(by omega)=x2:=⟨_,rfl⟩
  have g0:(Dg s).getD 0 0=x0.toNat:=by rw[Lm s 0 (by omega),hx0]
  have g1:(Dg s).getD 1 0=x1.toNat:=by rw[Lm s 1 (by omega),hx1]
  have g2:(Dg s).getD 2 0=x2.toNat:=by rw[Lm s 2 (by omega),hx2]
  have hS:M.surr (Dg s)=if x0.toNat≠237∨x1.toNat / 32≠5∨x2.toNat / 64≠2 then (0,0) else (55296+x1.toNat % 32 * 64+x2.toNat % 64,3):=by
   unfold M.surr;rw[Dz,g0,g1,g2];simp[h]
  clear g0 g1 g2
  rw[hS];clear hS
  have l0:=x0.toNat_lt;have l1:=x1.toNat_lt;have l2:=x2.toNat_lt
  obtain⟨n0,hn0⟩: ∃n0,x0.toNat=n0:=⟨_,rfl⟩
  obtain⟨n1,hn1⟩: ∃n1,x1.toNat=n1:=⟨_,rfl⟩
  obtain⟨n2,hn2⟩: ∃n2,x2.toNat=n2:=⟨_,rfl⟩
  rw[hn0] at l0;rw[hn1] at l1;rw[hn2] at l2
  rw[hn0,hn1,hn2]
  have q1:bits .and .u8 (n1:Int) 224=(n1:Int) / 32 * 32:=u8_224 ⟨n1,l1⟩
  have q2:bits .and .u8 (n2:Int) 192=(n2:Int) / 64 * 64:=u8_192 ⟨n2,l2⟩
  have q3:bits .and .u8 (n1:Int) 31=(n1:Int) % 32:=u8_and31 _ (by omega) (by omega)
  have q4:bits .and .u8 (n2:Int) 63=(n2:Int) % 64:=u8_and63 _ (by omega) (by omega)
  by_cases c0:n0=237
  case neg=>
   rw[if_pos (Or.inl c0)]
   have c0':((n0:Int) !=237)=true:=by rw[bne_iff_ne];omega
   go_enter Tryz.func128,Tryz.ntmps128
   go_wp2
   go_ret2
   exact⟨rfl,0,rfl⟩
  by_cases c1:n1 / 32=5
  case neg=>
   rw[if_pos (Or.inr (Or.inl c1))]
   have c1':((n1:Int) / 32 * 32 !=160)=true:=by rw[bne_iff_ne];omega
   have c0':((n0:Int) !=237)=false:=by rw[bne_eq_false_iff_eq];omega
   go_enter Tryz.func128,Tryz.ntmps128
   go_wp2
   go_ret2
   exact⟨rfl,0,rfl⟩
  have c0':((n0:Int) !=237)=false:=by rw[bne_eq_false_iff_eq];omega
  have c1':((n1:Int) / 32 * 32 !=160)=false:=by rw[bne_eq_false_iff_eq];omega
  by_cases c2:n2 / 64=2
  case neg=>
   rw[if_pos (Or.inr (Or.inr c2))]
   have c2':((n2:Int) / 64 * 64 !=128)=true:=by rw[bne_iff_ne];omega
   go_enter Tryz.func128,Tryz.ntmps128
   go_wp2
   go_ret2
   exact⟨rfl,0,rfl⟩
  rw[if_neg (by omega)]
  have c2':((n2:Int) / 64 * 64 !=128)=false:=by rw[bne_eq_false_iff_eq];omega
  have b1:0<=(n1:Int) % 32:=by omega
  have b2:(n1:Int) % 32<32:=by omega
  have b3:0<=(n2:Int) % 64:=by omega
  have b4:(n2:Int) % 64<64:=by omega
  clear c0 c1 c2
  go_enter Tryz.func128,Tryz.ntmps128
  go_wp2
  go_quiet (fail)
  go_wp2
  go_ret2
  exact⟨rfl,nq,rfl⟩

theorem Ug (s:ByteArray) (k:Nat):(s.get! k).toNat=(Dg s).getD k 0:=by
 by_cases h:k<s.size
 ·rw[Lm s k h]
  have:s.get! k=s[k]'h:=by
   cases s with
   |mk d=>exact getElem!_pos d k h
  rw[this]
 ·have e1:s.get! k=0:=by
   cases s with
   |mk d=>exact getElem!_neg d k h
  rw[e1,List.getD_eq_getElem?_getD,List.getElem?_eq_none (by rw[Dz];omega)]
  rfl
theorem ZbT (c:Nat):Utf8.valid (c:Int)=M.okc c:=by
 unfold Utf8.valid M.okc
 rw[Bool.eq_iff_iff]
 simp
 omega
theorem Va (s:ByteArray):Lib.decodeGo s=M.goD (Dg s):=by
 unfold Lib.decodeGo M.goD Utf8.decode
 simp only[Dz,Ug,Nat.zero_add,Bool.and_eq_true,beq_iff_eq,decide_eq_true_eq,ZbT,ge_iff_le,Utf8.runeError,and_assoc]

theorem Jo (B:Nat) (w:World) (n:Nat):Below B w (w.drewN n):=by
 exact below_drewN (Below.refl _ _) n
theorem Ac {p:Prop} (h:p):Hid p:=h
theorem Aa {p:Prop} (h:Hid p):p:=h
theorem nn:(∀(a:Act) (t:Tmp) (v:Value),a.put (some t) v={a with tmps:=a.tmps.setIfInBounds t v})/\(∀(a:Act) (v:Value),a.put none v=a)/\(∀(l:List Value) (i:Nat) (a:Value),l.toArray.setIfInBounds i a=(l.set i a).toArray)/\(∀(x:Value) (l:List Value) (i:Nat) (a:Value),(x::l).set (i+1) a=x::l.set i a)/\(∀(x:Value) (l:List Value) (a:Value),(x::l).set 0 a=a::l):=⟨fun _ _ _=>rfl,fun _ _=>rfl,fun l i a=>by simp,fun _ _ _ _=>rfl,fun _ _ _=>rfl⟩
theorem goD_le (l:List Nat) (hb: ∀x∈l,x<256):(M.goD l).1<=1114111/\(M.goD l).2<=4:=by
 rcases M.goD_cases l hb with h|⟨b0,t,hl,h1,hv⟩|⟨b0,b1,t,hl,h1,h2,h3,hv⟩|⟨b0,b1,b2,t,hl,h1,h2,h3,h4,hv⟩|⟨b0,b1,b2,b3,t,hl,h1,h2,h3,h4,h5,h6,hv⟩
 ·omega
 all_goals (rw[hv];dsimp only;omega)
theorem Za6 (s:ByteArray) (w:World) (hT:Lib.Utf8Tabs 4 5 w):Calls Tryz.prog 117 #[.string s] w fun e w'=>e= .returned (.tuple #[.int .i32 ((M.dec (Dg s)).1:Nat), .int .i64 ((M.dec (Dg s)).2:Nat)])/\Below w.heap.size w w':=by
 have hD:=Tryz.utf8_DecodeRuneInString s w hT
 have hle:=goD_le (Dg s) (Yc s)
 have hS:=fun w=>surr_any s w
 unfold M.dec
 rw[Va] at hD
 generalize M.goD (Dg s)=p at *
 generalize M.surr (Dg s)=q at *
 obtain⟨c,n⟩:=p
 obtain⟨c',n'⟩:=q
 dsimp only at *
 by_cases h1:c=65533
 ·by_cases h2:n<=1
  ·rw[if_pos ⟨h1,h2⟩]
   have h1':((c:Int)==65533)=true:=by rw[beq_iff_eq];omega
   have h2':(n:Int)<=1:=by omega
   clear h1 h2
   have HS:=Ac hS;clear hS
   have HD:=Ac hD;clear hD
   go_enter Tryz.func117,Tryz.ntmps117
   go_wp2_with fail
   refine(Aa HD).mono ?_
   rintro e w1 ⟨rfl,hb⟩
   go_wp2_with fail
   refine(Aa HS _).mono ?_
   rintro e w2 ⟨rfl,m,rfl⟩
   go_wp2
   go_ret2
   exact⟨rfl,hb.trans (Jo _ _ _)⟩
  ·rw[if_neg (by omega)]
   have h1':((c:Int)==65533)=true:=by rw[beq_iff_eq];omega
   have h2': ¬(n:Int)<=1:=by omega
   clear h1 h2 hS
   have HD:=Ac hD;clear hD
   go_enter Tryz.func117,Tryz.ntmps117
   go_wp2_with fail
   refine(Aa HD).mono ?_
   rintro e w1 ⟨rfl,hb⟩
   go_wp2
   go_ret2
   exact⟨rfl,hb⟩
 ·rw[if_neg (by omega)]
  have h1':((c:Int)==65533)=false:=by rw[beq_eq_false_iff_ne];omega
  clear h1 hS
  have HD:=Ac hD;clear hD
  go_enter Tryz.func117,Tryz.ntmps117
  go_wp2_with fail
  refine(Aa HD).mono ?_
  rintro e w1 ⟨rfl,hb⟩
  go_wp2
  go_ret2
  exact⟨rfl,hb⟩
def Xl:Value->Nat
 | .string s=>s.size
 |_=>0
theorem Bf {w w':World} (h:Lib.Utf8Tabs 4 5 w) (hb:Below w.heap.size w w'):Lib.Utf8Tabs 4 5 w':=Utf8Tabs_below h hb

theorem Pm (u:ByteArray) (n:Nat):Dg (u.extract n u.size)=(Dg u).drop n:=by
 unfold Dg
 rw[ByteArray.data_extract,Array.toList_extract,←List.map_drop]
 congr 1
 rw[List.extract_eq_take_drop,List.take_of_length_le]
 rw[List.length_drop];exact Nat.le_refl _
theorem Xo (u:ByteArray) (n:Nat):(u.extract n u.size).size=u.size - n:=by
 rw[←Dz,Pm,List.length_drop,Dz]
theorem ZbV (s:ByteArray) (w:World) (hT:Lib.Utf8Tabs 4 5 w):Calls Tryz.prog 103 #[.string s] w fun e w'=>e= .returned (.bool (M.valid false (Dg s)))/\Below w.heap.size w w':=by
 have HT:=Ac hT;clear hT
 go_enter Tryz.func103,Tryz.ntmps103
 go_wp2
 go_loopw [0,3] (fun t b wr=> ∃(u:ByteArray) (h:Bool),t= .string u/\b= .bool h/\M.valid false (Dg s)=M.valid h (Dg u)/\Below w.heap.size w wr) (fun t _ _=>Xl t)
 case atStart=>exact⟨s,false,rfl,rfl,rfl,Below.refl _ _⟩
 case round=>
  obtain⟨u,h,rfl,rfl,hv,hB⟩:=hrel
  have HV:=Ac hv;clear hv
  have hNE:Dg u= []↔u.size=0:=by rw[←Dz,List.length_eq_zero_iff]
  cases hE:u.toList.isEmpty with
  |true=>
   have hz:Dg u= []:=by
    rw[hNE,ByteArray.size,←Array.length_toList,List.length_eq_zero_iff]
    simpa [Lib.toList_data] using hE
   go_wp2
   go_ret
   refine⟨?_,hB⟩
   rw[Aa HV,hz];rfl
  |false=>
   have hz:Dg u≠ []:=by
    intro e
    rw[hNE,ByteArray.size,←Array.length_toList,List.length_eq_zero_iff] at e
    simp[Lib.toList_data,e] at hE
   have hst:=M.valid_step h (Dg u) hz
   have hinv:=M.dec_inv (Dg u) (Yc u)
   have hdc:=Za6 u wr (Bf (Aa HT) hB)
   generalize M.dec (Dg u)=p at *
   obtain⟨c,n⟩:=p
   dsimp only at *
   have HD:=Ac hdc;clear hdc
   have HS:=Ac hst;clear hst
   have HN:=Ac hNE;clear hNE
   have HZ:=Ac hz;clear hz
   by_cases hn:n=0
   ·have HI:=Ac hinv;clear hinv
    have hn':((n:Int)==0)=true:=by rw[beq_iff_eq];omega
    go_wp2_with fail
    refine(Aa HD).mono ?_
    rintro e w1 ⟨rfl,hb⟩
    go_wp2
    go_ret
    refine⟨?_,hB.trans (hb.mono hB.size)⟩
    rw[Aa HV,Aa HS,hn];rfl
   ·obtain⟨d1,d2,d3⟩:=hinv hn
    have hn':((n:Int)==0)=false:=by rw[beq_eq_false_iff_ne];omega
    have hnle:n<=u.size:=by
     have:=congrArg List.length d2
     rw[List.length_append,Dz] at this;omega
    have h1n:(1:Int)<=(n:Int):=by omega
    have hnle':(n:Int)<=(u.size:Int):=by omega
    have D2:=Ac d2;clear d2
    have D3:=Ac d3;clear d3
    clear hinv
    have hsz:=Xo u n
    have HZ2:=Ac hsz;clear hsz
    have fin: ∀(w2:World),Below wr.heap.size wr w2->(decide (n=0)||h && M.isLo c)=false->(∃(u_1:ByteArray) (h:Bool),
      Value.string (u.extract n u.size)=Value.string u_1/\Value.bool (hiZ ↑c)=Value.bool h/\M.valid false (Dg s)=M.valid h (Dg u_1)/\Below w.heap.size w w2)/\
      Xl (Value.string (u.extract n u.size))<Xl (Value.string u):=by
     intro w2 hb he
     refine⟨⟨u.extract n u.size,M.isHi c,rfl,by rw[Zby], ?_,hB.trans (hb.mono hB.size)⟩, ?_⟩
     ·rw[Aa HV,Aa HS,he,Pm];simp
     ·simp only[Xl];rw[Aa HZ2];omega
    have FIN:=Ac fin;clear fin
    cases h with
    |true=>
     go_wp2_with fail
     refine(Aa HD).mono ?_
     rintro e w1 ⟨rfl,hb⟩
     go_wp2_with fail
     refine(Zch _ _).mono ?_
     rintro e w2 ⟨rfl,rfl⟩
     rw[Zbq]
     cases hl:M.isLo c with
     |true=>
      go_wp2
      go_ret
      refine⟨?_,hB.trans (hb.mono hB.size)⟩
      rw[Aa HV,Aa HS,hl];simp
     |false=>
      go_wp2_with fail
      refine(Rz _ _).mono ?_
      rintro e w3 ⟨rfl,rfl⟩
      go_wp2
      exact Aa FIN _ hb (by simp[hl,hn])
    |false=>
     go_wp2_with fail
     refine(Aa HD).mono ?_
     rintro e w1 ⟨rfl,hb⟩
     go_wp2_with fail
     refine(Rz _ _).mono ?_
     rintro e w2 ⟨rfl,rfl⟩
     go_wp2
     exact Aa FIN _ hb (by simp[hn])
end
section
open Go.RowKit Go.Shelf
attribute [local go_sem] Oper.semAt_some
abbrev CP:={c:Nat // c<=1114111}
def bytes (cs:List CP):List Nat:=(cs.map (·.1)).flatMap M.E

theorem Vg {w:World} (h:Lib.Utf8Tabs 4 5 w):6<=w.heap.size:=by
 have:=(h.2 0 (by omega)).1
 rcases Nat.lt_or_ge 5 w.heap.size with h'|h'
 ·omega
 ·simp[World.cell?,Array.getElem?_eq_none h'] at this
def Rl (u:Nat):Value:= .int .u16 (u:Nat)
theorem info65:(Tryz.prog.info? 188).map (fun i=>(i.zero,i.size,i.bytes))=some (some (.int .u16 0),1,2):=by kernel_rfl

theorem U_len (c:Nat):(M.U c).length<=2:=by unfold M.U;split<;>simp
