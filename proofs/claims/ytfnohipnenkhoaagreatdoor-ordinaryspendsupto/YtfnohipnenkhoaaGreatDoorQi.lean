import Derived.Test.YtfnohipnenkhoaaGreatDoorQd
import Derived.Test.YtfnohipnenkhoaaGreatDoorQc
import Derived.LoopTactic
import Derived.RangeFuncNested
import Derived.RangeFuncBound
import Derived.RangeFuncCalls
import Derived.RangeFuncLeaves
import Derived.RangeFuncBox
import Derived.Shelf.Abstract
import Derived.Shelf.RegionOpen
import Derived.WalkKit
import Derived.OwnWalkIn
import Derived.TacticsInMore
import Derived.LoopNIn
import Derived.LoopIn
import Derived.Maps.AppendAt
import Derived.Laws.BytesArg
import Derived.Laws.IdiomStrings
import Derived.Deep.AppendLies
import Derived.Deep.RegionHeld3
import Derived.Laws.Cover2
import Derived.Laws.FloatArith
import Derived.Test.YtfnohipnenkhoaaGreatDoorChecked
import Derived.WalkSpells
import Derived.WalkLawsBesides
import Derived.Laws.BitsAllLaws
import Derived.Shelf.Small.Wraps
import Derived.Shelf.LaysM
import Derived.Shelf.Strconv.Clone
import Derived.Test.YtfnohipnenkhoaaGreatDoorProg
import Derived.Below
set_option linter.all false
namespace Go.Proofs.YtfnohipnenkhoaaGreatDoor
set_option maxRecDepth 100000
set_option maxHeartbeats 16000000
section
open Go Go.Proofs Go.RowKit Go.Sort
theorem rv_go (i j:Nat) (d:Array Nat) (h:i<j):reverseLoop i j d=reverseLoop (i+1) (j - 1) (swp d i j):=by rw[reverseLoop,if_pos h]
theorem rv_stop (i j:Nat) (d:Array Nat) (h: ¬i<j):reverseLoop i j d=d:=by rw[reverseLoop,if_neg h]
theorem Zeu (blk cap a b:Nat) (d:Array Nat) (w:World) (hL:LiesU w blk d) (hab:a<b) (hb:b<=d.size) (hsz:d.size<=1500000):
  Calls Tryz.prog 191 #[.slice (some ⟨blk,0,none⟩) d.size cap, .int .i64 a, .int .i64 b] w fun e w'=>e= .returned (.tuple #[])/\LiesU w' blk (reverseRange d a b)/\w.grownBy w' (some blk):=by
 have HL:=Ab hL
 clear hL
 have zb:IntKind.i64.wrap ((b:Int) - 1)=((b - 1:Nat):Int):=by rw[IntKind.wrap_i64];omega
 go_enter Tryz.func191,Tryz.ntmps191
 go_wp2_with fail
 go_loopg [6,7] (b+1) (fun g s6 s7 wr=> ∃(i j:Nat) (dk:Array Nat),s6= .int .i64 i/\s7= .int .i64 j/\a<=i/\i<=b/\j<b/\b+1 - i<=g/\Hid (dk.size=d.size)/\Hid (LiesU wr blk dk)/\Hid (w.grownBy wr (some blk))/\Hid (reverseLoop i j dk=reverseRange d a b))
 case atStart=>exact⟨a,b - 1,d,rfl,rfl,Nat.le_refl _,by omega,by omega,by omega,Ab rfl,HL,Ab (Kv _ _),Ab rfl⟩
 case round=>
  obtain⟨i,j,dk,rfl,rfl,hai,hib,hjb,hg,hsk,hLk,hGk,hOk⟩:=hrel
  have hds:=Aa hsk
  by_cases hlt:i<j
  ·have hiz:(i:Int)<j:=by omega
   obtain⟨c1,f1⟩:=(Aa hLk).cell i (by omega)
   obtain⟨c2,f2⟩:=(Aa hLk).cell j (by omega)
   have HGo:=Ab (rv_go i j dk hlt)
   have HSw:=Ab (fun n=>((Aa hLk).drew n).swap i j (by omega) (by omega))
   have z2:(j:Int)<d.size:=by omega
   have z3:(i:Int)<d.size:=by omega
   have z4:IntKind.i64.wrap ((j:Int) - 1)=((j - 1:Nat):Int):=by rw[IntKind.wrap_i64];omega
   have z5:IntKind.i64.wrap ((i:Int)+1)=((i+1:Nat):Int):=by rw[IntKind.wrap_i64];omega
   have n1: ¬i=j:=by omega
   have n2: ¬j=i:=by omega
   clear hds
   generalize dk[i]! =x at *
   generalize dk[j]! =y at *
   go_wp2_with fail
   go_region
   all_goals go_wp2
   go_roundg (b+1 - (i+1))
   case measure=>omega
   case rel=>exact⟨i+1,j - 1,swp dk i j,by go_num,by go_num,by omega,by omega,by omega,Nat.le_refl _,Ab (by rw[Dv];exact Aa hsk),Ab (Aa HSw _),Ab (Bz (Dt (Aa hGk) _) (Ec _ _ _ _ _ _)),Ab (by rw[←Aa HGo];exact Aa hOk)⟩
  ·have hiz: ¬(i:Int)<j:=by omega
   go_wp2
   go_end0
   refine⟨rfl, ?_,Aa hGk⟩
   rw[←Aa hOk,rv_stop _ _ _ hlt]
   exact Aa hLk
def Pt (w:World) (B:Nat) (n:Nat):Prop:=w.heap[B]? =some (.cells #[.int .i64 (n:Int)] 3 (0,0))
theorem Pt.cell {w:World} {B n:Nat} (h:Pt w B n):w.cell? ⟨B,0,none⟩=some (.int .i64 (n:Int))/\w.frozen? ⟨B,0,none⟩=false/\B<w.heap.size:=by
 unfold Pt at h
 exact⟨by simp[go_sem,World.cell?,h],by simp[go_sem,World.frozen?,h],(Array.getElem?_eq_some_iff.1 h).1⟩
theorem Pt.set {w:World} {B n:Nat} (h:Pt w B n) (m:Nat):Pt (w.setCell ⟨B,0,none⟩ (.int .i64 (m:Int))) B m:=by
 unfold Pt at *
 simp[World.setCell,Array.getElem?_modify,h]
theorem Zbo (blk cap a b B s:Nat) (d:Array Nat) (w:World) (hL:LiesU w blk d) (hP:Pt w B s) (hs:s<=100) (ha:a<d.size) (hb:b<d.size) (hsz:d.size<=1500000):
  Calls Tryz.prog 209 #[.slice (some ⟨blk,0,none⟩) d.size cap, .int .i64 a, .int .i64 b, .pointer (some ⟨B,0,none⟩)] w fun e w'=> ∃x y s':Nat,e= .returned (.tuple #[.int .i64 x, .int .i64 y])/\(x=a/\y=b∨x=b/\y=a)/\s'<=s+1/\Pt w' B s'/\w.grownBy w' (some B):=by
 obtain⟨c1,f1⟩:=hL.cell a ha
 obtain⟨c2,f2⟩:=hL.cell b hb
 obtain⟨p1,p2,p3⟩:=hP.cell
 have HP:=Ab hP
 have z1:(a:Int)<d.size:=by omega
 have z2:(b:Int)<d.size:=by omega
 have z3:IntKind.i64.wrap ((s:Int)+1)=((s+1:Nat):Int):=by rw[IntKind.wrap_i64];omega
 clear hL hP
 generalize d[a]! =x at *
 generalize d[b]! =y at *
 have HC:=Ab (Ga y x)
 generalize ltN y x=r at *
 cases r
 ·go_enter Tryz.func209,Tryz.ntmps209
  go_wp2_with fail
  go_quiet ((go_at_call 193;refine Calls.quiet_of_same (Aa HC _)))
  go_wp2
  go_ret2
  exact⟨a,b,s,rfl, .inl ⟨rfl,rfl⟩,by omega,Aa HP,Dt (Kv _ _) _⟩
 ·go_enter Tryz.func209,Tryz.ntmps209
  go_wp2_with fail
  go_quiet ((go_at_call 193;refine Calls.quiet_of_same (Aa HC _)))
  go_wp2
  go_ret2
  exact⟨b,a,s+1,rfl, .inr ⟨rfl,rfl⟩,by omega,Pt.set (w:=w.drewN _) (Aa HP) (s+1),Bz (Dt (Kv _ _) _) (Vh _ _ _ _)⟩
end
section
open Go.RowKit Go.Shelf
def Zbc:Value->Nat
 | .string s=>s.size
 |_=>0
theorem Ar {w w':World} (h:Lib.Utf8Tabs 1 2 w) (hb:Below w.heap.size w w'):Lib.Utf8Tabs 1 2 w':=Utf8Tabs_below h hb

theorem Ud (u:ByteArray) (n:Nat):Dz (u.extract n u.size)=(Dz u).drop n:=by
 unfold Dz
 rw[ByteArray.data_extract,Array.toList_extract,←List.map_drop]
 congr 1
 rw[List.extract_eq_take_drop,List.take_of_length_le]
 rw[List.length_drop];exact Nat.le_refl _
theorem Zbf (u:ByteArray) (n:Nat):(u.extract n u.size).size=u.size - n:=by
 rw[←Ji,Ud,List.length_drop,Ji]
theorem Zek (s:ByteArray) (w:World) (hT:Lib.Utf8Tabs 1 2 w):Calls Tryz.prog 117 #[.string s] w fun e w'=>e= .returned (.bool (M.valid false (Dz s)))/\Below w.heap.size w w':=by
 have HT:=Ab hT;clear hT
 go_enter Tryz.func117,Tryz.ntmps117
 go_wp2
 go_loopw [0,3] (fun t b wr=> ∃(u:ByteArray) (h:Bool),t= .string u/\b= .bool h/\M.valid false (Dz s)=M.valid h (Dz u)/\Below w.heap.size w wr) (fun t _ _=>Zbc t)
 case atStart=>exact⟨s,false,rfl,rfl,rfl,Below.refl _ _⟩
 case round=>
  obtain⟨u,h,rfl,rfl,hv,hB⟩:=hrel
  have HV:=Ab hv;clear hv
  have hNE:Dz u= []↔u.size=0:=by rw[←Ji,List.length_eq_zero_iff]
  cases hE:u.toList.isEmpty with
  |true=>
   have hz:Dz u= []:=by
    rw[hNE,ByteArray.size,←Array.length_toList,List.length_eq_zero_iff]
    simpa [Lib.toList_data] using hE
   go_wp2
   go_ret
   refine⟨?_,hB⟩
   rw[Aa HV,hz];rfl
  |false=>
   have hz:Dz u≠ []:=by
    intro e
    rw[hNE,ByteArray.size,←Array.length_toList,List.length_eq_zero_iff] at e
    simp[Lib.toList_data,e] at hE
   have hst:=M.valid_step h (Dz u) hz
   have hinv:=M.dec_inv (Dz u) (ZdQ u)
   have hdc:=Zdp u wr (Ar (Aa HT) hB)
   generalize M.dec (Dz u)=p at *
   obtain⟨c,n⟩:=p
   dsimp only at *
   have HD:=Ab hdc;clear hdc
   have HS:=Ab hst;clear hst
   have HN:=Ab hNE;clear hNE
   have HZ:=Ab hz;clear hz
   by_cases hn:n=0
   ·have HI:=Ab hinv;clear hinv
    have hn':((n:Int)==0)=true:=by rw[beq_iff_eq];omega
    go_wp2_with fail
    refine(Aa HD).mono ?_
    rintro e w1 ⟨rfl,hb⟩
    go_wp2
    go_ret
    refine⟨?_,hB.trans (hb.mono hB.size)⟩
    rw[Aa HV,Aa HS,hn];rfl
   ·obtain⟨d1,d2,d3⟩:=hinv hn
    have hn':((n:Int)==0)=false:=by rw[beq_eq_false_iff_ne];omega
    have hnle:n<=u.size:=by
     have:=congrArg List.length d2
     rw[List.length_append,Ji] at this;omega
    have h1n:(1:Int)<=(n:Int):=by omega
    have hnle':(n:Int)<=(u.size:Int):=by omega
    have D2:=Ab d2;clear d2
    have D3:=Ab d3;clear d3
    clear hinv
    have hsz:=Zbf u n
    have HZ2:=Ab hsz;clear hsz
    have fin: ∀(w2:World),Below wr.heap.size wr w2->(decide (n=0)||h && M.isLo c)=false->(∃(u_1:ByteArray) (h:Bool),
      Value.string (u.extract n u.size)=Value.string u_1/\Value.bool (hiZ ↑c)=Value.bool h/\M.valid false (Dz s)=M.valid h (Dz u_1)/\Below w.heap.size w w2)/\
      Zbc (Value.string (u.extract n u.size))<Zbc (Value.string u):=by
     intro w2 hb he
     refine⟨⟨u.extract n u.size,M.isHi c,rfl,by rw[hiZ_nat], ?_,hB.trans (hb.mono hB.size)⟩, ?_⟩
     ·rw[Aa HV,Aa HS,he,Ud];simp
     ·simp only[Zbc];rw[Aa HZ2];omega
    have FIN:=Ab fin;clear fin
    cases h with
    |true=>
     go_wp2_with fail
     refine(Aa HD).mono ?_
     rintro e w1 ⟨rfl,hb⟩
     go_wp2_with fail
     refine(ZeH _ _).mono ?_
     rintro e w2 ⟨rfl,rfl⟩
     rw[loZ_nat]
     cases hl:M.isLo c with
     |true=>
      go_wp2
      go_ret
      refine⟨?_,hB.trans (hb.mono hB.size)⟩
      rw[Aa HV,Aa HS,hl];simp
     |false=>
      go_wp2_with fail
      refine(Zr _ _).mono ?_
      rintro e w3 ⟨rfl,rfl⟩
      go_wp2
      exact Aa FIN _ hb (by simp[hl,hn])
    |false=>
     go_wp2_with fail
     refine(Aa HD).mono ?_
     rintro e w1 ⟨rfl,hb⟩
     go_wp2_with fail
     refine(Zr _ _).mono ?_
     rintro e w2 ⟨rfl,rfl⟩
     go_wp2
     exact Aa FIN _ hb (by simp[hn])
end
section
open Go.RowKit Go.Shelf
attribute [local go_sem] Oper.semAt_some
abbrev CP:={c:Nat // c<=1114111}
def bytes (cs:List CP):List Nat:=(cs.map (·.1)).flatMap M.E

theorem ZaI {w:World} (h:Lib.Utf8Tabs 1 2 w):3<=w.heap.size:=by
 have:=(h.2 0 (by omega)).1
 rcases Nat.lt_or_ge 2 w.heap.size with h'|h'
 ·omega
 ·simp[World.cell?,Array.getElem?_eq_none h'] at this
theorem ZbV {B:Nat} {w w':World} (h:Lib.Utf8Tabs 1 2 w) (hB:3<=B) (hb:Below B w w'):Lib.Utf8Tabs 1 2 w':=
 ⟨fun c hc=>(hb.cell (p:=⟨1,c,none⟩) (by show 1<B;omega)).trans (h.1 c hc),fun i hi=>⟨(hb.cell (p:=⟨2,2 * i,none⟩) (by show 2<B;omega)).trans (h.2 i hi).1,(hb.cell (p:=⟨2,2 * i+1,none⟩) (by show 2<B;omega)).trans (h.2 i hi).2⟩⟩
theorem Ex {w w':World} (h:Below w.heap.size w w'):w.grownBy w' none:=⟨h.os,h.tape,h.output,h.size,fun k hk _=>h.block k hk⟩

end
section
open Go.RowKit Go.Shelf
def Reads (w:World) (v:Value) (l:List Nat):Prop:=
 (∃A c,v= .slice A 0 c/\l= [])∨ ∃b off cap,v= .slice (some ⟨b,off,none⟩) l.length cap/\b<w.heap.size/\ ∀i,i<l.length->w.cell? ⟨b,off+i,none⟩=some (.int .u16 (l.getD i 0:Nat))
theorem toList_inj {s t:ByteArray} (h:s.toList=t.toList):s=t:=by
 rw[Lib.toList_data,Lib.toList_data] at h
 cases s;cases t
 simp only[ByteArray.mk.injEq]
 exact Array.toList_inj.1 h
def vS (s:ByteArray):Bool:=M.valid false (Dz s)
end
end Go.Proofs.YtfnohipnenkhoaaGreatDoor
namespace Go.Proofs.YtfnohipnenkhoaaGreatDoor.FM
open Ieee
def sz (b:Nat):Nat:=b % 2^63
def ng (b:Nat):Bool:=b / 2^63 % 2==1
def INF:Nat:=0x7FF * 2^52
def isN (b:Nat):Bool:=decide (INF<sz b)
def pl (b:Nat):Int:=if ng b then -(sz b:Int) else (sz b:Int)

def vl (r:Nat):Nat:=if r<2^52 then r else (2^52+r % 2^52) * 2^(r / 2^52 - 1)

theorem signW:double.signWeight=2^63:=by decide+kernel
theorem binD:double.binade=2^52:=by decide+kernel
theorem infD:double.infRung=INF:=by decide+kernel
theorem leastD:double.leastPlace= -1074:=by decide+kernel

theorem Zbi (b:Nat):double.read b=
  if sz b<2^52 then .number (ng b) (sz b) (-1074)
  else if sz b<INF then .number (ng b) (2^52+sz b % 2^52) (-1074+(sz b / 2^52 - 1:Nat))
  else if sz b=INF then .infinity (ng b)
  else .nan (ng b) (sz b - INF):=by
 unfold Format.read
 rw[signW,binD,infD,leastD]
 rfl

theorem Za6 (r:Nat):vl r<vl (r+1):=by
 unfold vl
 split
 ·split
  ·omega
  ·have:r+1=2^52:=by omega
   rw[this];simp;omega
 ·rename_i h
  rw[if_neg (by omega)]
  by_cases hd:(r+1) % 2^52=0
  ·have e1:r % 2^52=2^52 - 1:=by omega
   have e2:(r+1) / 2^52=r / 2^52+1:=by omega
   have e3:r / 2^52+1 - 1=(r / 2^52 - 1)+1:=by omega
   rw[hd,e1,e2,e3,Nat.pow_succ 2 (r / 2^52 - 1)]
   have:0<2^(r / 2^52 - 1):=Nat.two_pow_pos _
   rw[Nat.add_zero]
   have q:2^52 * (2^(r / 2^52 - 1) * 2)=(2^52+2^52) * 2^(r / 2^52 - 1):=by rw[Nat.mul_comm _ 2,←Nat.mul_assoc]
   rw[q]
   exact Nat.mul_lt_mul_of_pos_right (by omega) this
  ·have e1:(r+1) % 2^52=r % 2^52+1:=by omega
   have e2:(r+1) / 2^52=r / 2^52:=by omega
   rw[e1,e2]
   have:0<2^(r / 2^52 - 1):=Nat.two_pow_pos _
   exact Nat.mul_lt_mul_of_pos_right (by omega) this

theorem Yn {r s:Nat} (h:r<s):vl r<vl s:=by
 induction s with
 |zero=>omega
 |succ n ih=>
  by_cases e:r=n
  ·rw[e];exact Za6 n
  ·exact Nat.lt_trans (ih (by omega)) (Za6 n)

theorem Pz {r s:Nat}:vl r<vl s↔r<s:=by
 constructor
 ·intro h
  rcases Nat.lt_trichotomy r s with a|a|a
  ·exact a
  ·rw[a] at h;omega
  ·have:=Yn a;omega
 ·exact Yn

theorem vl_inj {r s:Nat}:vl r=vl s↔r=s:=by
 constructor
 ·intro h
  rcases Nat.lt_trichotomy r s with a|a|a
  ·have:=Yn a;omega
  ·exact a
  ·have:=Yn a;omega
 ·intro h;rw[h]

theorem Pd (b:Nat) (h:sz b<INF): ∃m:Nat,∃k:Nat,double.read b= .number (ng b) m (-1074+(k:Int))/\m * 2^k=vl (sz b):=by
 rw[Zbi]
 by_cases h1:sz b<2^52
 ·rw[if_pos h1]
  exact⟨sz b,0,by simp,by unfold vl;rw[if_pos h1];simp⟩
 ·rw[if_neg h1,if_pos h]
  exact⟨_,_,rfl,by unfold vl;rw[if_neg h1]⟩

theorem Pc (b:Nat) (h:sz b=INF):double.read b= .infinity (ng b):=by
 rw[Zbi,h];simp[INF]

theorem Ze (b:Nat) (h:INF<sz b):double.read b= .nan (ng b) (sz b - INF):=by
 rw[Zbi,if_neg (by unfold INF at h;omega),if_neg (by omega),if_neg (by omega)]

theorem Zeb (a b:Int) (p:Nat) (hp:0<p):compare (a * p) (b * p)=compare a b:=by
 have hp':(0:Int)<p:=by omega
 rcases Int.lt_trichotomy a b with h|h|h
 ·rw[Int.compare_eq_lt.2 h,Int.compare_eq_lt.2 (Int.mul_lt_mul_of_pos_right h hp')]
 ·subst h;simp
 ·rw[Int.compare_eq_gt.2 h,Int.compare_eq_gt.2 (Int.mul_lt_mul_of_pos_right h hp')]

def sgn (s:Bool) (n:Nat):Int:=if s then -(n:Int) else n

theorem cmp_sgn (s t:Bool) (a b:Nat):compare (sgn s (vl a)) (sgn t (vl b))=compare (sgn s a) (sgn t b):=by
 have z:vl 0=0:=by decide
 have m1: ∀x,x<=vl x:=by
  intro x;induction x with
  |zero=>omega
  |succ n ih=>have:=Za6 n;omega
 have key: ∀x y:Int,∀x' y':Int,(x<y↔x'<y')->(x=y↔x'=y')->compare x y=compare x' y':=by
  intro x y x' y' h1 h2
  rcases Int.lt_trichotomy x y with h|h|h
  ·rw[Int.compare_eq_lt.2 h,Int.compare_eq_lt.2 (h1.1 h)]
  ·rw[Int.compare_eq_eq.2 h,Int.compare_eq_eq.2 (h2.1 h)]
  ·have:y'<x':=by
    rcases Int.lt_trichotomy x' y' with g|g|g
    ·have:=h1.2 g;omega
    ·have:=h2.2 g;omega
    ·exact g
   rw[Int.compare_eq_gt.2 h,Int.compare_eq_gt.2 this]
 have h1:= @Pz a b
 have h2:= @Pz b a
 have h3:= @vl_inj a b
 have pa:0<vl a↔0<a:=by rw[←z];rw[Pz,z]
 have pb:0<vl b↔0<b:=by rw[←z];rw[Pz,z]
 apply key<;>cases s<;>cases t<;>simp only[sgn]<;>simp<;>omega

theorem Zb9 (x y:Nat):double.order x y=if isN x||isN y then none else some (compare (pl x) (pl y)):=by
 unfold Format.order
 have plx: ∀b,pl b=sgn (ng b) (sz b):=fun b=>rfl
 rw[plx,plx]
 unfold isN
 rcases Nat.lt_trichotomy (sz x) INF with hx|hx|hx
 ·rcases Nat.lt_trichotomy (sz y) INF with hy|hy|hy
  ·obtain⟨m,k,e1,v1⟩:=Pd x hx
   obtain⟨n,l,e2,v2⟩:=Pd y hy
   rw[e1,e2]
   have: ¬INF<sz x:=by omega
   have: ¬INF<sz y:=by omega
   simp only[*,decide_false,Bool.or_self,Bool.false_eq_true,if_false]
   rw[←cmp_sgn,←v1,←v2]
   unfold Datum.order
   simp only[Option.some.injEq]
   have sg: ∀(s:Bool) (a u v:Nat),signed s a u * ((2^v:Nat):Int)=sgn s (a * 2^(u+v)):=by
    intro s a u v
    unfold signed sgn
    rw[Nat.shiftLeft_eq,Nat.pow_add,←Nat.mul_assoc]
    cases s<;>simp[Int.neg_mul]
   rcases Nat.le_total k l with h|h
   ·have e:min (-1074+(k:Int)) (-1074+(l:Int))= -1074+k:=by omega
    rw[e]
    have a1:(-1074+(k:Int) - (-1074+k)).toNat=0:=by omega
    have a2:(-1074+(l:Int) - (-1074+k)).toNat=l - k:=by omega
    rw[a1,a2,←Zeb _ _ (2^k) (Nat.two_pow_pos _),sg,sg]
    first|rw[Nat.zero_add,Nat.sub_add_cancel h]
   ·have e:min (-1074+(k:Int)) (-1074+(l:Int))= -1074+l:=by omega
    rw[e]
    have a1:(-1074+(k:Int) - (-1074+l)).toNat=k - l:=by omega
    have a2:(-1074+(l:Int) - (-1074+l)).toNat=0:=by omega
    rw[a1,a2,←Zeb _ _ (2^l) (Nat.two_pow_pos _),sg,sg]
    first|rw[Nat.zero_add,Nat.sub_add_cancel h]
  ·obtain⟨m,k,e1,v1⟩:=Pd x hx
   rw[e1,Pc y hy,hy]
   have: ¬INF<sz x:=by omega
   simp only[*,decide_false,Bool.or_self,Bool.false_eq_true,if_false,Nat.lt_irrefl]
   unfold Datum.order
   simp only[Option.some.injEq]
   cases ng y
   ·rw[if_neg (by decide)];symm;rw[Int.compare_eq_lt];unfold sgn;simp only[Bool.false_eq_true,if_false];split<;>omega
   ·rw[if_pos (by decide)];symm;rw[Int.compare_eq_gt];unfold sgn;simp only[if_true];split<;>omega
  ·have:INF<sz y:=hy
   obtain⟨m,k,e1,v1⟩:=Pd x hx
   rw[e1,Ze y hy]
   simp[this,Datum.order]
 ·rcases Nat.lt_trichotomy (sz y) INF with hy|hy|hy
  ·obtain⟨m,k,e1,v1⟩:=Pd y hy
   rw[e1,Pc x hx,hx]
   have: ¬INF<sz y:=by omega
   simp only[*,decide_false,Bool.or_self,Bool.false_eq_true,if_false,Nat.lt_irrefl]
   unfold Datum.order
   simp only[Option.some.injEq]
   cases ng x
   ·rw[if_neg (by decide)];symm;rw[Int.compare_eq_gt];unfold sgn;simp only[Bool.false_eq_true,if_false];split<;>omega
   ·rw[if_pos (by decide)];symm;rw[Int.compare_eq_lt];unfold sgn;simp only[if_true];split<;>omega
  ·rw[Pc x hx,Pc y hy,hx,hy]
   simp only[decide_false,Bool.or_self,Bool.false_eq_true,if_false,Nat.lt_irrefl]
   unfold Datum.order
   cases ng x<;>cases ng y<;>decide
  ·rw[Pc x hx,Ze y hy]
   simp[hy,Datum.order]
 ·rw[Ze x hx]
  simp[hx,Datum.order]

theorem pl_eqD (x y:Nat) (hx:x<2^64) (hy:y<2^64):pl x=pl y↔(x=y∨(sz x=0/\sz y=0)):=by
 unfold pl ng sz
 by_cases h1:x / 2^63 % 2=1<;>by_cases h2:y / 2^63 % 2=1<;>simp[h1,h2]<;>omega

theorem eqF (x y:Nat) (hx:x<2^64) (hy:y<2^64):(double.order x y==some .eq)=(!isN x && !isN y && (decide (x=y)||(decide (sz x=0) && decide (sz y=0)))):=by
 rw[Zb9]
 have h:=pl_eqD x y hx hy
 cases isN x<;>cases isN y<;>simp
 rw[Bool.eq_iff_iff]
 simp[h]

theorem nanF (x:Nat):(double.order x x !=some .eq)=isN x:=by
 rw[Zb9]
 cases isN x<;>simp

end Go.Proofs.YtfnohipnenkhoaaGreatDoor.FM
namespace Go.Proofs.YtfnohipnenkhoaaGreatDoor
set_option maxRecDepth 100000
set_option maxHeartbeats 16000000
section
open Go.RowKit FM
theorem Kf (b:Nat) (w:World):(callFunc 26 #[.float .f64 b]).run Tryz.prog w= .ok (.value (.int .u64 (b:Int))) w:=by
 rw[run_callFunc_extern Tryz.func26 (by kernel_rfl) (by kernel_rfl) (by kernel_rfl) (e:=Extern.MathFloatBits.float64bits) (by kernel_rfl)];rfl
attribute [local go_sem] Kf
theorem rb {a b:Bool} (h:a=b):Ending.returned (.bool a)=Ending.returned (.bool b):=by rw[h]
theorem Gy (b:Nat) (w:World):Calls Tryz.prog 134 #[.float .f64 b] w fun e w'=>e= .returned (.bool (isN b))/\w'=w:=by
 go_enter Tryz.func134,Tryz.ntmps134
 go_wp2
 go_ret
 exact⟨by rw[←nanF];rfl,rfl⟩
def Ms (x y:Nat):Bool:=(isN x && isN y)||decide (x=y)
def ZcU (x y:Nat):Bool:=Ms x y||(decide (sz x=0) && decide (sz y=0))
def Zdj (x y:Nat):Bool:= !isN x && !isN y && ZcU x y
theorem fo (x y:Nat):FloatKind.f64.format.order x y=Ieee.double.order x y:=rfl
theorem sz0_nan {b:Nat} (h:sz b=0):isN b=false:=by
 unfold isN;rw[h];decide

theorem same_any (x y:Nat) (w:World):Calls Tryz.prog 131 #[.float .f64 x, .float .f64 y] w fun e w'=>e= .returned (.bool (Ms x y))/\w'=w:=by
 cases hx:isN x
 ·cases hy:isN y
  ·go_enter Tryz.func131,Tryz.ntmps131
   go_wp2_with fail
   refine(Gy x _).mono ?_
   rintro e w' ⟨rfl,rfl⟩
   rw[hx]
   go_wp2_with fail
   refine(Gy y _).mono ?_
   rintro e w' ⟨rfl,rfl⟩
   rw[hy]
   go_wp2
   go_ret
   refine⟨rb ?_,rfl⟩
   unfold Ms
   rw[hx,hy,Bool.eq_iff_iff]
   simp
   omega
  ·go_enter Tryz.func131,Tryz.ntmps131
   go_wp2_with fail
   refine(Gy x _).mono ?_
   rintro e w' ⟨rfl,rfl⟩
   rw[hx]
   go_wp2_with fail
   refine(Gy y _).mono ?_
   rintro e w' ⟨rfl,rfl⟩
   rw[hy]
   go_wp2_with fail
   refine(Gy x _).mono ?_
   rintro e w' ⟨rfl,rfl⟩
   rw[hx]
   go_wp2
   go_ret
   refine⟨rb ?_,rfl⟩
   unfold Ms
   have hne:x≠y:=fun e=>by rw[e,hy] at hx;cases hx
   simp[hx,hne]
 ·cases hy:isN y
  ·go_enter Tryz.func131,Tryz.ntmps131
   go_wp2_with fail
   refine(Gy x _).mono ?_
   rintro e w' ⟨rfl,rfl⟩
   rw[hx]
   go_wp2_with fail
   refine(Gy x _).mono ?_
   rintro e w' ⟨rfl,rfl⟩
   rw[hx]
   go_wp2_with fail
   refine(Gy y _).mono ?_
   rintro e w' ⟨rfl,rfl⟩
   rw[hy]
   go_wp2
   go_ret
   refine⟨rb ?_,rfl⟩
   unfold Ms
   have hne:x≠y:=fun e=>by rw[e,hy] at hx;cases hx
   simp[hy,hne]
  ·go_enter Tryz.func131,Tryz.ntmps131
   go_wp2_with fail
   refine(Gy x _).mono ?_
   rintro e w' ⟨rfl,rfl⟩
   rw[hx]
   go_wp2_with fail
   refine(Gy x _).mono ?_
   rintro e w' ⟨rfl,rfl⟩
   rw[hx]
   go_wp2_with fail
   refine(Gy y _).mono ?_
   rintro e w' ⟨rfl,rfl⟩
   rw[hy]
   go_wp2
   go_ret
   refine⟨rb ?_,rfl⟩
   simp[Ms,hx,hy]
theorem eq_order (x y:Nat) (hx64:x<2^64) (hy64:y<2^64):(FloatKind.f64.format.order x y==some .eq)=Zdj x y:=by
 rw[fo,eqF x y hx64 hy64]
 unfold Zdj ZcU Ms
 cases isN x<;>cases isN y<;>simp
end
end Go.Proofs.YtfnohipnenkhoaaGreatDoor
namespace Go.Proofs
open Go.Shelf
def Tryz.laysM316_ren:Go.Shelf.Ren:=⟨fun|316=>120|n=>n,fun|9=>9|3=>3|4=>4|37=>56|0=>0|127=>203|5=>5|n=>n,fun|n=>n⟩
theorem Tryz.laysM316:Go.Proofs.LaysM.n316 Tryz.prog Tryz.laysM316_ren:={
 mixed:=by kernel_rfl
 f316:=Tryz.func120.trans (congrArg some (by kernel_rfl))
 t0:=Tryz.underlying0
 a0:=Tryz.isAgg0
 z0:=Tryz.sizeOf0
 v0:=Tryz.zeroValue0
 t3:=Tryz.underlying3
 a3:=Tryz.isAgg3
 z3:=Tryz.sizeOf3
 v3:=Tryz.zeroValue3
 t4:=Tryz.underlying4
 a4:=Tryz.isAgg4
 z4:=Tryz.sizeOf4
 v4:=Tryz.zeroValue4
 t9:=Tryz.underlying9
 a9:=Tryz.isAgg9
 z9:=Tryz.sizeOf9
 v9:=Tryz.zeroValue9
 t37:=Tryz.underlying56
 a37:=Tryz.isAgg56
 z37:=Tryz.sizeOf56
 v37:=Tryz.zeroValue56
 t127:=Tryz.underlying203
 a127:=Tryz.isAgg203
 z127:=Tryz.sizeOf203
 v127:=Tryz.zeroValue203
 t5:=Tryz.underlying5
 a5:=Tryz.isAgg5
 z5:=Tryz.sizeOf5
 v5:=Tryz.zeroValue5
 i0:=by kernel_rfl
 i3:=by kernel_rfl
 i4:=by kernel_rfl
 i5:=by kernel_rfl
 i9:=by kernel_rfl
 i37:=by kernel_rfl
 i127:=by kernel_rfl}
open Go.RowKit in
/-- internal/stringslite.Clone (what strings.Clone calls): "Clone returns a fresh copy of s.": THE SAME BYTES. Of what was there nothing has turned (a new row is laid, and frozen, where s is not empty). (LAID: no walk: one application.) -/
theorem Tryz.stringslite_Clone (s:ByteArray) (w:World) (hlim:s.size<=281474976710656):
  Calls Tryz.prog 120 #[.string s] w fun e w'=>e= .returned (.string s)/\Below w.heap.size w w':=Any.stringslite_Clone Tryz.laysM316 s w hlim
end Go.Proofs
namespace Go.Proofs.YtfnohipnenkhoaaGreatDoor
set_option maxRecDepth 100000
set_option maxHeartbeats 16000000
section
open Go.RowKit
attribute [local go_sem] Kf
structure VV where
 k:Int
 b:Bool
 x:Nat
 s:ByteArray
 i:Int
def VV.agg (v:VV):Value:= .agg #[.int .i64 v.k, .bool v.b, .float .f64 v.x, .string v.s, .int .i64 v.i]
def VV.ifc (v:VV):Value:=
 if v.k=1 then .iface 165 (.agg #[]) else if v.k=2 then .iface 166 (.agg #[]) else if v.k=3 then .iface 167 (.bool v.b) else if v.k=4 then .iface 168 (.float .f64 v.x)
 else if v.k=5 then .iface 170 (.string v.s) else if v.k=6 then .iface 171 (.int .i64 v.i) else .iface 172 (.int .i64 v.i)
def Zbb (k:Int) (b:Bool) (x:Nat) (s:ByteArray) (i:Int):Bool:=
 b && k !=3||x !=0 && k !=4|| !s.toList.isEmpty && k !=5||i !=0 && k !=6 && k !=7

theorem ZcN (k:Int) (b:Bool) (x:Nat) (s:ByteArray) (i:Int) (w:World):
  Calls Tryz.prog 101 #[.agg #[.int .i64 k, .bool b, .float .f64 x, .string s, .int .i64 i]] w fun e w'=>e= .returned (.bool (Zbb k b x s i))/\Below w.heap.size w w':=by
 unfold Zbb
 cases b
 all_goals
  go_enter Tryz.func101,Tryz.ntmps101
  go_wp2
  all_goals
   go_ret
   refine⟨?_,(Below.refl _ _).alloc (Nat.le_refl _) _⟩
   simp[*]
def Zab (s:ByteArray):Bool:=decide (s.size<=1048576) && M.valid false (Dz s)
theorem fits_any (s:ByteArray) (w:World) (hT:Lib.Utf8Tabs 1 2 w):
  Calls Tryz.prog 102 #[.string s] w fun e w'=>e= .returned (.bool (Zab s))/\Below w.heap.size w w':=by
 have HV:=Ab (Zek s w hT)
 clear hT
 unfold Zab
 by_cases h:s.size<=1048576
 ·have h':(s.size:Int)<=1048576:=by omega
  go_enter Tryz.func102,Tryz.ntmps102
  go_wp2_with fail
  refine(Aa HV).mono ?_
  rintro e w1 ⟨rfl,hb⟩
  go_wp2
  go_ret
  refine⟨?_,hb⟩
  rw[decide_eq_true h]
  rfl
 ·have h': ¬(s.size:Int)<=1048576:=by omega
  go_enter Tryz.func102,Tryz.ntmps102
  go_wp2
  go_ret
  exact⟨rfl,Below.refl _ _⟩
def inG (st ft:Bool) (k i:Int):Bool:=
 !st && (k==1||k==2||k==3||k==4||k==5 && ft||k==6 && decide (1<=i) && decide (i<=65536)||k==7 && decide (1<=i) && decide (i<=65536))
def inI (st ft:Bool) (v:VV):Value:=if inG st ft v.k v.i then v.ifc else .nilIface
def Mz (k:Int) (b:Bool) (x:Nat) (s:ByteArray) (i:Int):Bool:=inG (Zbb k b x s i) (Zab s) k i
def Zcl (v:VV):Value:=inI (Zbb v.k v.b v.x v.s v.i) (Zab v.s) v
def VV.good (v:VV):Bool:=Mz v.k v.b v.x v.s v.i
theorem five {w w1:World} {c0 c1 c2 c3 c4:Value} {t:TypeId} (hb:Below (w.alloc (Obj.cells #[c0,c1,c2,c3,c4] t)).heap.size (w.alloc (Obj.cells #[c0,c1,c2,c3,c4] t)) w1):
  w1.cell? ⟨w.heap.size,0,none⟩=some c0/\w1.cell? ⟨w.heap.size,1,none⟩=some c1/\w1.cell? ⟨w.heap.size,2,none⟩=some c2/\w1.cell? ⟨w.heap.size,3,none⟩=some c3/\w1.cell? ⟨w.heap.size,4,none⟩=some c4/\
  Below w.heap.size w w1/\w.heap.size<w1.heap.size:=by
 have h0:=hb.cell (p:=⟨w.heap.size,0,none⟩) (by simp)
 have h1:=hb.cell (p:=⟨w.heap.size,1,none⟩) (by simp)
 have h2:=hb.cell (p:=⟨w.heap.size,2,none⟩) (by simp)
 have h3:=hb.cell (p:=⟨w.heap.size,3,none⟩) (by simp)
 have h4:=hb.cell (p:=⟨w.heap.size,4,none⟩) (by simp)
 simp[go_sem] at h0 h1 h2 h3 h4
 refine⟨h0,h1,h2,h3,h4,((Below.refl _ _).alloc (Nat.le_refl _) _).trans (hb.mono (by simp)), ?_⟩
 have:=hb.size
 simp at this
 omega
theorem Oe (k:Int) (b:Bool) (x:Nat) (s:ByteArray) (i:Int) (w:World) (hT:Lib.Utf8Tabs 1 2 w):
  Calls Tryz.prog 76 #[.agg #[.int .i64 k, .bool b, .float .f64 x, .string s, .int .i64 i]] w fun e w'=>e= .returned (.tuple #[Zcl ⟨k,b,x,s,i⟩, .bool (Mz k b x s i)])/\Below w.heap.size w w':=by
 have HS:=Ab (fun w=>ZcN k b x s i w)
 have HF:=Ab (fun w (hT:Lib.Utf8Tabs 1 2 w)=>fits_any s w hT)
 have HT:=Ab hT
 clear hT
 unfold Mz Zcl
 dsimp only
 generalize Zbb k b x s i=st at *
 generalize Zab s=ft at *
 cases st
 ·by_cases e5:k=5
  ·subst e5
   go_enter Tryz.func76,Tryz.ntmps76
   go_wp2_with fail
   refine(Aa HS _).mono ?_
   rintro e w1 ⟨rfl,hb⟩
   obtain⟨c0,c1,c2,c3,c4,hB,hsz⟩:=five hb
   clear hb
   go_wp2_with fail
   refine(Aa HF _ (Ar (Aa HT) hB)).mono ?_
   rintro e w2 ⟨rfl,hb2⟩
   have d3:=hb2.cell (p:=⟨w.heap.size,3,none⟩) hsz
   rw[c3] at d3
   cases ft
   ·have d0:=hb2.cell (p:=⟨w.heap.size,0,none⟩) hsz
    rw[c0] at d0
    go_wp2
    go_ret2
    exact⟨by simp[inG,inI],hB.trans (hb2.mono hB.size)⟩
   ·go_wp2
    go_ret2
    exact⟨by simp[inG,inI,VV.ifc],hB.trans (hb2.mono hB.size)⟩
  ·have hk:k=1∨k=2∨k=3∨k=4∨k=6∨k=7∨(k==1)=false/\(k==2)=false/\(k==3)=false/\(k==4)=false/\(k==5)=false/\(k==6)=false/\(k==7)=false:=by
    simp only[beq_eq_false_iff_ne]
    omega
   clear e5 HF HT
   rcases hk with rfl|rfl|rfl|rfl|rfl|rfl|⟨e1,e2,e3,e4,e5,e6,e7⟩
   all_goals
    go_enter Tryz.func76,Tryz.ntmps76
    go_wp2_with fail
    refine(Aa HS _).mono ?_
    rintro e w1 ⟨rfl,hb⟩
    obtain⟨c0,c1,c2,c3,c4,hB,hsz⟩:=five hb
    clear hb HS
    go_wp2
    all_goals
     go_ret2
     refine⟨?_,hB⟩
     simp[inG,inI,VV.ifc, *]
     try omega
 ·go_enter Tryz.func76,Tryz.ntmps76
  go_wp2_with fail
  refine(Aa HS _).mono ?_
  rintro e w1 ⟨rfl,hb⟩
  obtain⟨c0,c1,c2,c3,c4,hB,hsz⟩:=five hb
  go_wp2
  go_ret2
  exact⟨by simp[inG,inI],hB⟩
theorem Uq {s:ByteArray} (h:s.toList.isEmpty=true):s=ByteArray.empty:=by
 cases s with
 |mk d=>
  rw[Lib.toList_data] at h
  have:d.toList= []:=by simpa using h
  have h2:d= #[]:=Array.toList_inj.1 (by simpa using this)
  subst h2;rfl
theorem Gr {k:Int} {b:Bool} {x:Nat} {s:ByteArray} {i:Int} (h:Mz k b x s i=true):
  (k=1/\b=false/\x=0/\s=ByteArray.empty/\i=0)∨(k=2/\b=false/\x=0/\s=ByteArray.empty/\i=0)∨(k=3/\x=0/\s=ByteArray.empty/\i=0)∨(k=4/\b=false/\s=ByteArray.empty/\i=0)∨
  (k=5/\b=false/\x=0/\i=0/\Zab s=true)∨(k=6/\b=false/\x=0/\s=ByteArray.empty/\1<=i/\i<=65536)∨(k=7/\b=false/\x=0/\s=ByteArray.empty/\1<=i/\i<=65536):=by
 have hs:= @Uq s
 unfold Mz inG Zbb at h
 generalize Zab s=ft at *
 generalize s.toList.isEmpty=q at *
 have hk:k=1∨k=2∨k=3∨k=4∨k=5∨k=6∨k=7:=by
  simp at h
  omega
 rcases hk with rfl|rfl|rfl|rfl|rfl|rfl|rfl<;>cases b<;>cases q<;>simp at h hs<;>simp[h,hs]
theorem ZaT (s:ByteArray) (w:World) (h:s.size<=1048576):Calls Tryz.prog 111 #[.string s] w fun e w'=>e= .returned (.string s)/\Below w.heap.size w w':=by
 have HC:=Ab (Tryz.stringslite_Clone s w (by omega))
 go_enter Tryz.func111,Tryz.ntmps111
 go_wp2_with fail
 refine(Aa HC).mono ?_
 rintro e w1 ⟨rfl,hb⟩
 go_wp2
 go_ret
 exact⟨rfl,hb⟩
end
section
open Go Go.Proofs Go.RowKit Go.Sort Tryz
theorem LiesU.gb {w w':World} {blk:Nat} {d:Array Nat} {o:Option Nat} (h:LiesU w blk d) (hg:w.grownBy w' o) (hne:some blk≠o):LiesU w' blk d:=h.grown (hg.block blk h.lt hne)
theorem Zm (blk cap a b c B s:Nat) (d:Array Nat) (w:World) (hL:LiesU w blk d) (hP:Pt w B s) (hB:blk≠B) (hs:s<=50) (ha:a<d.size) (hb:b<d.size) (hc:c<d.size) (hsz:d.size<=1500000):
  Calls prog 203 #[.slice (some ⟨blk,0,none⟩) d.size cap, .int .i64 a, .int .i64 b, .int .i64 c, .pointer (some ⟨B,0,none⟩)] w fun e w'=> ∃m s':Nat,e= .returned (.int .i64 m)/\(m=a∨m=b∨m=c)/\s'<=s+3/\Pt w' B s'/\w.grownBy w' (some B):=by
 have HL:=Ab hL
 have HP:=Ab hP
 have hBn:some blk≠some B:=fun e=>hB (Option.some.inj e)
 clear hL hP
 go_enter func203,ntmps203
 go_wp2_with fail
 refine(Zbo blk cap a b B s d w (Aa HL) (Aa HP) (by omega) ha hb hsz).mono ?_
 rintro e w1 ⟨x1,y1,s1,rfl,h1,hs1,hP1,hG1⟩
 have HL1:=Ab ((Aa HL).gb hG1 hBn)
 have HP1:=Ab hP1
 have HG1:=Ab hG1
 clear hP1 hG1
 go_wp2_with fail
 refine(Zbo blk cap y1 c B s1 d w1 (Aa HL1) (Aa HP1) (by omega) (by omega) hc hsz).mono ?_
 rintro e w2 ⟨x2,y2,s2,rfl,h2,hs2,hP2,hG2⟩
 have HL2:=Ab ((Aa HL1).gb hG2 hBn)
 have HP2:=Ab hP2
 have HG2:=Ab (Bz (Aa HG1) hG2)
 clear hP2 hG2
 go_wp2_with fail
 refine(Zbo blk cap x1 x2 B s2 d w2 (Aa HL2) (Aa HP2) (by omega) (by omega) (by omega) hsz).mono ?_
 rintro e w3 ⟨x3,y3,s3,rfl,h3,hs3,hP3,hG3⟩
 have HF:=Ab (And.intro hP3 (Bz (Aa HG2) hG3))
 clear hP3 hG3
 go_wp2
 go_ret
 exact⟨y3,s3,rfl,by omega,by omega,(Aa HF).1,(Aa HF).2⟩
theorem Rp (blk cap a B s:Nat) (d:Array Nat) (w:World) (hL:LiesU w blk d) (hP:Pt w B s) (hB:blk≠B) (hs:s<=50) (ha:0<a) (ha2:a+1<d.size) (hsz:d.size<=1500000):
  Calls prog 202 #[.slice (some ⟨blk,0,none⟩) d.size cap, .int .i64 a, .pointer (some ⟨B,0,none⟩)] w fun e w'=> ∃m s':Nat,e= .returned (.int .i64 m)/\(m=a - 1∨m=a∨m=a+1)/\s'<=s+3/\Pt w' B s'/\w.grownBy w' (some B):=by
 have HM:=Ab (Zm blk cap (a - 1) a (a+1) B s d w hL hP hB hs (by omega) (by omega) ha2 hsz)
 clear hL hP
 have z1:IntKind.i64.wrap ((a:Int) - 1)=((a - 1:Nat):Int):=by rw[IntKind.wrap_i64];omega
 have z2:IntKind.i64.wrap ((a:Int)+1)=((a+1:Nat):Int):=by rw[IntKind.wrap_i64];omega
 go_enter func202,ntmps202
 go_wp2_with fail
 refine(Aa HM).mono ?_
 rintro e w1 ⟨m,s1,rfl,h1,hs1,hP1,hG1⟩
 have HF:=Ab (And.intro hP1 hG1)
 clear hP1 hG1
 go_wp2
 go_ret
 exact⟨m,s1,rfl,h1,hs1,(Aa HF).1,(Aa HF).2⟩
theorem pivot64 (blk cap a b:Nat) (d:Array Nat) (w:World) (hL:LiesU w blk d) (hab:a<b) (hb:b<=d.size) (hsz:d.size<=1500000):
  Calls prog 190 #[.slice (some ⟨blk,0,none⟩) d.size cap, .int .i64 a, .int .i64 b] w fun e w'=> ∃p h:Nat,e= .returned (.tuple #[.int .i64 p, .int .i64 h])/\a<=p/\p<b/\h<=2/\w.grownBy w' none:=by
 have HL:=Ab hL
 have hlt:=hL.lt
 clear hL
 obtain⟨l,hl⟩: ∃l,l=b - a:=⟨_,rfl⟩
 obtain⟨q,hq⟩: ∃q,q=l / 4:=⟨_,rfl⟩
 obtain⟨i,hi⟩: ∃i,i=a+q:=⟨_,rfl⟩
 obtain⟨j,hj⟩: ∃j,j=a+2 * q:=⟨_,rfl⟩
 obtain⟨k,hk⟩: ∃k,k=a+3 * q:=⟨_,rfl⟩
 have z1:IntKind.i64.wrap ((b:Int) - a)=(l:Int):=by rw[IntKind.wrap_i64];omega
 have z2:(l:Int).tdiv 4=(q:Int):=by rw[Int.tdiv_eq_ediv_of_nonneg (by omega)];omega
 have z2':(l:Int) / 4=(q:Int):=by omega
 have z3:IntKind.i64.wrap ((q:Int))=(q:Int):=by rw[IntKind.wrap_i64];omega
 have z4:IntKind.i64.wrap ((q:Int) * 2)=2 * (q:Int):=by rw[IntKind.wrap_i64];omega
 have z5:IntKind.i64.wrap ((q:Int) * 3)=3 * (q:Int):=by rw[IntKind.wrap_i64];omega
 have z6:IntKind.i64.wrap ((a:Int)+q)=(i:Int):=by rw[IntKind.wrap_i64];omega
 have z7:IntKind.i64.wrap ((a:Int)+2 * (q:Int))=(j:Int):=by rw[IntKind.wrap_i64];omega
 have z8:IntKind.i64.wrap ((a:Int)+3 * (q:Int))=(k:Int):=by rw[IntKind.wrap_i64];omega
 have HQ:=Ab (And.intro hl (And.intro hq (And.intro hi (And.intro hj hk))))
 clear hl hq hi hj hk
 have hP0:Pt (w.alloc (Obj.cells #[Value.int IntKind.i64 0] 3)) w.heap.size 0:=(show (w.heap.push _)[w.heap.size]? =_ from Array.getElem?_push_size)
 have HP0:=Ab hP0
 have hL0:=(Aa HL).grown (((Below.refl _ _).alloc (Nat.le_refl _) (Obj.cells #[Value.int IntKind.i64 0] 3)).block blk hlt)
 have HL0:=Ab hL0
 have HG0:Hid (∀X,(w.alloc (Obj.cells #[Value.int IntKind.i64 0] 3)).grownBy X (some w.heap.size)->w.grownBy X none):=Ab (fun X hX=>by
  have b0:=(Below.refl w.heap.size w).alloc (Nat.le_refl _) (Obj.cells #[Value.int IntKind.i64 0] 3)
  exact⟨hX.os.trans b0.os,hX.tape.trans b0.tape,hX.output.trans b0.output,Nat.le_trans b0.size hX.size,fun c hc _=>by
   rw[hX.block c (Nat.lt_of_lt_of_le hc b0.size) (fun e=>by cases e;omega)]
   exact b0.block c hc⟩)
 have hBB:blk≠w.heap.size:=by omega
 have hBn:some blk≠some w.heap.size:=fun e=>hBB (Option.some.inj e)
 clear hP0 hL0
 by_cases h50:50<=l
 ·have y1:(50:Int)<=l:=by omega
  have y2:(8:Int)<=l:=by omega
  go_enter func190,ntmps190
  go_wp2_with fail
  refine(Rp blk cap i w.heap.size 0 d _ (Aa HL0) (Aa HP0) hBB (by omega) (by have:=Aa HQ;omega) (by have:=Aa HQ;omega) hsz).mono ?_
  rintro e w1 ⟨i1,s1,rfl,h1,hs1,hP1,hG1⟩
  have HL1:=Ab ((Aa HL0).gb hG1 hBn)
  have HP1:=Ab hP1
  have HG1:=Ab hG1
  clear hP1 hG1
  go_wp2_with fail
  refine(Rp blk cap j w.heap.size s1 d w1 (Aa HL1) (Aa HP1) hBB (by omega) (by have:=Aa HQ;omega) (by have:=Aa HQ;omega) hsz).mono ?_
  rintro e w2 ⟨j1,s2,rfl,h2,hs2,hP2,hG2⟩
  have HL2:=Ab ((Aa HL1).gb hG2 hBn)
  have HP2:=Ab hP2
  have HG2:=Ab (Bz (Aa HG1) hG2)
  clear hP2 hG2
  go_wp2_with fail
  refine(Rp blk cap k w.heap.size s2 d w2 (Aa HL2) (Aa HP2) hBB (by omega) (by have:=Aa HQ;omega) (by have:=Aa HQ;omega) hsz).mono ?_
  rintro e w3 ⟨k1,s3,rfl,h3,hs3,hP3,hG3⟩
  have HL3:=Ab ((Aa HL2).gb hG3 hBn)
  have HP3:=Ab hP3
  have HG3:=Ab (Bz (Aa HG2) hG3)
  clear hP3 hG3
  go_wp2_with fail
  refine(Zm blk cap i1 j1 k1 w.heap.size s3 d w3 (Aa HL3) (Aa HP3) hBB (by omega) (by have:=Aa HQ;omega) (by have:=Aa HQ;omega) (by have:=Aa HQ;omega) hsz).mono ?_
  rintro e w4 ⟨m,s4,rfl,h4,hs4,hP4,hG4⟩
  obtain⟨p1,p2,p3⟩:=hP4.cell
  have HF:=Ab (Aa HG0 _ (Bz (Aa HG3) hG4))
  have HR:=Ab (show a<=m/\m<b by have:=Aa HQ;omega)
  clear hP4 hG4 h1 h2 h3 h4
  go_wp2
  all_goals
   go_ret2
   first
    |exact⟨m,1,rfl,(Aa HR).1,(Aa HR).2,by omega,Aa HF⟩
    |exact⟨m,2,rfl,(Aa HR).1,(Aa HR).2,by omega,Aa HF⟩
    |exact⟨m,0,rfl,(Aa HR).1,(Aa HR).2,by omega,Aa HF⟩
 ·by_cases h8:8<=l
  ·have y1: ¬(50:Int)<=l:=by omega
   have y2:(8:Int)<=l:=by omega
   go_enter func190,ntmps190
   go_wp2_with fail
   refine(Zm blk cap i j k w.heap.size 0 d _ (Aa HL0) (Aa HP0) hBB (by omega) (by have:=Aa HQ;omega) (by have:=Aa HQ;omega) (by have:=Aa HQ;omega) hsz).mono ?_
   rintro e w4 ⟨m,s4,rfl,h4,hs4,hP4,hG4⟩
   obtain⟨p1,p2,p3⟩:=hP4.cell
   have HF:=Ab (Aa HG0 _ hG4)
   have HR:=Ab (show a<=m/\m<b by have:=Aa HQ;omega)
   clear hP4 hG4 h4
   go_wp2
   all_goals
    go_ret2
    first
     |exact⟨m,1,rfl,(Aa HR).1,(Aa HR).2,by omega,Aa HF⟩
     |exact⟨m,2,rfl,(Aa HR).1,(Aa HR).2,by omega,Aa HF⟩
     |exact⟨m,0,rfl,(Aa HR).1,(Aa HR).2,by omega,Aa HF⟩
  ·have y1: ¬(50:Int)<=l:=by omega
   have y2: ¬(8:Int)<=l:=by omega
   have HF:=Ab (Aa HG0 _ (Kv _ _))
   have HR:=Ab (show a<=j/\j<b by have:=Aa HQ;omega)
   go_enter func190,ntmps190
   go_wp2
   go_ret2
   exact⟨j,1,rfl,(Aa HR).1,(Aa HR).2,by omega,Aa HF⟩
end
section
open Go Go.Proofs Go.RowKit Go.Sort
def Rn (w:World) (B:Nat) (n:Nat):Prop:=w.heap[B]? =some (.cells #[.int .u64 (n:Int)] 264 (0,0))
theorem Rn.cell {w:World} {B n:Nat} (h:Rn w B n):w.cell? ⟨B,0,none⟩=some (.int .u64 (n:Int))/\w.frozen? ⟨B,0,none⟩=false/\B<w.heap.size:=by
 unfold Rn at h
 exact⟨by simp[go_sem,World.cell?,h],by simp[go_sem,World.frozen?,h],(Array.getElem?_eq_some_iff.1 h).1⟩
theorem next80 (B r:Nat) (w:World) (h:Rn w B r) (hr:r<2^64):
  Calls Tryz.prog 201 #[.pointer (some ⟨B,0,none⟩)] w fun e w'=> ∃r':Nat,r'<2^64/\e= .returned (.int .u64 r')/\Rn w' B r'/\w.grownBy w' (some B):=by
 obtain⟨c,f,hl⟩:=h.cell
 obtain⟨s1,hs1⟩: ∃s1,s1=r * 8192 % 18446744073709551616:=⟨_,rfl⟩
 have a1:IntKind.u64.wrap ((r:Int) * 8192)=(s1:Int):=by simp[IntKind.wrap,IntKind.bits,IntKind.signed];omega
 obtain⟨r1,hr1⟩: ∃r1,r1=r^^^s1:=⟨_,rfl⟩
 have l1:r1<2^64:=by rw[hr1];exact Nat.xor_lt_two_pow hr (by omega)
 have b1:bits .xor .u64 (r:Int) (s1:Int)=(r1:Int):=by rw[hr1];exact u64_xor_nat r s1 hr (by omega)
 obtain⟨s2,hs2⟩: ∃s2,s2=r1 / 128:=⟨_,rfl⟩
 have a2:(r1:Int) / 128=(s2:Int):=by omega
 obtain⟨r2,hr2⟩: ∃r2,r2=r1^^^s2:=⟨_,rfl⟩
 have l2:r2<2^64:=by rw[hr2];exact Nat.xor_lt_two_pow l1 (by omega)
 have b2:bits .xor .u64 (r1:Int) (s2:Int)=(r2:Int):=by rw[hr2];exact u64_xor_nat r1 s2 l1 (by omega)
 obtain⟨s3,hs3⟩: ∃s3,s3=r2 * 131072 % 18446744073709551616:=⟨_,rfl⟩
 have a3:IntKind.u64.wrap ((r2:Int) * 131072)=(s3:Int):=by simp[IntKind.wrap,IntKind.bits,IntKind.signed];omega
 obtain⟨r3,hr3⟩: ∃r3,r3=r2^^^s3:=⟨_,rfl⟩
 have l3:r3<2^64:=by rw[hr3];exact Nat.xor_lt_two_pow l2 (by omega)
 have b3:bits .xor .u64 (r2:Int) (s3:Int)=(r3:Int):=by rw[hr3];exact u64_xor_nat r2 s3 l2 (by omega)
 have HL:=Ab (And.intro l3 h)
 clear l1 l2 l3 hr h hs1 hr1 hs2 hr2 hs3 hr3
 go_enter Tryz.func201,Tryz.ntmps201
 go_wp2_with fail
 go_region
 all_goals go_wp2_with fail
 go_region
 all_goals go_wp2_with fail
 go_region
 obtain⟨X,hX⟩: ∃X,X=(((w.setCell ⟨B,0,none⟩ (.int .u64 (r1:Nat))).setCell ⟨B,0,none⟩ (.int .u64 (r2:Nat))).setCell ⟨B,0,none⟩ (.int .u64 (r3:Nat))).drew.drew.drew:=⟨_,rfl⟩
 have hR:Rn X B r3:=by
  have h:=(Aa HL).2
  unfold Rn at *
  rw[hX]
  show ((((w.setCell ⟨B,0,none⟩ (.int .u64 (r1:Nat))).setCell ⟨B,0,none⟩ (.int .u64 (r2:Nat))).setCell ⟨B,0,none⟩ (.int .u64 (r3:Nat)))).heap[B]? =_
  simp[World.setCell,Array.getElem?_modify,h]
 have hG:w.grownBy X (some B):=by
  rw[hX]
  have g0:=Bz (Bz (Vh w B 0 (.int .u64 (r1:Nat))) (Vh _ B 0 (.int .u64 (r2:Nat)))) (Vh _ B 0 (.int .u64 (r3:Nat)))
  exact⟨g0.os,g0.tape,g0.output,g0.size,g0.block⟩
 rw[←hX]
 have HF:=Ab (And.intro hR hG)
 obtain⟨c',f',hl'⟩:=hR.cell
 clear hX hR hG
 go_wp2
 go_ret
 exact⟨r3,(Aa HL).1,rfl,(Aa HF).1,(Aa HF).2⟩
end
end Go.Proofs.YtfnohipnenkhoaaGreatDoor
