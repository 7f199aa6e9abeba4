import Derived.Test.YtfnohipnenkhoaaGreatDoorQd
import Derived.Test.YtfnohipnenkhoaaGreatDoorQh
import Derived.Maps.OwnSet
import Derived.Maps.Own
import Derived.DeepKeys4
import Derived.Laws.OwnMore
import Derived.Laws.MakeOwn
import Derived.Deep.MidRow
import Derived.BigFrame
import Derived.Laws.AppendOwnNone
import Derived.OwnWalk
import Derived.Great.BuildSlice
import Derived.RangeFuncRecord
import Derived.Shelf.Strconv.Itoa0
import Derived.Shelf.Strconv.Itoa1
import Derived.Shelf.Small.Bits
import Derived.Shelf.Strconv.Itoa2
set_option linter.all false
namespace Go.Proofs.YtfnohipnenkhoaaGreatDoor
set_option maxRecDepth 100000
set_option maxHeartbeats 0
section
open Go Go.Proofs Go.Maps Tryz
theorem ZbE:laidOutB prog=true:=by kernel_rfl
theorem row33:(48:TypeId)<prog.types.size:=of_decide_eq_true (by kernel_rfl)
theorem key33:prog.keyTypeAt 2 48=true:=by kernel_rfl
theorem Zz:Keyed prog 48:=Keyed.of_law (deep_law_laid ZbE (m:=2) (by omega) row33 key33 (by rw[underlying48]))
theorem keyT33:prog.keyType 48=true:=by kernel_rfl
theorem Zcd:decide ((1:Nat)<=prog.types.size)=true:=by kernel_rfl
theorem Zc7: ∃n:Nat,prog.types.size+1=n+2:=by
 have h:(1:Nat)<=prog.types.size:=of_decide_eq_true Zcd
 generalize prog.types.size=m at h
 exact⟨m - 1,by omega⟩
def ZeU (s:ByteArray) (n:Int):Lit:= .string (keyBytes [.string s.data.toList, .int .i64 n])
theorem Zh (s:ByteArray) (n:Int) (hs:s.size<=maxLen) (hn:(Lit.int .i64 n).wf=true):keyOf prog 48 (.agg #[.string s, .int .i64 n])=some (ZeU s n):=by
 obtain⟨N,hN⟩:=Zc7
 unfold keyOf
 rw[underlying48]
 simp only[]
 rw[hN]
 have c33:prog.cellsOf 48=2:=by kernel_rfl
 have hf:Value.formed prog 48 (.agg #[.string s, .int .i64 n])=true:=by
  simp[Value.formed,underlying48,underlying3,underlying9,c33]
 have c9:prog.cellsOf 9=1:=by kernel_rfl
 have c3:prog.cellsOf 3=1:=by kernel_rfl
 rw[hf,keyT33]
 simp[Program.keyLits,underlying48,underlying3,underlying9,c9,c3,c33,hs,hn,Value.cells,ZeU]
theorem klit_inj {s s':ByteArray} {n n':Int} (hs:s.size<=maxLen) (hn:(Lit.int .i64 n).wf=true) (hs':s'.size<=maxLen) (hn':(Lit.int .i64 n').wf=true) (h:ZeU s n=ZeU s' n'):s=s'/\n=n':=by
 have:=Zz.inj (Zh s n hs hn) (h▸Zh s' n' hs' hn')
 simpa using this
theorem klit_key {s:ByteArray} {n:Int} (hs:s.size<=maxLen) (hn:(Lit.int .i64 n).wf=true):WideAt.IsKeyLit (ZeU s n):=Zz.key (Zh s n hs hn)
end
section
open Go Go.Proofs Go.RowKit Go.Sort
theorem rv_go (i j:Nat) (d:Array Nat) (h:i<j):reverseLoop i j d=reverseLoop (i+1) (j - 1) (swp d i j):=by rw[reverseLoop,if_pos h]
theorem rv_stop (i j:Nat) (d:Array Nat) (h: ¬i<j):reverseLoop i j d=d:=by rw[reverseLoop,if_neg h]
theorem ZeJ (blk cap a b:Nat) (d:Array Nat) (w:World) (hL:LiesU w blk d) (hab:a<b) (hb:b<=d.size) (hsz:d.size<=1500000):
  Calls Tryz.prog 191 #[.slice (some ⟨blk,0,none⟩) d.size cap, .int .i64 a, .int .i64 b] w fun e w'=>e= .returned (.tuple #[])/\LiesU w' blk (reverseRange d a b)/\w.grownBy w' (some blk):=by
 have HL:=Ab hL
 clear hL
 have zb:IntKind.i64.wrap ((b:Int) - 1)=((b - 1:Nat):Int):=by rw[IntKind.wrap_i64];omega
 go_enter Tryz.func191,Tryz.ntmps191
 go_wp2_with fail
 go_loopg [6,7] (b+1) (fun g s6 s7 wr=> ∃(i j:Nat) (dk:Array Nat),s6= .int .i64 i/\s7= .int .i64 j/\a<=i/\i<=b/\j<b/\b+1 - i<=g/\Hid (dk.size=d.size)/\Hid (LiesU wr blk dk)/\Hid (w.grownBy wr (some blk))/\Hid (reverseLoop i j dk=reverseRange d a b))
 case atStart=>exact⟨a,b - 1,d,rfl,rfl,Nat.le_refl _,by omega,by omega,by omega,Ab rfl,HL,Ab (Ky _ _),Ab rfl⟩
 case round=>
  obtain⟨i,j,dk,rfl,rfl,hai,hib,hjb,hg,hsk,hLk,hGk,hOk⟩:=hrel
  have hds:=Aa hsk
  by_cases hlt:i<j
  ·have hiz:(i:Int)<j:=by omega
   obtain⟨c1,f1⟩:=(Aa hLk).cell i (by omega)
   obtain⟨c2,f2⟩:=(Aa hLk).cell j (by omega)
   have HGo:=Ab (rv_go i j dk hlt)
   have HSw:=Ab (fun n=>((Aa hLk).drew n).swap i j (by omega) (by omega))
   have z2:(j:Int)<d.size:=by omega
   have z3:(i:Int)<d.size:=by omega
   have z4:IntKind.i64.wrap ((j:Int) - 1)=((j - 1:Nat):Int):=by rw[IntKind.wrap_i64];omega
   have z5:IntKind.i64.wrap ((i:Int)+1)=((i+1:Nat):Int):=by rw[IntKind.wrap_i64];omega
   have n1: ¬i=j:=by omega
   have n2: ¬j=i:=by omega
   clear hds
   generalize dk[i]! =x at *
   generalize dk[j]! =y at *
   go_wp2_with fail
   go_region
   all_goals go_wp2
   go_roundg (b+1 - (i+1))
   case measure=>omega
   case rel=>exact⟨i+1,j - 1,swp dk i j,by go_num,by go_num,by omega,by omega,by omega,Nat.le_refl _,Ab (by rw[Dx];exact Aa hsk),Ab (Aa HSw _),Ab (Dd (Dv (Aa hGk) _) (Ee _ _ _ _ _ _)),Ab (by rw[←Aa HGo];exact Aa hOk)⟩
  ·have hiz: ¬(i:Int)<j:=by omega
   go_wp2
   go_end0
   refine⟨rfl, ?_,Aa hGk⟩
   rw[←Aa hOk,rv_stop _ _ _ hlt]
   exact Aa hLk
def Pt (w:World) (B:Nat) (n:Nat):Prop:=w.heap[B]? =some (.cells #[.int .i64 (n:Int)] 3 (0,0))
theorem Pt.cell {w:World} {B n:Nat} (h:Pt w B n):w.cell? ⟨B,0,none⟩=some (.int .i64 (n:Int))/\w.frozen? ⟨B,0,none⟩=false/\B<w.heap.size:=by
 unfold Pt at h
 exact⟨by simp[go_sem,World.cell?,h],by simp[go_sem,World.frozen?,h],(Array.getElem?_eq_some_iff.1 h).1⟩
theorem Pt.set {w:World} {B n:Nat} (h:Pt w B n) (m:Nat):Pt (w.setCell ⟨B,0,none⟩ (.int .i64 (m:Int))) B m:=by
 unfold Pt at *
 simp[World.setCell,Array.getElem?_modify,h]
theorem Zbz (blk cap a b B s:Nat) (d:Array Nat) (w:World) (hL:LiesU w blk d) (hP:Pt w B s) (hs:s<=100) (ha:a<d.size) (hb:b<d.size) (hsz:d.size<=1500000):
  Calls Tryz.prog 209 #[.slice (some ⟨blk,0,none⟩) d.size cap, .int .i64 a, .int .i64 b, .pointer (some ⟨B,0,none⟩)] w fun e w'=> ∃x y s':Nat,e= .returned (.tuple #[.int .i64 x, .int .i64 y])/\(x=a/\y=b∨x=b/\y=a)/\s'<=s+1/\Pt w' B s'/\w.grownBy w' (some B):=by
 obtain⟨c1,f1⟩:=hL.cell a ha
 obtain⟨c2,f2⟩:=hL.cell b hb
 obtain⟨p1,p2,p3⟩:=hP.cell
 have HP:=Ab hP
 have z1:(a:Int)<d.size:=by omega
 have z2:(b:Int)<d.size:=by omega
 have z3:IntKind.i64.wrap ((s:Int)+1)=((s+1:Nat):Int):=by rw[IntKind.wrap_i64];omega
 clear hL hP
 generalize d[a]! =x at *
 generalize d[b]! =y at *
 have HC:=Ab (Gc y x)
 generalize ltN y x=r at *
 cases r
 ·go_enter Tryz.func209,Tryz.ntmps209
  go_wp2_with fail
  go_quiet ((go_at_call 193;refine Calls.quiet_of_same (Aa HC _)))
  go_wp2
  go_ret2
  exact⟨a,b,s,rfl, .inl ⟨rfl,rfl⟩,by omega,Aa HP,Dv (Ky _ _) _⟩
 ·go_enter Tryz.func209,Tryz.ntmps209
  go_wp2_with fail
  go_quiet ((go_at_call 193;refine Calls.quiet_of_same (Aa HC _)))
  go_wp2
  go_ret2
  exact⟨b,a,s+1,rfl, .inr ⟨rfl,rfl⟩,by omega,Pt.set (w:=w.drewN _) (Aa HP) (s+1),Dd (Dv (Ky _ _) _) (Vt _ _ _ _)⟩
end
section
open Go Go.Proofs Go.RowKit
def dgF (most:Nat):List Nat->Nat->Option Nat
 | [],n=>some n
 |c::r,n=>if c<48∨57<c then none else if most<n * 10+(c - 48) then none else dgF most r (n * 10+(c - 48))
def dgV (most:Nat) (l:List Nat):Option Nat:=
 match l with
 | []=>none
 |c::r=>if c=48/\r≠ [] then none else dgF most (c::r) 0
theorem dgF_le (most:Nat): ∀(l:List Nat) (n m:Nat),n<=most->dgF most l n=some m->m<=most
 | [],n,m,h,e=>by simp[dgF] at e;omega
 |c::r,n,m,h,e=>by
  unfold dgF at e
  split at e
  ·cases e
  ·split at e
   ·cases e
   ·exact dgF_le most r _ m (by omega) e
theorem dgV_le (most:Nat) (l:List Nat) (m:Nat) (e:dgV most l=some m):m<=most:=by
 unfold dgV at e
 split at e
 ·cases e
 ·split at e
  ·cases e
  ·exact dgF_le most _ 0 m (Nat.zero_le _) e
theorem ZbQ (s:ByteArray) (i:Nat) (h:i<s.size):s.get! i=s[i]'h:=by
 cases s with
 |mk d=>exact getElem!_pos d i h
theorem ZcO (most:Nat) (s:ByteArray) (i n:Nat) (h:i<s.size):
  dgF most ((Eb s).drop i) n=if (s.get! i).toNat<48∨57<(s.get! i).toNat then none else if most<n * 10+((s.get! i).toNat - 48) then none else dgF most ((Eb s).drop (i+1)) (n * 10+((s.get! i).toNat - 48)):=by
 have hl:i<(Eb s).length:=by rw[Jl];exact h
 have hg:(s.get! i).toNat=(Eb s)[i]:=by
  rw[Zai,List.getD_eq_getElem?_getD,List.getElem?_eq_getElem hl];rfl
 rw[hg,List.drop_eq_getElem_cons hl,dgF]
theorem Zeo (most:Nat) (s:ByteArray) (i n:Nat) (h:s.size<=i):dgF most ((Eb s).drop i) n=some n:=by
 rw[List.drop_eq_nil_of_le (by rw[Jl];exact h),dgF]
theorem dgV_nil (most:Nat) (s:ByteArray) (h:s.size=0):dgV most (Eb s)=none:=by
 have:Eb s= []:=by rw[←List.length_eq_zero_iff,Jl];exact h
 rw[this,dgV]
theorem dgV_cons (most:Nat) (s:ByteArray) (h:0<s.size):dgV most (Eb s)=if (s.get! 0).toNat=48/\1<s.size then none else dgF most ((Eb s).drop 0) 0:=by
 have hg:=Zai s 0
 have hl:=Jl s
 cases hn:Eb s with
 |nil=>rw[hn] at hl;simp at hl;omega
 |cons c r=>
  rw[hn] at hg hl
  simp only[List.getD_cons_zero,List.length_cons] at hg hl
  rw[hg,dgV,List.drop_zero]
  have:(r≠ [])↔1<s.size:=by
   rw[←hl,←List.length_pos_iff];omega
  simp only[this]
theorem Zd4 (s:ByteArray) (hp:0<s.size) (h:((s[0]'hp).toNat:Int)=48):(s.toList== [48])=decide (s.size=1):=by
 have hl:s.toList.length=s.size:=by rw[Lib.toList_data];rfl
 have h0:s.toList[0]? =some 48:=by
  rw[Lib.toList_data,Array.getElem?_toList,Array.getElem?_eq_getElem (h:=hp)]
  congr 1
  exact UInt8.toNat_inj.1 (by show (s[0]'hp).toNat=48;omega)
 rw[←hl]
 cases e:s.toList with
 |nil=>rw[e] at h0;cases h0
 |cons c r=>
  rw[e] at h0
  simp only[List.getElem?_cons_zero,Option.some.injEq] at h0
  subst h0
  cases r<;>simp
theorem upTo49 (s:ByteArray) (most:Nat) (hs:s.size<4611686018427387904) (hm:most<=9007199254740991) (w:World):Calls Tryz.prog 186 #[.int .i64 (most:Nat), .string s] w fun e w'=>e= .returned (.tuple #[.int .i64 ((dgV most (Eb s)).getD 0:Nat), .bool (dgV most (Eb s)).isSome])/\w'=w:=by
 have hE:(s.toList.isEmpty=true)↔s.size=0:=by
  rw[ByteArray.size,←Array.length_toList,List.length_eq_zero_iff]
  simp[Lib.toList_data]
 go_enter Tryz.func186,Tryz.ntmps186
 by_cases h0:s.size=0
 ·have hv:=dgV_nil most s h0
  have he:=hE.2 h0
  have hz:(s.size:Int)=0:=by omega
  clear hE
  go_wp2
  go_ret2
  exact⟨by rw[hv];rfl,rfl⟩
 ·have hp:0<s.size:=by omega
  have hv:=dgV_cons most s hp
  have he:s.toList.isEmpty=false:=by
   cases h:s.toList.isEmpty
   ·rfl
   ·exact absurd (hE.1 h) h0
  clear hE
  have z0:(0:Int)<s.size:=by omega
  by_cases hz:(s.get! 0).toNat=48/\1<s.size
  ·rw[if_pos hz] at hv
   obtain⟨hz1,hz2⟩:=hz
   have z1:(1:Int)<s.size:=by omega
   have z2:((s[0]'hp).toNat:Int)=48:=by rw[←ZbQ s 0 hp];omega
   clear hz1
   have q1:(s.toList== [48])=false:=by rw[Zd4 s hp z2];exact decide_eq_false (by omega)
   go_wp2
   go_ret2
   exact⟨by rw[hv];rfl,rfl⟩
  ·rw[if_neg hz] at hv
   have HV:=Ab hv
   clear hv
   have hc3:(¬((s[0]'hp).toNat:Int)=48)∨(¬1<s.size/\((s[0]'hp).toNat:Int)=48):=by
    rw[←ZbQ s 0 hp];omega
   clear hz
   rcases hc3 with z2|⟨h1,z2⟩
   ·have h1:=trivial
    have q1:=trivial
    have z1:=trivial
    go_wp2_with fail
    go_loopg [6,21] (s.size+1) (fun g s6 s21 wr=> ∃(n i:Nat),s6= .int .i64 n/\s21= .int .i64 i/\i<=s.size/\s.size - i<g/\n<=most/\wr=w/\Hid (dgV most (Eb s)=dgF most ((Eb s).drop i) n))
    case atStart=>exact⟨0,0,rfl,rfl,Nat.zero_le _,by omega,Nat.zero_le _,rfl,HV⟩
    case round=>
     obtain⟨n,i,rfl,rfl,hi,hg,hn,rfl,hR⟩:=hrel
     clear z0 z1 z2 h1 q1
     by_cases hil:i<s.size
     ·have hst:=ZcO most s i n hil
      rw[ZbQ s i hil] at hst
      have y0:(i:Int)<s.size:=by omega
      have hcl:=(s[i]'hil).toNat_lt
      by_cases hc1:(s[i]'hil).toNat<48
      ·rw[if_pos (Or.inl hc1)] at hst
       have HS:=Ab hst
       have y1:((s[i]'hil).toNat:Int)<48:=by omega
       clear hst hc1
       go_wp2
       go_ret2
       exact⟨by rw[Aa hR,Aa HS];rfl,rfl⟩
      ·have y1: ¬((s[i]'hil).toNat:Int)<48:=by omega
       by_cases hc2:57<(s[i]'hil).toNat
       ·rw[if_pos (Or.inr hc2)] at hst
        have HS:=Ab hst
        have y2:(57:Int)<((s[i]'hil).toNat:Int):=by omega
        clear hst hc1 hc2
        go_wp2
        go_ret2
        exact⟨by rw[Aa hR,Aa HS];rfl,rfl⟩
       ·rw[if_neg (by omega)] at hst
        have y2: ¬(57:Int)<((s[i]'hil).toNat:Int):=by omega
        obtain⟨m,hm1⟩: ∃m,m=n * 10+((s[i]'hil).toNat - 48):=⟨_,rfl⟩
        rw[←hm1] at hst
        have y3:IntKind.u8.wrap (((s[i]'hil).toNat:Int) - 48)=(((s[i]'hil).toNat - 48:Nat):Int):=by
         simp[IntKind.wrap,IntKind.bits,IntKind.signed];omega
        have y4:IntKind.i64.wrap (((s[i]'hil).toNat - 48:Nat):Int)=(((s[i]'hil).toNat - 48:Nat):Int):=by
         rw[IntKind.wrap_i64];omega
        have y5:IntKind.i64.wrap (10 * (n:Int))=((10 * n:Nat):Int):=by
         rw[IntKind.wrap_i64];omega
        have y6:IntKind.i64.wrap (((10 * n:Nat):Int)+(((s[i]'hil).toNat - 48:Nat):Int))=(m:Int):=by
         rw[IntKind.wrap_i64];omega
        have y7:IntKind.i64.wrap ((i:Int)+1)=((i+1:Nat):Int):=by rw[IntKind.wrap_i64];omega
        by_cases hmm:most<m
        ·rw[if_pos hmm] at hst
         have HS:=Ab hst
         have y8:(most:Int)<m:=by omega
         clear hst hc1 hc2
         go_wp2
         go_ret2
         exact⟨by rw[Aa hR,Aa HS];rfl,rfl⟩
        ·rw[if_neg hmm] at hst
         have HS:=Ab hst
         have y8: ¬(most:Int)<m:=by omega
         clear hst hc1 hc2
         go_wp2
         go_roundg (s.size - i)
         case measure=>omega
         case rel=>exact⟨m,i+1,by congr 1;omega,by go_num,by omega,by omega,by omega,rfl,Ab (by rw[Aa hR,Aa HS])⟩
     ·have hst:=Zeo most s i n (by omega)
      have HS:=Ab hst
      have y0: ¬(i:Int)<s.size:=by omega
      clear hst
      go_wp2
      go_ret2
      exact⟨by rw[Aa hR,Aa HS];rfl,rfl⟩
   ·have q1:(s.toList== [48])=true:=by rw[Zd4 s hp z2];exact decide_eq_true (by omega)
    have z1:=trivial
    go_wp2_with fail
    go_loopg [6,21] (s.size+1) (fun g s6 s21 wr=> ∃(n i:Nat),s6= .int .i64 n/\s21= .int .i64 i/\i<=s.size/\s.size - i<g/\n<=most/\wr=w/\Hid (dgV most (Eb s)=dgF most ((Eb s).drop i) n))
    case atStart=>exact⟨0,0,rfl,rfl,Nat.zero_le _,by omega,Nat.zero_le _,rfl,HV⟩
    case round=>
     obtain⟨n,i,rfl,rfl,hi,hg,hn,rfl,hR⟩:=hrel
     clear z0 z1 z2 h1 q1
     by_cases hil:i<s.size
     ·have hst:=ZcO most s i n hil
      rw[ZbQ s i hil] at hst
      have y0:(i:Int)<s.size:=by omega
      have hcl:=(s[i]'hil).toNat_lt
      by_cases hc1:(s[i]'hil).toNat<48
      ·rw[if_pos (Or.inl hc1)] at hst
       have HS:=Ab hst
       have y1:((s[i]'hil).toNat:Int)<48:=by omega
       clear hst hc1
       go_wp2
       go_ret2
       exact⟨by rw[Aa hR,Aa HS];rfl,rfl⟩
      ·have y1: ¬((s[i]'hil).toNat:Int)<48:=by omega
       by_cases hc2:57<(s[i]'hil).toNat
       ·rw[if_pos (Or.inr hc2)] at hst
        have HS:=Ab hst
        have y2:(57:Int)<((s[i]'hil).toNat:Int):=by omega
        clear hst hc1 hc2
        go_wp2
        go_ret2
        exact⟨by rw[Aa hR,Aa HS];rfl,rfl⟩
       ·rw[if_neg (by omega)] at hst
        have y2: ¬(57:Int)<((s[i]'hil).toNat:Int):=by omega
        obtain⟨m,hm1⟩: ∃m,m=n * 10+((s[i]'hil).toNat - 48):=⟨_,rfl⟩
        rw[←hm1] at hst
        have y3:IntKind.u8.wrap (((s[i]'hil).toNat:Int) - 48)=(((s[i]'hil).toNat - 48:Nat):Int):=by
         simp[IntKind.wrap,IntKind.bits,IntKind.signed];omega
        have y4:IntKind.i64.wrap (((s[i]'hil).toNat - 48:Nat):Int)=(((s[i]'hil).toNat - 48:Nat):Int):=by
         rw[IntKind.wrap_i64];omega
        have y5:IntKind.i64.wrap (10 * (n:Int))=((10 * n:Nat):Int):=by
         rw[IntKind.wrap_i64];omega
        have y6:IntKind.i64.wrap (((10 * n:Nat):Int)+(((s[i]'hil).toNat - 48:Nat):Int))=(m:Int):=by
         rw[IntKind.wrap_i64];omega
        have y7:IntKind.i64.wrap ((i:Int)+1)=((i+1:Nat):Int):=by rw[IntKind.wrap_i64];omega
        by_cases hmm:most<m
        ·rw[if_pos hmm] at hst
         have HS:=Ab hst
         have y8:(most:Int)<m:=by omega
         clear hst hc1 hc2
         go_wp2
         go_ret2
         exact⟨by rw[Aa hR,Aa HS];rfl,rfl⟩
        ·rw[if_neg hmm] at hst
         have HS:=Ab hst
         have y8: ¬(most:Int)<m:=by omega
         clear hst hc1 hc2
         go_wp2
         go_roundg (s.size - i)
         case measure=>omega
         case rel=>exact⟨m,i+1,by congr 1;omega,by go_num,by omega,by omega,by omega,rfl,Ab (by rw[Aa hR,Aa HS])⟩
     ·have hst:=Zeo most s i n (by omega)
      have HS:=Ab hst
      have y0: ¬(i:Int)<s.size:=by omega
      clear hst
      go_wp2
      go_ret2
      exact⟨by rw[Aa hR,Aa HS];rfl,rfl⟩
end
section
open Go Go.Proofs Go.RowKit Tryz
def Qb (l:List Nat):Option Nat:=dgV 4294967294 l
theorem Zea (l:List Nat) (m:Nat) (h:Qb l=some m):m<=4294967294:=dgV_le _ _ _ h
theorem index34 (s:ByteArray) (hs:s.size<4611686018427387904) (w:World):Calls prog 182 #[.string s] w fun e w'=>e= .returned (.tuple #[.int .u32 ((Qb (Eb s)).getD 0:Nat), .bool (Qb (Eb s)).isSome])/\w'=w:=by
 have HC:=Ab (upTo49 s 4294967294 hs (by omega) w)
 have z1:IntKind.u32.wrap ((Qb (Eb s)).getD 0:Nat)=((Qb (Eb s)).getD 0:Nat):=by
  have:(Qb (Eb s)).getD 0<=4294967294:=by
   cases h:Qb (Eb s) with
   |none=>simp
   |some m=>exact Zea _ _ h
  simp[IntKind.wrap,IntKind.bits,IntKind.signed];omega
 change Hid (Calls prog 186 #[.int .i64 4294967294, .string s] w fun e w'=>e= .returned (.tuple #[.int .i64 ((Qb (Eb s)).getD 0:Nat), .bool (Qb (Eb s)).isSome])/\w'=w) at HC
 generalize (Qb (Eb s)).getD 0=m at *
 generalize (Qb (Eb s)).isSome=b at *
 go_enter func182,ntmps182
 go_wp2_with fail
 refine(Aa HC).mono ?_
 rintro e w' ⟨rfl,rfl⟩
 go_wp2
 go_ret2
 exact⟨rfl,rfl⟩
theorem Kc (w:World) (o:Obj):Below w.heap.size w (w.alloc o):=(Below.refl _ _).alloc (Nat.le_refl _) _
def ZaL (s:ByteArray) (n:Int):Value:= .agg #[.string s, .int .i64 n]
def ZaM (s:ByteArray) (n:Int):Int:=if n=0 then (if (Qb (Eb s)).isSome then 0 else 1) else 2
def ZbF (s:ByteArray) (n:Int):Nat:=if n=0 then ((Qb (Eb s)).getD 0) else 0
theorem kindOf22 (s:ByteArray) (n:Int) (hs:s.size<4611686018427387904) (w:World):Calls prog 178 #[ZaL s n] w fun e w'=>e= .returned (.tuple #[.int .i64 (ZaM s n), .int .u32 (ZbF s n:Nat)])/\Below w.heap.size w w':=by
 have HC:=Ab (index34 s hs)
 unfold ZaL
 by_cases hn:n=0
 ·subst hn
  have e1:ZaM s 0=if (Qb (Eb s)).isSome then 0 else 1:=by unfold ZaM;rw[if_pos rfl]
  have e2:ZbF s 0=(Qb (Eb s)).getD 0:=by unfold ZbF;rw[if_pos rfl]
  rw[e1,e2]
  clear e1 e2
  generalize Qb (Eb s)=o at *
  go_enter func178,ntmps178
  go_wp2_with fail
  refine(Aa HC _).mono ?_
  rintro e w' ⟨rfl,rfl⟩
  cases o with
  |none=>
   go_wp2
   go_ret2
   exact⟨rfl,Kc _ _⟩
  |some m=>
   go_wp2
   go_ret2
   exact⟨rfl,Kc _ _⟩
 ·have e1:ZaM s n=2:=by unfold ZaM;rw[if_neg hn]
  have e2:ZbF s n=0:=by unfold ZbF;rw[if_neg hn]
  rw[e1,e2]
  go_enter func178,ntmps178
  go_wp2
  go_ret2
  exact⟨rfl,Kc _ _⟩
theorem Ym (P:Program) (w:World) (a:Addr) (m:Mode) (k:FloatKind) (x:Nat):(store a (.float k x) m).run P w=stored P w a (.float k x) m:=run_store P w a _ m rfl
attribute [local go_sem] Kj Ym
def Qz (s:ByteArray) (n:Int):VV:=if n=0 then ⟨5,false,0,s,0⟩ else ⟨6,false,0,s,n⟩
theorem ZbH (w:World) (o1 o2:Obj):Below w.heap.size w ((w.alloc o1).alloc o2):=((Below.refl _ _).alloc (Nat.le_refl _) _).alloc (by simp) _
theorem Zfo (s:ByteArray) (n:Int) (w:World):Calls prog 53 #[ZaL s n] w fun e w'=>e= .returned (Qz s n).agg/\Below w.heap.size w w':=by
 unfold ZaL
 by_cases hn:n=0
 ·subst hn
  have e1:Qz s 0=⟨5,false,0,s,0⟩:=by unfold Qz;rw[if_pos rfl]
  rw[e1]
  unfold VV.agg
  go_enter func53,ntmps53
  go_wp2
  simp[bodyPost,results,Tryz.results53,go_sem]
  exact ZbH ..
 ·have e1:Qz s n=⟨6,false,0,s,n⟩:=by unfold Qz;rw[if_neg hn]
  rw[e1]
  unfold VV.agg
  go_enter func53,ntmps53
  go_wp2
  simp[bodyPost,results,Tryz.results53,go_sem]
  exact ZbH ..
theorem vcheck20 (v:VV) (w:World) (hT:Lib.Utf8Tabs 1 2 w):Calls prog 52 #[v.agg] w fun e w'=>e= .returned (.int .i64 (if v.good then 0 else 5))/\Below w.heap.size w w':=by
 have HI:=Ab (fun w (hT:Lib.Utf8Tabs 1 2 w)=>Oo v.k v.b v.x v.s v.i w hT)
 have HT:=Ab hT
 unfold VV.agg VV.good
 generalize Nh v.k v.b v.x v.s v.i=g at *
 clear hT
 go_enter func52,ntmps52
 go_wp2_with fail
 refine(Aa HI _ (Au (Aa HT) (Kc _ _))).mono ?_
 rintro e w1 ⟨rfl,hb⟩
 have HB:=Ab (((Kc w _).trans (hb.mono (by simp))))
 clear hb
 cases g
 ·go_wp2
  go_ret
  exact⟨rfl,Aa HB⟩
 ·go_wp2
  go_ret
  exact⟨rfl,Aa HB⟩
theorem Zj (s:ByteArray) (n:Int) (w:World) (hT:Lib.Utf8Tabs 1 2 w):Calls prog 30 #[ZaL s n] w fun e w'=>e= .returned (.int .i64 (if (Qz s n).good then 0 else 5))/\Below w.heap.size w w':=by
 have HA:=Ab (fun w=>Zfo s n w)
 have HI:=Ab (fun w (hT:Lib.Utf8Tabs 1 2 w)=>vcheck20 (Qz s n) w hT)
 have HT:=Ab hT
 unfold ZaL at *
 generalize (Qz s n).agg=v at *
 generalize (if (Qz s n).good then (0:Int) else 5)=g at *
 clear hT
 go_enter func30,ntmps30
 go_wp2_with fail
 refine(Aa HA _).mono ?_
 rintro e w1 ⟨rfl,hb⟩
 have HB:=Ab (((Kc w _).trans (hb.mono (by simp))))
 clear hb
 go_wp2_with fail
 refine(Aa HI _ (Au (Aa HT) (Aa HB))).mono ?_
 rintro e w2 ⟨rfl,hb2⟩
 have HB2:=Ab ((Aa HB).trans (hb2.mono (Aa HB).size))
 clear hb2
 go_wp2
 go_ret
 exact⟨rfl,Aa HB2⟩
end
section
open Go Go.Proofs Go.RowKit
theorem two2 {w w1:World} {c0 c1 d0 d1:Value} {t u:TypeId} (hb:Below ((w.alloc (Obj.cells #[c0,c1] t)).alloc (Obj.cells #[d0,d1] u)).drew.heap.size ((w.alloc (Obj.cells #[c0,c1] t)).alloc (Obj.cells #[d0,d1] u)).drew w1):
  w1.cell? ⟨w.heap.size,1,none⟩=some c1/\w1.cell? ⟨w.heap.size+1,0,none⟩=some d0/\w1.cell? ⟨w.heap.size+1,1,none⟩=some d1/\w1.frozen? ⟨w.heap.size+1,0,none⟩=false/\w1.frozen? ⟨w.heap.size+1,1,none⟩=false/\
  Below w.heap.size w w1/\w1.heap[w.heap.size+1]? =some (Obj.cells #[d0,d1] u):=by
 have h1:=hb.cell (p:=⟨w.heap.size,1,none⟩) (by simp;omega)
 have h2:=hb.cell (p:=⟨w.heap.size+1,0,none⟩) (by simp)
 have h3:=hb.cell (p:=⟨w.heap.size+1,1,none⟩) (by simp)
 have h4:=hb.frozen (p:=⟨w.heap.size+1,0,none⟩) (by simp)
 have h5:=hb.frozen (p:=⟨w.heap.size+1,1,none⟩) (by simp)
 have h6:=hb.block (w.heap.size+1) (by simp)
 simp[go_sem] at h1 h2 h3 h4 h5
 refine⟨h1,h2,h3,h4,h5,((ZbH w _ _).drew).trans (hb.mono (by simp;omega)), ?_⟩
 rw[h6]
 have e:=heap_alloc_new (w.alloc (Obj.cells #[c0,c1] t)) (Obj.cells #[d0,d1] u)
 rw[show (w.alloc (Obj.cells #[c0,c1] t)).heap.size=w.heap.size+1 by simp] at e
 exact e
theorem anew30 (s:ByteArray) (n:Int) (h:s.size<=1048576) (w:World):Calls Tryz.prog 179 #[ZaL s n] w fun e w'=>e= .returned (ZaL s n)/\Below w.heap.size w w':=by
 have HC:=Ab (fun w=>Za4 s w h)
 unfold ZaL
 go_enter Tryz.func179,Tryz.ntmps179
 go_wp2_with fail
 go_region_with (go_at_call 111;refine(Aa HC _).mono ?_;rintro e w1 ⟨rfl,hb⟩;obtain⟨c1,d0,d1,f0,f1,hB,hO⟩:=two2 hb;have HB:=Ab hB;have HO:=Ab hO;clear hb hB hO)
 all_goals
  have g0:((w1.setCell ⟨w.heap.size+1,0,none⟩ (.string s)).setCell ⟨w.heap.size+1,1,none⟩ (.int .i64 n)).cell? ⟨w.heap.size+1,0,none⟩=some (.string s):=by
   simp[World.cell?,World.setCell,Array.getElem?_modify,Aa HO]
  have g1:((w1.setCell ⟨w.heap.size+1,0,none⟩ (.string s)).setCell ⟨w.heap.size+1,1,none⟩ (.int .i64 n)).cell? ⟨w.heap.size+1,1,none⟩=some (.int .i64 n):=by
   simp[World.cell?,World.setCell,Array.getElem?_modify,Aa HO]
  have HG:=Ab (((Aa HB).setCell (p:=⟨w.heap.size+1,0,none⟩) (by simp) (.string s)).setCell (p:=⟨w.heap.size+1,1,none⟩) (by simp) (.int .i64 n))
  generalize (w1.setCell ⟨w.heap.size+1,0,none⟩ (.string s)).setCell ⟨w.heap.size+1,1,none⟩ (.int .i64 n)=W at *
  clear HB HO f0 f1 d0 d1 c1 HC
  go_wp2
  simp[bodyPost,results,Tryz.results179,go_sem,g0,g1]
  exact Aa HG
theorem ZeY {s:ByteArray} {n:Int} (h:(Qz s n).good=true):s.size<=1048576:=by
 unfold Qz at h
 by_cases hn:n=0
 ·rw[if_pos hn] at h
  rcases hf:Zan s with _|_
  ·simp[VV.good,Nh,inG,hf] at h
  ·unfold Zan at hf
   simp at hf
   exact hf.1
 ·rw[if_neg hn] at h
  have:s.toList.isEmpty=true:=by
   cases he:s.toList.isEmpty
   ·simp[VV.good,Nh,inG,Zbm,he] at h
   ·rfl
  rw[Vc this]
  decide
end
section
open Go Go.Proofs Go.RowKit Tryz
structure KK where
 s:ByteArray
 n:Int
def KK.agg (k:KK):Value:= .agg #[.string k.s, .int .i64 k.n]
def KK.cs (k:KK):List Value:= [.string k.s, .int .i64 k.n]
def KK.obj (k:KK):Obj:=Obj.cells #[.string k.s, .int .i64 k.n] 48
theorem KK.ext' {a b:KK} (h1:a.s=b.s) (h2:a.n=b.n):a=b:=by cases a;cases b;cases h1;cases h2;rfl
theorem Zeq (k:KK):ZaL k.s k.n=k.agg:=rfl
def Jo:KK:=⟨ByteArray.empty,0⟩
def KLies (W:World) (B:Nat) (k:KK):Prop:=(∀j,W.frozen? ⟨B,j,none⟩=false)/\W.cell? ⟨B,0,none⟩=some (.string k.s)/\W.cell? ⟨B,1,none⟩=some (.int .i64 k.n)
theorem KLies.new (w:World) (B:Nat) (hB:B=w.heap.size) (k:KK):KLies (w.alloc k.obj) B k:=by
 subst hB
 unfold KLies KK.obj
 simp[go_sem]
theorem KLies.block {W W1:World} {B:Nat} {k:KK} (h:KLies W B k) (he:W1.heap[B]? =W.heap[B]?):KLies W1 B k:=by
 have hc: ∀j,W1.cell? ⟨B,j,none⟩=W.cell? ⟨B,j,none⟩:=fun j=>World.cell?_of_block he
 have hf: ∀j,W1.frozen? ⟨B,j,none⟩=W.frozen? ⟨B,j,none⟩:=fun j=>World.frozen?_of_block he
 unfold KLies at *
 simp only[hc,hf]
 exact h
theorem KLies.range {W:World} {B:Nat} {k:KK} (h:KLies W B k):W.rangeAt B 0 k.cs:=by
 intro j v hv
 obtain⟨-,h0,h1⟩:=h
 match j,hv with
 |0,hv=>exact(Option.some.inj hv)▸h0
 |1,hv=>exact(Option.some.inj hv)▸h1
 |_+2,hv=>exact absurd hv (by simp[KK.cs])
theorem KLies.there {W:World} {B:Nat} {k:KK} (h:KLies W B k):W.there B 0 2:=by
 obtain⟨f,h0,h1⟩:=h
 intro j hj
 match j,hj with
 |0,_=>exact⟨h0▸rfl,f _⟩
 |1,_=>exact⟨h1▸rfl,f _⟩
theorem Gs (b:Nat): ∀(vs:List Value) (o:Nat) (X:World) (g:Nat),g≠b->(X.setCells b o vs).heap[g]? =X.heap[g]?
 | [],_,_,_,_=>rfl
 |v::vs,o,X,g,h=>by
  rw[World.setCells,Gs b vs _ _ g h]
  simp[World.setCell,Array.getElem?_modify,Ne.symm h]
theorem Gq {b:Nat}: ∀(vs:List Value) (o:Nat) (W:World),(W.setCells b o vs).heap.size=W.heap.size
 | [],_,_=>rfl
 |v::vs,o,W=>by
  rw[World.setCells,Gq vs]
  simp[World.setCell]
theorem Mx {w:World} {b:Nat} (hb:w.heap.size<=b): ∀(vs:List Value) (o:Nat) (W:World),Below w.heap.size w W->Below w.heap.size w (W.setCells b o vs)
 | [],_,_,h=>h
 |v::vs,o,W,h=>Mx hb vs _ _ (h.setCell (by exact hb) _)
structure Kq (w X:World) (l:List (Nat×KK)):Prop where
 below:Below w.heap.size w X
 all: ∀q∈l,w.heap.size<=q.1/\q.1<X.heap.size/\KLies X q.1 q.2
theorem Kq.nil (w:World):Kq w w []:=⟨Below.refl _ _,fun q hq=>by cases hq⟩
theorem Kq.on {w X X1:World} {l:List (Nat×KK)} (h:Kq w X l) (hb:Below X.heap.size X X1):Kq w X1 l:=
 ⟨h.below.trans (hb.mono h.below.size),fun q hq=>⟨(h.all q hq).1,Nat.lt_of_lt_of_le (h.all q hq).2.1 hb.size,(h.all q hq).2.2.block (hb.block _ (h.all q hq).2.1)⟩⟩
theorem Kq.get {w X:World} {l:List (Nat×KK)} (h:Kq w X l) (i:Nat) {b:Nat} {k:KK} (hi:l[i]? =some (b,k)):KLies X b k:=(h.all _ (List.mem_of_getElem? hi)).2.2
theorem Kq.new {w X:World} {l:List (Nat×KK)} (h:Kq w X l) (k:KK):Kq w (X.alloc k.obj) (l++ [(X.heap.size,k)]):=by
 have hb:Below X.heap.size X (X.alloc k.obj):=(Below.refl _ _).alloc (Nat.le_refl _) _
 refine⟨(h.on hb).below,fun q hq=> ?_⟩
 rcases List.mem_append.1 hq with hq|hq
 ·exact(h.on hb).all q hq
 ·obtain rfl:q=(X.heap.size,k):=by simpa using hq
  exact⟨h.below.size,by simp,KLies.new X _ rfl k⟩
theorem KLies.setK {W:World} {B:Nat} {k u:KK} (h:KLies W B k):KLies (W.setCells B 0 u.cs) B u:=by
 obtain⟨f,h0,h1⟩:=h
 refine⟨fun j=> ?_, ?_, ?_⟩
 ·simp[KK.cs,World.setCells,go_sem,f]
 ·simp[KK.cs,World.setCells,go_sem,h0,h1]
 ·simp[KK.cs,World.setCells,go_sem,h0,h1]
theorem ZbN:(prog.info? 48).map (·.size)=some 2:=by kernel_rfl
theorem ZbI: ∃d,prog.underlying 48=some d/\d.isRow=true:=⟨_,underlying48,rfl⟩
section
variable {ops : Array Oper} {rest : List Oper} {o : Oper} {a : Act} {w w0 : World} {Q : Exit → Act → World → Prop} {l : List (Nat × KK)} {x y : Operand} {b : Nat} {d u : KK}
theorem Rj (hw:Region.wanted o (yielded ops a.tmps)=true) (ho:o.op= .load 48 x) (hx:a.eval x= .pointer (some ⟨b,0,none⟩)) (hc:KLies w b d) (h:wpList prog ops Q rest (a.put o.dst d.agg) w):wpList prog ops Q (o::rest) a w:=by
 obtain⟨t,hu,hd⟩:=ZbI
 refine BigFrame.wpList_want hw fun K hK=> ?_
 exact wp_load_mid 48 x ho b 0 hx _ t hc.range hu hd ZbN (hK _ _ h)
theorem Nz (hw:Region.wanted o (yielded ops a.tmps)=true) (ho:o.op= .alloc 48) (hL:Kq w0 w l)
  (h: ∀X,Kq w0 X (l++ [(w.heap.size,Jo)])->Below w.heap.size w X->wpList prog ops Q rest (a.put o.dst (.pointer (some ⟨w.heap.size,0,none⟩))) X):wpList prog ops Q (o::rest) a w:=by
 refine BigFrame.wpList_want hw fun K hK=> ?_
 have hP:=hK _ _ (h _ (hL.new Jo) ((Below.refl _ _).alloc (Nat.le_refl _) _))
 unfold Oper.wp execOp
 simp only[ho]
 simp[go_sem,Tryz.zeroValue48]
 exact hP
theorem Ny {m:List (Nat×KK)} (hw:Region.wanted o (yielded ops a.tmps)=true) (ho:o.op= .store 48 x y) (hL:Kq w0 w m) (hx:a.eval x= .pointer (some ⟨b,0,none⟩)) (hy:a.eval y=u.agg) (hm:m=l++ [(b,d)]) (hne: ∀q∈l,q.1≠b)
  (h: ∀X,Kq w0 X (l++ [(b,u)])->(∀g,g≠b->X.heap[g]? =w.heap[g]?)->X.heap.size=w.heap.size->wpList prog ops Q rest (a.put o.dst undef) X):wpList prog ops Q (o::rest) a w:=by
 subst hm
 refine BigFrame.wpList_want hw fun K hK=> ?_
 have hb:=hL.all (b,d) (by simp)
 refine wp_store_mid 48 x y ho _ 0 u.cs.toArray hx hy (KLies.there hb.2.2) ZbN (by simp[KK.cs,Value.oneCell']) (hK _ _ (h _ ?_ (fun g hg=>Gs _ _ _ _ _ hg) (Gq _ _ _)))
 refine⟨Mx hb.1 _ _ _ hL.below,fun q hq=> ?_⟩
 rw[Gq]
 rcases List.mem_append.1 hq with hq|hq
 ·have hq0:=hL.all q (List.mem_append_left _ hq)
  exact⟨hq0.1,hq0.2.1,hq0.2.2.block (Gs _ _ _ _ _ (hne q hq))⟩
 ·obtain rfl:q=(b,u):=by simpa using hq
  exact⟨hb.1,hb.2.1,KLies.setK hb.2.2⟩
end
def Gw (l:List KK):List Value:=l.flatMap KK.cs
theorem Uw (l m:List KK):Gw (l++m)=Gw l++Gw m:=by unfold Gw;rw[List.flatMap_append]
theorem Ze2 (d:KK):Gw [d]=d.cs:=by simp[Gw]
theorem Ms (d:KK):d.cs.length=2:=rfl
theorem Mn: ∀l:List KK,(Gw l).length=l.length * 2
 | []=>rfl
 |v::l=>by
  have:Gw (v::l)=v.cs++Gw l:=rfl
  rw[this,List.length_append,Mn l,List.length_cons,Ms]
  omega
theorem Vv: ∀(l:List KK) (j t:Nat) (hj:j<l.length),t<2->(Gw l)[j * 2+t]? =(l[j]).cs[t]?
 | [],j,t,hj,_=>by cases hj
 |v::l,0,t,_,ht=>by
  have:Gw (v::l)=v.cs++Gw l:=rfl
  rw[this,List.getElem?_append_left (by rw[Ms];omega)]
  simp
 |v::l,j+1,t,hj,ht=>by
  have:Gw (v::l)=v.cs++Gw l:=rfl
  rw[this,List.getElem?_append_right (by rw[Ms];omega)]
  have e:(j+1) * 2+t - v.cs.length=j * 2+t:=by rw[Ms];omega
  rw[e,Vv l j t (by simpa using hj) ht]
  simp
theorem Zam: ∀(l:List KK),∀u∈Gw l,u.oneCell'=true
 | [],u,hu=>by cases hu
 |v::l,u,hu=>by
  have:Gw (v::l)=v.cs++Gw l:=rfl
  rw[this,List.mem_append] at hu
  rcases hu with hu|hu
  ·simp[KK.cs] at hu
   rcases hu with rfl|rfl<;>rfl
  ·exact Zam l u hu
def RowsK (w:World) (b off:Nat) (l:List KK):Prop:= ∀j,(h:j<l.length)->w.rangeAt b (off+j * 2) l[j].cs
theorem RowsK.keep {w w':World} {b off:Nat} {l:List KK} (h:RowsK w b off l) (he:w'.heap[b]? =w.heap[b]?):RowsK w' b off l:=by
 intro j hj k v hv
 have:=h j hj k v hv
 rw[←this]
 exact World.cell?_of_block he
theorem ZaV {w:World} {b off:Nat} {l:List KK}:RowsK w b off l↔ ∀j u,(Gw l)[j]? =some u->w.cell? ⟨b,off+j,none⟩=some u:=by
 constructor
 ·intro h j u hu
  have hlt:j<(Gw l).length:=(List.getElem?_eq_some_iff.1 hu).1
  rw[Mn] at hlt
  have hd:j=j / 2 * 2+j % 2:=by omega
  have hm:j % 2<2:=Nat.mod_lt _ (by omega)
  have:=h (j / 2) (by omega) (j % 2) u
  rw[hd,Vv l (j / 2) (j % 2) (by omega) hm] at hu
  have h2:=this hu
  rw[Nat.add_assoc,←hd] at h2
  exact h2
 ·intro h j hj t u hu
  have ht:t<2:=by
   have:=(List.getElem?_eq_some_iff.1 hu).1
   rwa [Ms] at this
  rw[Nat.add_assoc]
  exact h _ u (by rw[Vv l j t hj ht];exact hu)
def Yc (w:World) (v:Value) (l:List KK):Prop:=(∃A c,v= .slice A 0 c/\l= [])∨ ∃b off cap,v= .slice (some ⟨b,off,none⟩) l.length cap/\b<w.heap.size/\RowsK w b off l
def OwnK (w:World) (base:Nat) (v:Value) (l:List KK):Prop:=w.ownsRow base 48 2 v l.length (Gw l)
theorem OwnK.nil (w:World) (base:Nat):OwnK w base (.slice none 0 0) []:=⟨rfl, .inl ⟨rfl,rfl⟩⟩
theorem OwnK.form {w:World} {base:Nat} {v:Value} {l:List KK} (h:OwnK w base v l):(v= .slice none 0 0/\l= [])∨ ∃g c,v= .slice (some ⟨g,0,none⟩) l.length c/\l.length<=c/\base<=g/\g<w.heap.size/\RowsK w g 0 l:=by
 rcases h.2 with ⟨rfl,h0⟩|⟨g,c,cur,rfl,h1,h2,h3,_,h5,h6⟩
 ·exact .inl ⟨rfl,List.length_eq_zero_iff.1 h0⟩
 ·refine .inr ⟨g,c,rfl,h3,h1,(Array.getElem?_eq_some_iff.1 h2).1,ZaV.2 ?_⟩
  intro j u hu
  have hlt:j<l.length * 2:=by
   have:=(List.getElem?_eq_some_iff.1 hu).1
   rwa [Mn] at this
  rw[←h6,List.getElem?_take_of_lt hlt] at hu
  rw[Nat.zero_add]
  simp[World.cell?,h2]
  simpa using hu
theorem OwnK.reads {w:World} {base:Nat} {v:Value} {l:List KK} (h:OwnK w base v l):Yc w v l:=by
 rcases h.form with ⟨rfl,rfl⟩|⟨g,c,rfl,_,_,h4,h5⟩
 ·exact .inl ⟨none,0,rfl,rfl⟩
 ·exact .inr ⟨g,0,c,rfl,h4,h5⟩
theorem OwnK.mono {w:World} {base base':Nat} {v:Value} {l:List KK} (h:OwnK w base v l) (hb:base'<=base):OwnK w base' v l:=
 ⟨h.1,h.2.imp id fun ⟨g,cap,cur,h1,h2,h3⟩=>⟨g,cap,cur,h1,Nat.le_trans hb h2,h3⟩⟩
theorem OwnK.own {w:World} {base:Nat} {v:Value} {l:List KK} (h:OwnK w base v l): ∀g,v.ownBlock=some g->base<=g/\g<w.heap.size:=by
 intro g hg
 rcases h.form with ⟨rfl,_⟩|⟨g',c,rfl,_,h3,h4,_⟩
 ·simp[Value.ownBlock] at hg
 ·have e:g'=g:=by simpa [Value.ownBlock] using hg
  subst e
  exact⟨h3,h4⟩
theorem OwnK.block {w w':World} {base:Nat} {v:Value} {l:List KK} (h:OwnK w base v l) (he: ∀g,v.ownBlock=some g->w'.heap[g]? =w.heap[g]?):OwnK w' base v l:=by
 refine⟨h.1, ?_⟩
 rcases h.2 with h|⟨g',c',cur,rfl,h1,h2,h3⟩
 ·exact .inl h
 ·exact .inr ⟨_,c',cur,rfl,h1,(he g' rfl).trans h2,h3⟩
theorem OwnK.on {w w':World} {base:Nat} {v:Value} {l:List KK} (h:OwnK w base v l) (hb:Below w.heap.size w w'):OwnK w' base v l:=h.block (fun g hg=>hb.block g (h.own g hg).2)
theorem Qv:(prog.info? 48).map (fun i=>(i.zero,i.size,i.bytes))=some (some Jo.agg,2,24):=by kernel_rfl
section
variable {ops : Array Oper} {rest : List Oper} {o : Oper} {a : Act} {w : World} {Q : Exit → Act → World → Prop} {s x : Operand} {base : Nat} {l m : List KK} {v u : Value}
theorem Zeu {K:Act->World->Prop} {d:KK} (ho:o.op= .buildSlice 40 1 #[(0,x)]) (hx:a.eval x=d.agg) (h:K (a.put o.dst (.slice (some ⟨w.heap.size,0,none⟩) 1 1)) (w.alloc d.obj)):o.wp prog a w K Q:=by
 obtain⟨i0,hi,hz0,hz1,hz2⟩:=info_parts Qv
 refine wp_buildSlice 40 48 1 _ ho #[.string d.s, .int .i64 d.n] i0 _ underlying40 hi hz0 (by rw[hz1];decide) (by rw[hz1];decide) ?_ h
 rw[hz1]
 simp only[List.map_toArray,List.map_cons,List.map_nil,hx]
 kernel_rfl
theorem ZbG {d:KK} (hw:Region.wanted o (yielded ops a.tmps)=true) (ho:o.op= .buildSlice 40 1 #[(0,x)]) (hx:a.eval x=d.agg)
  (h: ∀X,Yc X (.slice (some ⟨w.heap.size,0,none⟩) 1 1) [d]->X.heap.size=w.heap.size+1->Below w.heap.size w X->wpList prog ops Q rest (a.put o.dst (.slice (some ⟨w.heap.size,0,none⟩) 1 1)) X):wpList prog ops Q (o::rest) a w:=by
 refine BigFrame.wpList_want hw fun K hK=> ?_
 refine Zeu ho hx (hK _ _ (h _ ?_ (by simp) ((Below.refl _ _).alloc (Nat.le_refl _) _)))
 refine .inr ⟨w.heap.size,0,1,rfl,by simp,fun j hj=> ?_⟩
 obtain rfl:j=0:=by simpa using hj
 exact KLies.range (KLies.new w _ rfl d)
end
section
variable {md : Region.Mode} {ops : Array Oper} {Q : Exit → Act → World → Prop} {S : World → Prop} {w : World} {fuel : Nat} {listed : Array Bool} {a : Act} {o : Oper}
theorem index24 (b off n cap j:Nat) (hj:j<n) (w:World):(Instr.indexAt 40 (.slice (some ⟨b,off,none⟩) n cap) (.int .i64 j)).run prog w= .ok (.pointer (some ⟨b,off+j * 2,none⟩)) w:=by
 rw[run_indexAt_slice (h:=by kernel_rfl),if_pos ⟨by omega,by omega⟩]
 have e:(sizeOf (prog.elem 40)).run prog w= .ok 2 w:=by kernel_rfl
 rw[e]
 have e2:(Addr.add ⟨b,off,none⟩ ((j:Int).toNat * 2))=⟨b,off+j * 2,none⟩:=by
  unfold Addr.add
  by_cases h:j=0
  ·subst h;simp
  ·have h2: ¬j * 2=0:=by omega
   simp[h2]
 show Result.ok (Value.pointer (some (Addr.add ⟨b,off,none⟩ ((j:Int).toNat * 2)))) w=_
 rw[e2]
end
section
variable {ops : Array Oper} {rest : List Oper} {o : Oper} {a : Act} {w : World} {Q : Exit → Act → World → Prop} {x ix : Operand} {b off n cap j p : Nat} {d : KK}
theorem Zaa (hw:Region.wanted o (yielded ops a.tmps)=true) (ho:o.op= .indexAddr 40 x ix) (hx:a.eval x= .slice (some ⟨b,off,none⟩) n cap) (hix:a.eval ix= .int .i64 (j:Nat)) (hj:j<n) (h:wpList prog ops Q rest (a.put o.dst (.pointer (some ⟨b,off+j * 2,none⟩))) w):wpList prog ops Q (o::rest) a w:=by
 refine BigFrame.wpList_want hw fun K hK=> ?_
 unfold Oper.wp execOp
 simp only[ho,hx,hix]
 simp[index24 b off n cap j hj w]
 exact hK _ _ h
theorem Zcw (hw:Region.wanted o (yielded ops a.tmps)=true) (ho:o.op= .load 48 x) (hx:a.eval x= .pointer (some ⟨b,p,none⟩)) (hc:w.rangeAt b p d.cs) (h:wpList prog ops Q rest (a.put o.dst d.agg) w):wpList prog ops Q (o::rest) a w:=by
 obtain⟨t,hu,hd⟩:=ZbI
 refine BigFrame.wpList_want hw fun K hK=> ?_
 exact wp_load_mid 48 x ho b p hx _ t hc hu hd ZbN (hK _ _ h)
end
end
section
open Go Go.Proofs Go.Maps Go.RowKit Tryz
def ptrR:Value->Option (DataW Unit×List MemPlace)
 | .pointer none=>some (.nil, [])
 | .pointer (some ⟨b,0,none⟩)=>some (.lit (.int .i64 (b:Nat)), [])
 |_=>none
def pv:Option Nat->Value
 |none=> .pointer none
 |some b=> .pointer (some ⟨b,0,none⟩)
def pd:Option Nat->DataW Unit
 |none=> .nil
 |some b=> .lit (.int .i64 (b:Nat))
theorem ZdZ (o:Option Nat):ptrR (pv o)=some (pd o, []):=by cases o<;>rfl
theorem pd_inj {o o':Option Nat} (h:pd o=pd o'):o=o':=by
 cases o<;>cases o'<;>simp[pd] at h ⊢
 omega
theorem ptrR_inv {v:Value} {o:Option Nat} {ps:List MemPlace} (h:ptrR v=some (pd o,ps)):v=pv o:=by
 unfold ptrR at h
 split at h
 ·have e:=congrArg Prod.fst (Option.some.inj h)
  rw[←pd_inj (o:=none) (o':=o) e];rfl
 ·rename_i b
  have e:=congrArg Prod.fst (Option.some.inj h)
  rw[←pd_inj (o:=some b) (o':=o) e];rfl
 ·cases h
def OkK (k:KK):Prop:=k.s.size<=maxLen/\(Lit.int .i64 k.n).wf=true
def kl (k:KK):Lit:=ZeU k.s k.n
theorem Zdq {k:KK} (h:OkK k):keyOf prog 48 k.agg=some (kl k):=Zh k.s k.n h.1 h.2
theorem kl_inj {k k':KK} (h:OkK k) (h':OkK k') (e:kl k=kl k'):k=k':=by
 obtain⟨h1,h2⟩:=klit_inj h.1 h.2 h'.1 h'.2 e
 exact KK.ext' h1 h2
theorem kl_key {k:KK} (h:OkK k):WideAt.IsKeyLit (kl k):=klit_key h.1 h.2
def MapIs (w:World) (b n sz:Nat) (F:KK->Option Nat):Prop:=
 ∃D:DataW Unit,w.ownsMap prog 48 ptrR b n D/\Maps.size D=sz/\ ∀k,OkK k->D.atKey (kl k) .nil=pd (F k)/\Maps.has D (kl k)=(F k).isSome
theorem MapIs.made (w:World):MapIs (w.alloc (.map #[] 0)) w.heap.size 0 0 (fun _=>none):=
 ⟨_,World.ownsMap_made w _ _ _,rfl,fun k _=>⟨rfl,rfl⟩⟩
theorem MapIs.lt {w:World} {b n sz:Nat} {F:KK->Option Nat} (h:MapIs w b n sz F):b<w.heap.size:=by
 obtain⟨D,h, -⟩:=h
 exact h.lt
theorem MapIs.block {w w':World} {b n sz:Nat} {F:KK->Option Nat} (h:MapIs w b n sz F) (he:w'.heap[b]? =w.heap[b]?):MapIs w' b n sz F:=by
 obtain⟨D,⟨es,clock,hb,Ft,hs,hD⟩,h2,h3⟩:=h
 exact⟨D,⟨es,clock,he.trans hb,Ft,hs,hD⟩,h2,h3⟩
theorem MapIs.mono {w:World} {b n n' sz:Nat} {F:KK->Option Nat} (h:MapIs w b n sz F) (hn:n<=n'):MapIs w b n' sz F:=by
 obtain⟨D,h,h2⟩:=h
 exact⟨D,h.mono hn,h2⟩
theorem zero74 (w:World):(zeroValue 156).run prog w= .ok (.pointer none) w:=by kernel_rfl
theorem MapIs.look {w:World} {b n sz:Nat} {F:KK->Option Nat} (h:MapIs w b n sz F) {k:KK} (hk:OkK k):
  (Instr.lookup 142 (.map (some b)) k.agg true).run prog w= .ok (.tuple #[pv (F k), .bool (F k).isSome]) w:=by
 obtain⟨D,h,h2,h3⟩:=h
 obtain⟨v,ps,hrun,hv⟩:=h.look_ok Zz underlying142 (zero74 w) (ZdZ none) (Zdq hk)
 obtain⟨h4,h5⟩:=h3 k hk
 have hv':ptrR v=some (pd (F k),ps):=by rw[←h4];exact hv
 rw[hrun,h5,ptrR_inv hv']
theorem MapIs.len {w:World} {b n sz:Nat} {F:KK->Option Nat} (h:MapIs w b n sz F) (ty:TypeId):(Builtin.len_ #[142] ty #[.map (some b)]).run prog w= .ok (.int .i64 sz) w:=by
 obtain⟨D,h,h2,h3⟩:=h
 rw[h.len underlying142 ty,h2]
def Qy (F:KK->Option Nat) (k:KK) (r:Option Nat):KK->Option Nat:=fun q=>if q.s=k.s/\q.n=k.n then r else F q
theorem Nw (F:KK->Option Nat) (k:KK) (r:Option Nat):Qy F k r k=r:=by simp[Qy]
theorem Mq {F:KK->Option Nat} {k q:KK} (h:q≠k) (r:Option Nat):Qy F k r q=F q:=by
 unfold Qy
 rw[if_neg (fun e=>h (KK.ext' e.1 e.2))]
theorem MapIs.store {w:World} {b n sz:Nat} {F:KK->Option Nat} (h:MapIs w b n sz F) {k:KK} (hk:OkK k) (hn:n<maxLen) (r:Nat):
  ∃w',(Instr.mapUpdate 142 (.map (some b)) k.agg (pv (some r))).run prog w= .ok () w'/\MapIs w' b (n+1) (if (F k).isSome then sz else sz+1) (Qy F k (some r))/\w.mapTurned w' b:=by
 obtain⟨D,h,h2,h3⟩:=h
 obtain⟨w',hrun,ho,ht⟩:=h.store Zz underlying142 hn (Zdq hk) (ZdZ (some r))
 have ti:=h.tidy Zz
 refine⟨w',hrun,⟨_,ho, ?_,fun q hq=> ?_⟩,ht⟩
 ·rw[size_put ti,(h3 k hk).2,h2]
 ·by_cases e:q=k
  ·subst e
   rw[atKey_put_same ti.isMap (kl_key hk),has_put_same ti.isMap (kl_key hk),Nw]
   exact⟨rfl,rfl⟩
  ·have ne:kl q≠kl k:=fun e'=>e (kl_inj hq hk e')
   rw[atKey_put_other ne,has_put_other ne,Mq e]
   exact h3 q hq
theorem MapIs.drop {w:World} {b n sz:Nat} {F:KK->Option Nat} (h:MapIs w b n sz F) {k:KK} (hk:OkK k) (ty:TypeId):
  ∃w',(Builtin.delete_ #[142,48] ty #[.map (some b),k.agg]).run prog w= .ok (.tuple #[]) w'/\MapIs w' b n (if (F k).isSome then sz - 1 else sz) (Qy F k none)/\w.mapTurned w' b:=by
 obtain⟨D,h,h2,h3⟩:=h
 obtain⟨w',hrun,ho,ht⟩:=h.drop Zz underlying142 (Zdq hk) ty
 have ti:=h.tidy Zz
 have hs:=size_del (k:=kl k) ti
 refine⟨w',hrun,⟨_,ho, ?_,fun q hq=> ?_⟩,ht⟩
 ·rw[(h3 k hk).2] at hs
  split at hs<;>rename_i hc<;>simp[hc]<;>omega
 ·by_cases e:q=k
  ·subst e
   rw[atKey_del_same,has_del_same,Nw]
   exact⟨rfl,rfl⟩
  ·have ne:kl q≠kl k:=fun e'=>e (kl_inj hq hk e')
   rw[atKey_del_other ne,has_del_other ne,Mq e]
   exact h3 q hq
end
section
open Go Go.Proofs Go.Maps Go.RowKit
def Holds (W:World) (B:Nat) (cs:List Value):Prop:=(∀j,W.frozen? ⟨B,j,none⟩=false)/\W.rangeAt B 0 cs
theorem Holds.block {W W1:World} {B:Nat} {cs:List Value} (h:Holds W B cs) (he:W1.heap[B]? =W.heap[B]?):Holds W1 B cs:=by
 have hc: ∀j,W1.cell? ⟨B,j,none⟩=W.cell? ⟨B,j,none⟩:=fun j=>World.cell?_of_block he
 have hf: ∀j,W1.frozen? ⟨B,j,none⟩=W.frozen? ⟨B,j,none⟩:=fun j=>World.frozen?_of_block he
 unfold Holds World.rangeAt at *
 simp only[hc,hf]
 exact h
theorem Holds.new (w:World) (cs:List Value) (t:TypeId):Holds (w.alloc (Obj.cells cs.toArray t)) w.heap.size cs:=by
 refine⟨fun j=> ?_,fun j v hv=> ?_⟩
 ·simp[go_sem]
 ·simp[go_sem]
  exact hv
theorem Holds.cell {W:World} {B:Nat} {cs:List Value} (h:Holds W B cs) (p:Nat) {v:Value} (hp:cs[p]? =some v):W.cell? ⟨B,p,none⟩=some v:=by
 have:=h.2 p v hp
 simpa using this
theorem Holds.mid {W:World} {B:Nat} {cs:List Value} (h:Holds W B cs) (p n:Nat):W.rangeAt B p ((cs.drop p).take n):=by
 intro j v hv
 rw[List.getElem?_take] at hv
 split at hv
 ·rw[List.getElem?_drop] at hv
  exact h.cell (p+j) hv
 ·cases hv
theorem Holds.there {W:World} {B:Nat} {cs:List Value} (h:Holds W B cs) (p n:Nat) (hp:p+n<=cs.length):W.there B p n:=by
 intro j hj
 refine⟨?_,h.1 _⟩
 rw[h.cell (p+j) (List.getElem?_eq_getElem (by omega))]
 rfl
theorem Holds.lt {W:World} {B:Nat} {cs:List Value} (h:Holds W B cs) (hc:0<cs.length):B<W.heap.size:=by
 have h0:=h.cell 0 (List.getElem?_eq_getElem hc)
 rcases Nat.lt_or_ge B W.heap.size with h1|h1
 ·exact h1
 ·exfalso
  have e:W.heap[B]? =none:=Array.getElem?_eq_none h1
  simp[World.cell?,e] at h0
def Bw (cs:List Value) (p:Nat) (vs:List Value):List Value:=cs.take p++vs++cs.drop (p+vs.length)
theorem Holds.put {W:World} {B:Nat} {cs:List Value} (h:Holds W B cs) (p:Nat) (vs:List Value) (hp:p+vs.length<=cs.length):Holds (W.setCells B p vs) B (Bw cs p vs):=by
 refine⟨fun j=>by rw[World.frozen?_setCells];exact h.1 j,fun j v hv=> ?_⟩
 unfold Bw at hv
 have hth:=h.there p vs.length hp
 have e0:(⟨B,0+j,none⟩:Addr)=⟨B,j,none⟩:=by simp
 rw[e0]
 by_cases h1:j<p
 ·rw[List.getElem?_append_left (by simp;omega),List.getElem?_append_left (by simp;omega),List.getElem?_take,if_pos h1] at hv
  rw[World.cell?_setCells_out B vs p W ⟨B,j,none⟩ (fun _ _=>Or.inl h1)]
  exact h.cell j hv
 ·by_cases h2:j<p+vs.length
  ·rw[List.getElem?_append_left (by simp;omega),List.getElem?_append_right (by simp;omega)] at hv
   have h3:=World.rangeAt_setCells_same W B p vs hth (j - p) v (by simpa [Nat.min_eq_left (by omega:p<=cs.length)] using hv)
   rwa [show p+(j - p)=j by omega] at h3
  ·rw[List.getElem?_append_right (by simp;omega),List.getElem?_drop] at hv
   rw[World.cell?_setCells_out B vs p W ⟨B,j,none⟩ (fun _ _=>Or.inr (by show p+vs.length<=j;omega))]
   refine h.cell j ?_
   rw[←hv]
   congr 1
   simp
   omega
section
variable {o : Oper} {a : Act} {W : World} {x : Operand} {B p : Nat} {cs : List Value}
theorem Ad {v:Value} (t:TypeId) (hna: ∀w,(isAgg t).run Tryz.prog w= .ok false w) (ho:o.op= .load t x) (hx:a.eval x= .pointer (some ⟨B,p,none⟩)) (hc:Holds W B cs) (hv:cs[p]? =some v):(execOp a.eval o).run Tryz.prog W= .ok (.value v) W:=by
 have h0:=hc.cell p hv
 unfold execOp
 simp only[ho,hx]
 simp[go_sem,h0,hna]
theorem Af {vs:List Value} (t:TypeId) (n:Nat) (hu: ∃d,Tryz.prog.underlying t=some d/\d.isRow=true) (hi:(Tryz.prog.info? t).map (·.size)=some n) (ho:o.op= .load t x) (hx:a.eval x= .pointer (some ⟨B,p,none⟩)) (hc:Holds W B cs) (hv:(cs.drop p).take n=vs) (hn:vs.length=n):(execOp a.eval o).run Tryz.prog W= .ok (.value (.agg vs.toArray)) W:=by
 obtain⟨d,hu,hd⟩:=hu
 have h0:=hc.mid p n
 rw[hv] at h0
 unfold execOp
 simp only[ho,hx,Instr.loadAt,Instr.sureAddr,Sem.run_bind,Sem.run_pure,Result.andThen_ok,run_loadVar_mid W B p t vs d h0 hu hd (by rw[hi,hn])]
end
end
end Go.Proofs.YtfnohipnenkhoaaGreatDoor
namespace Go.Proofs
open Go.Shelf
def Tryz.lays125_ren:Go.Shelf.Ren:=⟨fun|125=>184|128=>196|129=>197|n=>n,fun|46=>195|3=>3|51=>220|53=>87|4=>4|5=>5|9=>9|n=>n,fun|n=>n⟩
theorem Tryz.lays125:Go.Proofs.Lays.n125 Tryz.prog Tryz.lays125_ren:={
 mixed:=by kernel_rfl
 f125:=Tryz.func184.trans (congrArg some (by kernel_rfl))
 f128:=Tryz.func196.trans (congrArg some (by kernel_rfl))
 f129:=Tryz.func197.trans (congrArg some (by kernel_rfl))
 t3:=Tryz.underlying3
 a3:=Tryz.isAgg3
 z3:=Tryz.sizeOf3
 v3:=Tryz.zeroValue3
 t4:=Tryz.underlying4
 a4:=Tryz.isAgg4
 z4:=Tryz.sizeOf4
 v4:=Tryz.zeroValue4
 t5:=Tryz.underlying5
 a5:=Tryz.isAgg5
 z5:=Tryz.sizeOf5
 v5:=Tryz.zeroValue5
 t9:=Tryz.underlying9
 a9:=Tryz.isAgg9
 z9:=Tryz.sizeOf9
 v9:=Tryz.zeroValue9
 t46:=Tryz.underlying195
 a46:=Tryz.isAgg195
 z46:=Tryz.sizeOf195
 v46:=Tryz.zeroValue195
 t51:=Tryz.underlying220
 a51:=Tryz.isAgg220
 z51:=Tryz.sizeOf220
 v51:=Tryz.zeroValue220
 t53:=Tryz.underlying87
 a53:=Tryz.isAgg87
 z53:=Tryz.sizeOf87
 v53:=Tryz.zeroValue87}
/-- bits.Len: "Len returns the minimum number of bits required to represent x; the result is 0 for x == 0.": IT RETURNS 'Lib.bitLen x'; the world is as it was. (A uint has 64 bits in the model.) ITS CALLEE bits.Len64 IS MET BY ITS OWN CONTRACT OFF THE SHELF (lay that first). (LAID: no walk: one application.) -/
theorem Tryz.bits_Len (x:Int) (w:World) (h0:0<=x) (h1:x<=18446744073709551615):
  Calls Tryz.prog 184 #[.int .u64 x] w fun e w'=>e= .returned (.int .i64 (Lib.bitLen x.toNat))/\w'=w:=Any.bits_Len Tryz.lays125 x w h0 h1
def Tryz.lays129_ren:Go.Shelf.Ren:=⟨fun|129=>197|n=>n,fun|53=>87|3=>3|4=>4|46=>195|5=>5|9=>9|n=>n,fun|n=>n⟩
theorem Tryz.lays129:Go.Proofs.Lays.n129 Tryz.prog Tryz.lays129_ren:={
 mixed:=by kernel_rfl
 f129:=Tryz.func197.trans (congrArg some (by kernel_rfl))
 t3:=Tryz.underlying3
 a3:=Tryz.isAgg3
 z3:=Tryz.sizeOf3
 v3:=Tryz.zeroValue3
 t4:=Tryz.underlying4
 a4:=Tryz.isAgg4
 z4:=Tryz.sizeOf4
 v4:=Tryz.zeroValue4
 t5:=Tryz.underlying5
 a5:=Tryz.isAgg5
 z5:=Tryz.sizeOf5
 v5:=Tryz.zeroValue5
 t9:=Tryz.underlying9
 a9:=Tryz.isAgg9
 z9:=Tryz.sizeOf9
 v9:=Tryz.zeroValue9
 t46:=Tryz.underlying195
 a46:=Tryz.isAgg195
 z46:=Tryz.sizeOf195
 v46:=Tryz.zeroValue195
 t53:=Tryz.underlying87
 a53:=Tryz.isAgg87
 z53:=Tryz.sizeOf87
 v53:=Tryz.zeroValue87}
/-- bits.Len64: "Len64 returns the minimum number of bits required to represent x; the result is 0 for x == 0.": IT RETURNS 'Lib.bitLen x'; the world is as it was. ('h0', 'h1': x is a uint64.) (LAID: no walk: one application.) -/
theorem Tryz.bits_Len64 (x:Int) (w:World) (h0:0<=x) (h1:x<=18446744073709551615):
  Calls Tryz.prog 197 #[.int .u64 x] w fun e w'=>e= .returned (.int .i64 (Lib.bitLen x.toNat))/\w'=w:=Any.bits_Len64 Tryz.lays129 x w h0 h1
def Tryz.lays317_ren:Go.Shelf.Ren:=⟨fun|317=>210|n=>n,fun|3=>3|46=>195|n=>n,fun|n=>n⟩
theorem Tryz.lays317:Go.Proofs.Lays.n317 Tryz.prog Tryz.lays317_ren:={
 mixed:=by kernel_rfl
 f317:=Tryz.func210.trans (congrArg some (by kernel_rfl))
 t3:=Tryz.underlying3
 a3:=Tryz.isAgg3
 z3:=Tryz.sizeOf3
 v3:=Tryz.zeroValue3
 t46:=Tryz.underlying195
 a46:=Tryz.isAgg195
 z46:=Tryz.sizeOf195
 v46:=Tryz.zeroValue195}
open Go.Lib in
/-- internal/strconv.log10Pow2: "log10Pow2(x) returns ⌊log₁₀ 2**x⌋ = ⌊x * log₁₀ 2⌋.": '(x * 78913) >> 18', at an x up to 64 (a length in bits). The world is as it was. (LAID: no walk: one application.) -/
theorem Tryz.internal_strconv_log10Pow2 (x:Nat) (h:x<=64) (w:World):
  Calls Tryz.prog 210 #[.int .i64 x] w fun e w'=>e= .returned (.int .i64 (Lib.l10 x))/\w'=w:=Any.internal_strconv_log10Pow2 Tryz.lays317 x h w
def Tryz.lays318_ren:Go.Shelf.Ren:=⟨fun|318=>211|n=>n,fun|3=>3|4=>4|n=>n,fun|n=>n⟩
theorem Tryz.lays318:Go.Proofs.Lays.n318 Tryz.prog Tryz.lays318_ren:={
 mixed:=by kernel_rfl
 f318:=Tryz.func211.trans (congrArg some (by kernel_rfl))
 t3:=Tryz.underlying3
 a3:=Tryz.isAgg3
 z3:=Tryz.sizeOf3
 v3:=Tryz.zeroValue3
 t4:=Tryz.underlying4
 a4:=Tryz.isAgg4
 z4:=Tryz.sizeOf4
 v4:=Tryz.zeroValue4}
open Go.Lib in
/-- internal/strconv.bool2: "bool2 converts b to an integer: 1 for true, 0 for false." The world is as it was. (LAID: no walk: one application.) -/
theorem Tryz.internal_strconv_bool2_int (b:Bool) (w:World):
  Calls Tryz.prog 211 #[.bool b] w fun e w'=>e= .returned (.int .i64 (if b then 1 else 0))/\w'=w:=Any.internal_strconv_bool2_int Tryz.lays318 b w
def Tryz.lays283_ren:Go.Shelf.Ren:=⟨fun|283=>205|n=>n,fun|3=>3|9=>9|4=>4|n=>n,fun|n=>n⟩
theorem Tryz.lays283:Go.Proofs.Lays.n283 Tryz.prog Tryz.lays283_ren:={
 mixed:=by kernel_rfl
 f283:=Tryz.func205.trans (congrArg some (by kernel_rfl))
 t3:=Tryz.underlying3
 a3:=Tryz.isAgg3
 z3:=Tryz.sizeOf3
 v3:=Tryz.zeroValue3
 t4:=Tryz.underlying4
 a4:=Tryz.isAgg4
 z4:=Tryz.sizeOf4
 v4:=Tryz.zeroValue4
 t9:=Tryz.underlying9
 a9:=Tryz.isAgg9
 z9:=Tryz.sizeOf9
 v9:=Tryz.zeroValue9}
open Go.Lib in
/-- internal/strconv.small: "small returns the string for an i with 0 <= i < nSmalls.": i's decimal numeral. The world is as it was. (LAID: no walk: one application.) -/
theorem Tryz.internal_strconv_small (i:Nat) (h:i<100) (w:World):
  Calls Tryz.prog 205 #[.int .i64 i] w fun e w'=>e= .returned (.string ⟨(Lib.decDigits i).toArray⟩)/\w'=w:=Any.internal_strconv_small Tryz.lays283 i h w
open Go.Lib in
def Tryz.lays285_ren:Go.Shelf.Ren:=⟨fun|285=>207|n=>n,fun|37=>56|53=>87|3=>3|4=>4|51=>220|9=>9|5=>5|0=>0|n=>n,fun|n=>n⟩
theorem Tryz.lays285:Go.Proofs.Lays.n285 Tryz.prog Tryz.lays285_ren:={
 mixed:=by kernel_rfl
 f285:=Tryz.func207.trans (congrArg some (by kernel_rfl))
 t0:=Tryz.underlying0
 a0:=Tryz.isAgg0
 z0:=Tryz.sizeOf0
 v0:=Tryz.zeroValue0
 t3:=Tryz.underlying3
 a3:=Tryz.isAgg3
 z3:=Tryz.sizeOf3
 v3:=Tryz.zeroValue3
 t4:=Tryz.underlying4
 a4:=Tryz.isAgg4
 z4:=Tryz.sizeOf4
 v4:=Tryz.zeroValue4
 t5:=Tryz.underlying5
 a5:=Tryz.isAgg5
 z5:=Tryz.sizeOf5
 v5:=Tryz.zeroValue5
 t9:=Tryz.underlying9
 a9:=Tryz.isAgg9
 z9:=Tryz.sizeOf9
 v9:=Tryz.zeroValue9
 t37:=Tryz.underlying56
 a37:=Tryz.isAgg56
 z37:=Tryz.sizeOf56
 v37:=Tryz.zeroValue56
 t51:=Tryz.underlying220
 a51:=Tryz.isAgg220
 z51:=Tryz.sizeOf220
 v51:=Tryz.zeroValue220
 t53:=Tryz.underlying87
 a53:=Tryz.isAgg87
 z53:=Tryz.sizeOf87
 v53:=Tryz.zeroValue87}
end Go.Proofs
namespace Go.Proofs.YtfnohipnenkhoaaGreatDoor
set_option maxRecDepth 100000
set_option maxHeartbeats 0
section
open Go Go.Proofs Go.RowKit Go.Sort Tryz
theorem LiesU.gb {w w':World} {blk:Nat} {d:Array Nat} {o:Option Nat} (h:LiesU w blk d) (hg:w.grownBy w' o) (hne:some blk≠o):LiesU w' blk d:=h.grown (hg.block blk h.lt hne)
theorem Zy (blk cap a b c B s:Nat) (d:Array Nat) (w:World) (hL:LiesU w blk d) (hP:Pt w B s) (hB:blk≠B) (hs:s<=50) (ha:a<d.size) (hb:b<d.size) (hc:c<d.size) (hsz:d.size<=1500000):
  Calls prog 203 #[.slice (some ⟨blk,0,none⟩) d.size cap, .int .i64 a, .int .i64 b, .int .i64 c, .pointer (some ⟨B,0,none⟩)] w fun e w'=> ∃m s':Nat,e= .returned (.int .i64 m)/\(m=a∨m=b∨m=c)/\s'<=s+3/\Pt w' B s'/\w.grownBy w' (some B):=by
 have HL:=Ab hL
 have HP:=Ab hP
 have hBn:some blk≠some B:=fun e=>hB (Option.some.inj e)
 clear hL hP
 go_enter func203,ntmps203
 go_wp2_with fail
 refine(Zbz blk cap a b B s d w (Aa HL) (Aa HP) (by omega) ha hb hsz).mono ?_
 rintro e w1 ⟨x1,y1,s1,rfl,h1,hs1,hP1,hG1⟩
 have HL1:=Ab ((Aa HL).gb hG1 hBn)
 have HP1:=Ab hP1
 have HG1:=Ab hG1
 clear hP1 hG1
 go_wp2_with fail
 refine(Zbz blk cap y1 c B s1 d w1 (Aa HL1) (Aa HP1) (by omega) (by omega) hc hsz).mono ?_
 rintro e w2 ⟨x2,y2,s2,rfl,h2,hs2,hP2,hG2⟩
 have HL2:=Ab ((Aa HL1).gb hG2 hBn)
 have HP2:=Ab hP2
 have HG2:=Ab (Dd (Aa HG1) hG2)
 clear hP2 hG2
 go_wp2_with fail
 refine(Zbz blk cap x1 x2 B s2 d w2 (Aa HL2) (Aa HP2) (by omega) (by omega) (by omega) hsz).mono ?_
 rintro e w3 ⟨x3,y3,s3,rfl,h3,hs3,hP3,hG3⟩
 have HF:=Ab (And.intro hP3 (Dd (Aa HG2) hG3))
 clear hP3 hG3
 go_wp2
 go_ret
 exact⟨y3,s3,rfl,by omega,by omega,(Aa HF).1,(Aa HF).2⟩
theorem Ue (blk cap a B s:Nat) (d:Array Nat) (w:World) (hL:LiesU w blk d) (hP:Pt w B s) (hB:blk≠B) (hs:s<=50) (ha:0<a) (ha2:a+1<d.size) (hsz:d.size<=1500000):
  Calls prog 202 #[.slice (some ⟨blk,0,none⟩) d.size cap, .int .i64 a, .pointer (some ⟨B,0,none⟩)] w fun e w'=> ∃m s':Nat,e= .returned (.int .i64 m)/\(m=a - 1∨m=a∨m=a+1)/\s'<=s+3/\Pt w' B s'/\w.grownBy w' (some B):=by
 have HM:=Ab (Zy blk cap (a - 1) a (a+1) B s d w hL hP hB hs (by omega) (by omega) ha2 hsz)
 clear hL hP
 have z1:IntKind.i64.wrap ((a:Int) - 1)=((a - 1:Nat):Int):=by rw[IntKind.wrap_i64];omega
 have z2:IntKind.i64.wrap ((a:Int)+1)=((a+1:Nat):Int):=by rw[IntKind.wrap_i64];omega
 go_enter func202,ntmps202
 go_wp2_with fail
 refine(Aa HM).mono ?_
 rintro e w1 ⟨m,s1,rfl,h1,hs1,hP1,hG1⟩
 have HF:=Ab (And.intro hP1 hG1)
 clear hP1 hG1
 go_wp2
 go_ret
 exact⟨m,s1,rfl,h1,hs1,(Aa HF).1,(Aa HF).2⟩
theorem pivot64 (blk cap a b:Nat) (d:Array Nat) (w:World) (hL:LiesU w blk d) (hab:a<b) (hb:b<=d.size) (hsz:d.size<=1500000):
  Calls prog 190 #[.slice (some ⟨blk,0,none⟩) d.size cap, .int .i64 a, .int .i64 b] w fun e w'=> ∃p h:Nat,e= .returned (.tuple #[.int .i64 p, .int .i64 h])/\a<=p/\p<b/\h<=2/\w.grownBy w' none:=by
 have HL:=Ab hL
 have hlt:=hL.lt
 clear hL
 obtain⟨l,hl⟩: ∃l,l=b - a:=⟨_,rfl⟩
 obtain⟨q,hq⟩: ∃q,q=l / 4:=⟨_,rfl⟩
 obtain⟨i,hi⟩: ∃i,i=a+q:=⟨_,rfl⟩
 obtain⟨j,hj⟩: ∃j,j=a+2 * q:=⟨_,rfl⟩
 obtain⟨k,hk⟩: ∃k,k=a+3 * q:=⟨_,rfl⟩
 have z1:IntKind.i64.wrap ((b:Int) - a)=(l:Int):=by rw[IntKind.wrap_i64];omega
 have z2:(l:Int).tdiv 4=(q:Int):=by rw[Int.tdiv_eq_ediv_of_nonneg (by omega)];omega
 have z2':(l:Int) / 4=(q:Int):=by omega
 have z3:IntKind.i64.wrap ((q:Int))=(q:Int):=by rw[IntKind.wrap_i64];omega
 have z4:IntKind.i64.wrap ((q:Int) * 2)=2 * (q:Int):=by rw[IntKind.wrap_i64];omega
 have z5:IntKind.i64.wrap ((q:Int) * 3)=3 * (q:Int):=by rw[IntKind.wrap_i64];omega
 have z6:IntKind.i64.wrap ((a:Int)+q)=(i:Int):=by rw[IntKind.wrap_i64];omega
 have z7:IntKind.i64.wrap ((a:Int)+2 * (q:Int))=(j:Int):=by rw[IntKind.wrap_i64];omega
 have z8:IntKind.i64.wrap ((a:Int)+3 * (q:Int))=(k:Int):=by rw[IntKind.wrap_i64];omega
 have HQ:=Ab (And.intro hl (And.intro hq (And.intro hi (And.intro hj hk))))
 clear hl hq hi hj hk
 have hP0:Pt (w.alloc (Obj.cells #[Value.int IntKind.i64 0] 3)) w.heap.size 0:=(show (w.heap.push _)[w.heap.size]? =_ from Array.getElem?_push_size)
 have HP0:=Ab hP0
 have hL0:=(Aa HL).grown (((Below.refl _ _).alloc (Nat.le_refl _) (Obj.cells #[Value.int IntKind.i64 0] 3)).block blk hlt)
 have HL0:=Ab hL0
 have HG0:Hid (∀X,(w.alloc (Obj.cells #[Value.int IntKind.i64 0] 3)).grownBy X (some w.heap.size)->w.grownBy X none):=Ab (fun X hX=>by
  have b0:=(Below.refl w.heap.size w).alloc (Nat.le_refl _) (Obj.cells #[Value.int IntKind.i64 0] 3)
  exact⟨hX.os.trans b0.os,hX.tape.trans b0.tape,hX.output.trans b0.output,Nat.le_trans b0.size hX.size,fun c hc _=>by
   rw[hX.block c (Nat.lt_of_lt_of_le hc b0.size) (fun e=>by cases e;omega)]
   exact b0.block c hc⟩)
 have hBB:blk≠w.heap.size:=by omega
 have hBn:some blk≠some w.heap.size:=fun e=>hBB (Option.some.inj e)
 clear hP0 hL0
 by_cases h50:50<=l
 ·have y1:(50:Int)<=l:=by omega
  have y2:(8:Int)<=l:=by omega
  go_enter func190,ntmps190
  go_wp2_with fail
  refine(Ue blk cap i w.heap.size 0 d _ (Aa HL0) (Aa HP0) hBB (by omega) (by have:=Aa HQ;omega) (by have:=Aa HQ;omega) hsz).mono ?_
  rintro e w1 ⟨i1,s1,rfl,h1,hs1,hP1,hG1⟩
  have HL1:=Ab ((Aa HL0).gb hG1 hBn)
  have HP1:=Ab hP1
  have HG1:=Ab hG1
  clear hP1 hG1
  go_wp2_with fail
  refine(Ue blk cap j w.heap.size s1 d w1 (Aa HL1) (Aa HP1) hBB (by omega) (by have:=Aa HQ;omega) (by have:=Aa HQ;omega) hsz).mono ?_
  rintro e w2 ⟨j1,s2,rfl,h2,hs2,hP2,hG2⟩
  have HL2:=Ab ((Aa HL1).gb hG2 hBn)
  have HP2:=Ab hP2
  have HG2:=Ab (Dd (Aa HG1) hG2)
  clear hP2 hG2
  go_wp2_with fail
  refine(Ue blk cap k w.heap.size s2 d w2 (Aa HL2) (Aa HP2) hBB (by omega) (by have:=Aa HQ;omega) (by have:=Aa HQ;omega) hsz).mono ?_
  rintro e w3 ⟨k1,s3,rfl,h3,hs3,hP3,hG3⟩
  have HL3:=Ab ((Aa HL2).gb hG3 hBn)
  have HP3:=Ab hP3
  have HG3:=Ab (Dd (Aa HG2) hG3)
  clear hP3 hG3
  go_wp2_with fail
  refine(Zy blk cap i1 j1 k1 w.heap.size s3 d w3 (Aa HL3) (Aa HP3) hBB (by omega) (by have:=Aa HQ;omega) (by have:=Aa HQ;omega) (by have:=Aa HQ;omega) hsz).mono ?_
  rintro e w4 ⟨m,s4,rfl,h4,hs4,hP4,hG4⟩
  obtain⟨p1,p2,p3⟩:=hP4.cell
  have HF:=Ab (Aa HG0 _ (Dd (Aa HG3) hG4))
  have HR:=Ab (show a<=m/\m<b by have:=Aa HQ;omega)
  clear hP4 hG4 h1 h2 h3 h4
  go_wp2
  all_goals
   go_ret2
   first
    |exact⟨m,1,rfl,(Aa HR).1,(Aa HR).2,by omega,Aa HF⟩
    |exact⟨m,2,rfl,(Aa HR).1,(Aa HR).2,by omega,Aa HF⟩
    |exact⟨m,0,rfl,(Aa HR).1,(Aa HR).2,by omega,Aa HF⟩
 ·by_cases h8:8<=l
  ·have y1: ¬(50:Int)<=l:=by omega
   have y2:(8:Int)<=l:=by omega
   go_enter func190,ntmps190
   go_wp2_with fail
   refine(Zy blk cap i j k w.heap.size 0 d _ (Aa HL0) (Aa HP0) hBB (by omega) (by have:=Aa HQ;omega) (by have:=Aa HQ;omega) (by have:=Aa HQ;omega) hsz).mono ?_
   rintro e w4 ⟨m,s4,rfl,h4,hs4,hP4,hG4⟩
   obtain⟨p1,p2,p3⟩:=hP4.cell
   have HF:=Ab (Aa HG0 _ hG4)
   have HR:=Ab (show a<=m/\m<b by have:=Aa HQ;omega)
   clear hP4 hG4 h4
   go_wp2
   all_goals
    go_ret2
    first
     |exact⟨m,1,rfl,(Aa HR).1,(Aa HR).2,by omega,Aa HF⟩
     |exact⟨m,2,rfl,(Aa HR).1,(Aa HR).2,by omega,Aa HF⟩
     |exact⟨m,0,rfl,(Aa HR).1,(Aa HR).2,by omega,Aa HF⟩
  ·have y1: ¬(50:Int)<=l:=by omega
   have y2: ¬(8:Int)<=l:=by omega
   have HF:=Ab (Aa HG0 _ (Ky _ _))
   have HR:=Ab (show a<=j/\j<b by have:=Aa HQ;omega)
   go_enter func190,ntmps190
   go_wp2
   go_ret2
   exact⟨j,1,rfl,(Aa HR).1,(Aa HR).2,by omega,Aa HF⟩
end
section
open Go Go.Proofs Go.RowKit Go.Sort
def Rn (w:World) (B:Nat) (n:Nat):Prop:=w.heap[B]? =some (.cells #[.int .u64 (n:Int)] 264 (0,0))
theorem Rn.cell {w:World} {B n:Nat} (h:Rn w B n):w.cell? ⟨B,0,none⟩=some (.int .u64 (n:Int))/\w.frozen? ⟨B,0,none⟩=false/\B<w.heap.size:=by
 unfold Rn at h
 exact⟨by simp[go_sem,World.cell?,h],by simp[go_sem,World.frozen?,h],(Array.getElem?_eq_some_iff.1 h).1⟩
theorem next80 (B r:Nat) (w:World) (h:Rn w B r) (hr:r<2^64):
  Calls Tryz.prog 201 #[.pointer (some ⟨B,0,none⟩)] w fun e w'=> ∃r':Nat,r'<2^64/\e= .returned (.int .u64 r')/\Rn w' B r'/\w.grownBy w' (some B):=by
 obtain⟨c,f,hl⟩:=h.cell
 obtain⟨s1,hs1⟩: ∃s1,s1=r * 8192 % 18446744073709551616:=⟨_,rfl⟩
 have a1:IntKind.u64.wrap ((r:Int) * 8192)=(s1:Int):=by simp[IntKind.wrap,IntKind.bits,IntKind.signed];omega
 obtain⟨r1,hr1⟩: ∃r1,r1=r^^^s1:=⟨_,rfl⟩
 have l1:r1<2^64:=by rw[hr1];exact Nat.xor_lt_two_pow hr (by omega)
 have b1:bits .xor .u64 (r:Int) (s1:Int)=(r1:Int):=by rw[hr1];exact u64_xor_nat r s1 hr (by omega)
 obtain⟨s2,hs2⟩: ∃s2,s2=r1 / 128:=⟨_,rfl⟩
 have a2:(r1:Int) / 128=(s2:Int):=by omega
 obtain⟨r2,hr2⟩: ∃r2,r2=r1^^^s2:=⟨_,rfl⟩
 have l2:r2<2^64:=by rw[hr2];exact Nat.xor_lt_two_pow l1 (by omega)
 have b2:bits .xor .u64 (r1:Int) (s2:Int)=(r2:Int):=by rw[hr2];exact u64_xor_nat r1 s2 l1 (by omega)
 obtain⟨s3,hs3⟩: ∃s3,s3=r2 * 131072 % 18446744073709551616:=⟨_,rfl⟩
 have a3:IntKind.u64.wrap ((r2:Int) * 131072)=(s3:Int):=by simp[IntKind.wrap,IntKind.bits,IntKind.signed];omega
 obtain⟨r3,hr3⟩: ∃r3,r3=r2^^^s3:=⟨_,rfl⟩
 have l3:r3<2^64:=by rw[hr3];exact Nat.xor_lt_two_pow l2 (by omega)
 have b3:bits .xor .u64 (r2:Int) (s3:Int)=(r3:Int):=by rw[hr3];exact u64_xor_nat r2 s3 l2 (by omega)
 have HL:=Ab (And.intro l3 h)
 clear l1 l2 l3 hr h hs1 hr1 hs2 hr2 hs3 hr3
 go_enter Tryz.func201,Tryz.ntmps201
 go_wp2_with fail
 go_region
 all_goals go_wp2_with fail
 go_region
 all_goals go_wp2_with fail
 go_region
 obtain⟨X,hX⟩: ∃X,X=(((w.setCell ⟨B,0,none⟩ (.int .u64 (r1:Nat))).setCell ⟨B,0,none⟩ (.int .u64 (r2:Nat))).setCell ⟨B,0,none⟩ (.int .u64 (r3:Nat))).drew.drew.drew:=⟨_,rfl⟩
 have hR:Rn X B r3:=by
  have h:=(Aa HL).2
  unfold Rn at *
  rw[hX]
  show ((((w.setCell ⟨B,0,none⟩ (.int .u64 (r1:Nat))).setCell ⟨B,0,none⟩ (.int .u64 (r2:Nat))).setCell ⟨B,0,none⟩ (.int .u64 (r3:Nat)))).heap[B]? =_
  simp[World.setCell,Array.getElem?_modify,h]
 have hG:w.grownBy X (some B):=by
  rw[hX]
  have g0:=Dd (Dd (Vt w B 0 (.int .u64 (r1:Nat))) (Vt _ B 0 (.int .u64 (r2:Nat)))) (Vt _ B 0 (.int .u64 (r3:Nat)))
  exact⟨g0.os,g0.tape,g0.output,g0.size,g0.block⟩
 rw[←hX]
 have HF:=Ab (And.intro hR hG)
 obtain⟨c',f',hl'⟩:=hR.cell
 clear hX hR hG
 go_wp2
 go_ret
 exact⟨r3,(Aa HL).1,rfl,(Aa HF).1,(Aa HF).2⟩
