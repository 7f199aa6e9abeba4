import Derived.Test.YthjnflilfjcgiaaGreatFmtQo
import Derived.Test.YthjnflilfjcgiaaGreatFmtQh
import Derived.Test.YthjnflilfjcgiaaGreatFmtQf
import Derived.Laws.OwnMore
import Derived.Laws.MakeOwn
import Derived.Deep.MidRow
import Derived.BigFrame
import Derived.Laws.AppendOwnNone
import Derived.OwnWalk
import Derived.Great.BuildSlice
import Derived.RangeFuncRecord
import Derived.Laws.StructEq
set_option linter.all false
namespace Go.Proofs.YthjnflilfjcgiaaGreatFmt
set_option maxRecDepth 100000
set_option maxHeartbeats 0
section
open Go Go.Proofs Go.RowKit
def dgF (most:Nat):List Nat->Nat->Option Nat
 | [],n=>some n
 |c::r,n=>if c<48∨57<c then none else if most<n * 10+(c - 48) then none else dgF most r (n * 10+(c - 48))
def dgV (most:Nat) (l:List Nat):Option Nat:=
 match l with
 | []=>none
 |c::r=>if c=48/\r≠ [] then none else dgF most (c::r) 0
theorem dgF_le (most:Nat): ∀(l:List Nat) (n m:Nat),n<=most->dgF most l n=some m->m<=most
 | [],n,m,h,e=>by simp[dgF] at e;omega
 |c::r,n,m,h,e=>by
  unfold dgF at e
  split at e
  ·cases e
  ·split at e
   ·cases e
   ·exact dgF_le most r _ m (by omega) e
theorem dgV_le (most:Nat) (l:List Nat) (m:Nat) (e:dgV most l=some m):m<=most:=by
 unfold dgV at e
 split at e
 ·cases e
 ·split at e
  ·cases e
  ·exact dgF_le most _ 0 m (Nat.zero_le _) e
theorem get_at (s:ByteArray) (i:Nat) (h:i<s.size):s.get! i=s[i]'h:=by
 cases s with
 |mk d=>exact getElem!_pos d i h
theorem dgF_step (most:Nat) (s:ByteArray) (i n:Nat) (h:i<s.size):
  dgF most ((nums s).drop i) n=if (s.get! i).toNat<48∨57<(s.get! i).toNat then none else if most<n * 10+((s.get! i).toNat - 48) then none else dgF most ((nums s).drop (i+1)) (n * 10+((s.get! i).toNat - 48)):=by
 have hl:i<(nums s).length:=by rw[nums_len];exact h
 have hg:(s.get! i).toNat=(nums s)[i]:=by
  rw[get_nums,List.getD_eq_getElem?_getD,List.getElem?_eq_getElem hl];rfl
 rw[hg,List.drop_eq_getElem_cons hl,dgF]
theorem dgF_end (most:Nat) (s:ByteArray) (i n:Nat) (h:s.size<=i):dgF most ((nums s).drop i) n=some n:=by
 rw[List.drop_eq_nil_of_le (by rw[nums_len];exact h),dgF]
theorem dgV_nil (most:Nat) (s:ByteArray) (h:s.size=0):dgV most (nums s)=none:=by
 have:nums s= []:=by rw[←List.length_eq_zero_iff,nums_len];exact h
 rw[this,dgV]
theorem dgV_cons (most:Nat) (s:ByteArray) (h:0<s.size):dgV most (nums s)=if (s.get! 0).toNat=48/\1<s.size then none else dgF most ((nums s).drop 0) 0:=by
 have hg:=get_nums s 0
 have hl:=nums_len s
 cases hn:nums s with
 |nil=>rw[hn] at hl;simp at hl;omega
 |cons c r=>
  rw[hn] at hg hl
  simp only[List.getD_cons_zero,List.length_cons] at hg hl
  rw[hg,dgV,List.drop_zero]
  have:(r≠ [])↔1<s.size:=by
   rw[←hl,←List.length_pos_iff];omega
  simp only[this]
theorem one_str (s:ByteArray) (hp:0<s.size) (h:((s[0]'hp).toNat:Int)=48):(s.toList== [48])=decide (s.size=1):=by
 have hl:s.toList.length=s.size:=by rw[Lib.toList_data];rfl
 have h0:s.toList[0]? =some 48:=by
  rw[Lib.toList_data,Array.getElem?_toList,Array.getElem?_eq_getElem (h:=hp)]
  congr 1
  exact UInt8.toNat_inj.1 (by show (s[0]'hp).toNat=48;omega)
 rw[←hl]
 cases e:s.toList with
 |nil=>rw[e] at h0;cases h0
 |cons c r=>
  rw[e] at h0
  simp only[List.getElem?_cons_zero,Option.some.injEq] at h0
  subst h0
  cases r<;>simp
theorem upTo49 (s:ByteArray) (most:Nat) (hs:s.size<4611686018427387904) (hm:most<=9007199254740991) (w:World):Calls Tryz.prog 72 #[.int .i64 (most:Nat), .string s] w fun e w'=>e= .returned (.tuple #[.int .i64 ((dgV most (nums s)).getD 0:Nat), .bool (dgV most (nums s)).isSome])/\w'=w:=by
 have hE:(s.toList.isEmpty=true)↔s.size=0:=by
  rw[ByteArray.size,←Array.length_toList,List.length_eq_zero_iff]
  simp[Lib.toList_data]
 go_enter Tryz.func72,Tryz.ntmps72
 by_cases h0:s.size=0
 ·have hv:=dgV_nil most s h0
  have he:=hE.2 h0
  have hz:(s.size:Int)=0:=by omega
  clear hE
  go_wp2
  go_ret2
  exact⟨by rw[hv];rfl,rfl⟩
 ·have hp:0<s.size:=by omega
  have hv:=dgV_cons most s hp
  have he:s.toList.isEmpty=false:=by
   cases h:s.toList.isEmpty
   ·rfl
   ·exact absurd (hE.1 h) h0
  clear hE
  have z0:(0:Int)<s.size:=by omega
  by_cases hz:(s.get! 0).toNat=48/\1<s.size
  ·rw[if_pos hz] at hv
   obtain⟨hz1,hz2⟩:=hz
   have z1:(1:Int)<s.size:=by omega
   have z2:((s[0]'hp).toNat:Int)=48:=by rw[←get_at s 0 hp];omega
   clear hz1
   have q1:(s.toList== [48])=false:=by rw[one_str s hp z2];exact decide_eq_false (by omega)
   go_wp2
   go_ret2
   exact⟨by rw[hv];rfl,rfl⟩
  ·rw[if_neg hz] at hv
   have HV:=hide hv
   clear hv
   have hc3:(¬((s[0]'hp).toNat:Int)=48)∨(¬1<s.size/\((s[0]'hp).toNat:Int)=48):=by
    rw[←get_at s 0 hp];omega
   clear hz
   rcases hc3 with z2|⟨h1,z2⟩
   ·have h1:=trivial
    have q1:=trivial
    have z1:=trivial
    go_wp2_with fail
    go_loopg [6,21] (s.size+1) (fun g s6 s21 wr=> ∃(n i:Nat),s6= .int .i64 n/\s21= .int .i64 i/\i<=s.size/\s.size - i<g/\n<=most/\wr=w/\Hid (dgV most (nums s)=dgF most ((nums s).drop i) n))
    case atStart=>exact⟨0,0,rfl,rfl,Nat.zero_le _,by omega,Nat.zero_le _,rfl,HV⟩
    case round=>
     obtain⟨n,i,rfl,rfl,hi,hg,hn,rfl,hR⟩:=hrel
     clear z0 z1 z2 h1 q1
     by_cases hil:i<s.size
     ·have hst:=dgF_step most s i n hil
      rw[get_at s i hil] at hst
      have y0:(i:Int)<s.size:=by omega
      have hcl:=(s[i]'hil).toNat_lt
      by_cases hc1:(s[i]'hil).toNat<48
      ·rw[if_pos (Or.inl hc1)] at hst
       have HS:=hide hst
       have y1:((s[i]'hil).toNat:Int)<48:=by omega
       clear hst hc1
       go_wp2
       go_ret2
       exact⟨by rw[uh hR,uh HS];rfl,rfl⟩
      ·have y1: ¬((s[i]'hil).toNat:Int)<48:=by omega
       by_cases hc2:57<(s[i]'hil).toNat
       ·rw[if_pos (Or.inr hc2)] at hst
        have HS:=hide hst
        have y2:(57:Int)<((s[i]'hil).toNat:Int):=by omega
        clear hst hc1 hc2
        go_wp2
        go_ret2
        exact⟨by rw[uh hR,uh HS];rfl,rfl⟩
       ·rw[if_neg (by omega)] at hst
        have y2: ¬(57:Int)<((s[i]'hil).toNat:Int):=by omega
        obtain⟨m,hm1⟩: ∃m,m=n * 10+((s[i]'hil).toNat - 48):=⟨_,rfl⟩
        rw[←hm1] at hst
        have y3:IntKind.u8.wrap (((s[i]'hil).toNat:Int) - 48)=(((s[i]'hil).toNat - 48:Nat):Int):=by
         simp[IntKind.wrap,IntKind.bits,IntKind.signed];omega
        have y4:IntKind.i64.wrap (((s[i]'hil).toNat - 48:Nat):Int)=(((s[i]'hil).toNat - 48:Nat):Int):=by
         rw[IntKind.wrap_i64];omega
        have y5:IntKind.i64.wrap (10 * (n:Int))=((10 * n:Nat):Int):=by
         rw[IntKind.wrap_i64];omega
        have y6:IntKind.i64.wrap (((10 * n:Nat):Int)+(((s[i]'hil).toNat - 48:Nat):Int))=(m:Int):=by
         rw[IntKind.wrap_i64];omega
        have y7:IntKind.i64.wrap ((i:Int)+1)=((i+1:Nat):Int):=by rw[IntKind.wrap_i64];omega
        by_cases hmm:most<m
        ·rw[if_pos hmm] at hst
         have HS:=hide hst
         have y8:(most:Int)<m:=by omega
         clear hst hc1 hc2
         go_wp2
         go_ret2
         exact⟨by rw[uh hR,uh HS];rfl,rfl⟩
        ·rw[if_neg hmm] at hst
         have HS:=hide hst
         have y8: ¬(most:Int)<m:=by omega
         clear hst hc1 hc2
         go_wp2
         go_roundg (s.size - i)
         case measure=>omega
         case rel=>exact⟨m,i+1,by congr 1;omega,by go_num,by omega,by omega,by omega,rfl,hide (by rw[uh hR,uh HS])⟩
     ·have hst:=dgF_end most s i n (by omega)
      have HS:=hide hst
      have y0: ¬(i:Int)<s.size:=by omega
      clear hst
      go_wp2
      go_ret2
      exact⟨by rw[uh hR,uh HS];rfl,rfl⟩
   ·have q1:(s.toList== [48])=true:=by rw[one_str s hp z2];exact decide_eq_true (by omega)
    have z1:=trivial
    go_wp2_with fail
    go_loopg [6,21] (s.size+1) (fun g s6 s21 wr=> ∃(n i:Nat),s6= .int .i64 n/\s21= .int .i64 i/\i<=s.size/\s.size - i<g/\n<=most/\wr=w/\Hid (dgV most (nums s)=dgF most ((nums s).drop i) n))
    case atStart=>exact⟨0,0,rfl,rfl,Nat.zero_le _,by omega,Nat.zero_le _,rfl,HV⟩
    case round=>
     obtain⟨n,i,rfl,rfl,hi,hg,hn,rfl,hR⟩:=hrel
     clear z0 z1 z2 h1 q1
     by_cases hil:i<s.size
     ·have hst:=dgF_step most s i n hil
      rw[get_at s i hil] at hst
      have y0:(i:Int)<s.size:=by omega
      have hcl:=(s[i]'hil).toNat_lt
      by_cases hc1:(s[i]'hil).toNat<48
      ·rw[if_pos (Or.inl hc1)] at hst
       have HS:=hide hst
       have y1:((s[i]'hil).toNat:Int)<48:=by omega
       clear hst hc1
       go_wp2
       go_ret2
       exact⟨by rw[uh hR,uh HS];rfl,rfl⟩
      ·have y1: ¬((s[i]'hil).toNat:Int)<48:=by omega
       by_cases hc2:57<(s[i]'hil).toNat
       ·rw[if_pos (Or.inr hc2)] at hst
        have HS:=hide hst
        have y2:(57:Int)<((s[i]'hil).toNat:Int):=by omega
        clear hst hc1 hc2
        go_wp2
        go_ret2
        exact⟨by rw[uh hR,uh HS];rfl,rfl⟩
       ·rw[if_neg (by omega)] at hst
        have y2: ¬(57:Int)<((s[i]'hil).toNat:Int):=by omega
        obtain⟨m,hm1⟩: ∃m,m=n * 10+((s[i]'hil).toNat - 48):=⟨_,rfl⟩
        rw[←hm1] at hst
        have y3:IntKind.u8.wrap (((s[i]'hil).toNat:Int) - 48)=(((s[i]'hil).toNat - 48:Nat):Int):=by
         simp[IntKind.wrap,IntKind.bits,IntKind.signed];omega
        have y4:IntKind.i64.wrap (((s[i]'hil).toNat - 48:Nat):Int)=(((s[i]'hil).toNat - 48:Nat):Int):=by
         rw[IntKind.wrap_i64];omega
        have y5:IntKind.i64.wrap (10 * (n:Int))=((10 * n:Nat):Int):=by
         rw[IntKind.wrap_i64];omega
        have y6:IntKind.i64.wrap (((10 * n:Nat):Int)+(((s[i]'hil).toNat - 48:Nat):Int))=(m:Int):=by
         rw[IntKind.wrap_i64];omega
        have y7:IntKind.i64.wrap ((i:Int)+1)=((i+1:Nat):Int):=by rw[IntKind.wrap_i64];omega
        by_cases hmm:most<m
        ·rw[if_pos hmm] at hst
         have HS:=hide hst
         have y8:(most:Int)<m:=by omega
         clear hst hc1 hc2
         go_wp2
         go_ret2
         exact⟨by rw[uh hR,uh HS];rfl,rfl⟩
        ·rw[if_neg hmm] at hst
         have HS:=hide hst
         have y8: ¬(most:Int)<m:=by omega
         clear hst hc1 hc2
         go_wp2
         go_roundg (s.size - i)
         case measure=>omega
         case rel=>exact⟨m,i+1,by congr 1;omega,by go_num,by omega,by omega,by omega,rfl,hide (by rw[uh hR,uh HS])⟩
     ·have hst:=dgF_end most s i n (by omega)
      have HS:=hide hst
      have y0: ¬(i:Int)<s.size:=by omega
      clear hst
      go_wp2
      go_ret2
      exact⟨by rw[uh hR,uh HS];rfl,rfl⟩
end
section
open Go Go.Proofs Go.RowKit Tryz
def ixOf (l:List Nat):Option Nat:=dgV 4294967294 l
theorem ixOf_le (l:List Nat) (m:Nat) (h:ixOf l=some m):m<=4294967294:=dgV_le _ _ _ h
theorem index34 (s:ByteArray) (hs:s.size<4611686018427387904) (w:World):Calls prog 51 #[.string s] w fun e w'=>e= .returned (.tuple #[.int .u32 ((ixOf (nums s)).getD 0:Nat), .bool (ixOf (nums s)).isSome])/\w'=w:=by
 have HC:=hide (upTo49 s 4294967294 hs (by omega) w)
 have z1:IntKind.u32.wrap ((ixOf (nums s)).getD 0:Nat)=((ixOf (nums s)).getD 0:Nat):=by
  have:(ixOf (nums s)).getD 0<=4294967294:=by
   cases h:ixOf (nums s) with
   |none=>simp
   |some m=>exact ixOf_le _ _ h
  simp[IntKind.wrap,IntKind.bits,IntKind.signed];omega
 change Hid (Calls prog 72 #[.int .i64 4294967294, .string s] w fun e w'=>e= .returned (.tuple #[.int .i64 ((ixOf (nums s)).getD 0:Nat), .bool (ixOf (nums s)).isSome])/\w'=w) at HC
 generalize (ixOf (nums s)).getD 0=m at *
 generalize (ixOf (nums s)).isSome=b at *
 go_enter func51,ntmps51
 go_wp2_with fail
 refine(uh HC).mono ?_
 rintro e w' ⟨rfl,rfl⟩
 go_wp2
 go_ret2
 exact⟨rfl,rfl⟩
theorem below_alloc1 (w:World) (o:Obj):Below w.heap.size w (w.alloc o):=(Below.refl _ _).alloc (Nat.le_refl _) _
def keyV (s:ByteArray) (n:Int):Value:= .agg #[.string s, .int .i64 n]
def kdOf (s:ByteArray) (n:Int):Int:=if n=0 then (if (ixOf (nums s)).isSome then 0 else 1) else 2
def knOf (s:ByteArray) (n:Int):Nat:=if n=0 then ((ixOf (nums s)).getD 0) else 0
theorem kindOf22 (s:ByteArray) (n:Int) (hs:s.size<4611686018427387904) (w:World):Calls prog 161 #[keyV s n] w fun e w'=>e= .returned (.tuple #[.int .i64 (kdOf s n), .int .u32 (knOf s n:Nat)])/\Below w.heap.size w w':=by
 have HC:=hide (index34 s hs)
 unfold keyV
 by_cases hn:n=0
 ·subst hn
  have e1:kdOf s 0=if (ixOf (nums s)).isSome then 0 else 1:=by unfold kdOf;rw[if_pos rfl]
  have e2:knOf s 0=(ixOf (nums s)).getD 0:=by unfold knOf;rw[if_pos rfl]
  rw[e1,e2]
  clear e1 e2
  generalize ixOf (nums s)=o at *
  go_enter func161,ntmps161
  go_wp2_with fail
  refine(uh HC _).mono ?_
  rintro e w' ⟨rfl,rfl⟩
  cases o with
  |none=>
   go_wp2
   go_ret2
   exact⟨rfl,below_alloc1 _ _⟩
  |some m=>
   go_wp2
   go_ret2
   exact⟨rfl,below_alloc1 _ _⟩
 ·have e1:kdOf s n=2:=by unfold kdOf;rw[if_neg hn]
  have e2:knOf s n=0:=by unfold knOf;rw[if_neg hn]
  rw[e1,e2]
  go_enter func161,ntmps161
  go_wp2
  go_ret2
  exact⟨rfl,below_alloc1 _ _⟩
theorem run_store_float (P:Program) (w:World) (a:Addr) (m:Mode) (k:FloatKind) (x:Nat):(store a (.float k x) m).run P w=stored P w a (.float k x) m:=run_store P w a _ m rfl
attribute [local go_sem] bits_run run_store_float
def kVal (s:ByteArray) (n:Int):VV:=if n=0 then ⟨5,false,0,s,0⟩ else ⟨6,false,0,s,n⟩
theorem kbelow2 (w:World) (o1 o2:Obj):Below w.heap.size w ((w.alloc o1).alloc o2):=((Below.refl _ _).alloc (Nat.le_refl _) _).alloc (by simp) _
theorem asValue21 (s:ByteArray) (n:Int) (w:World):Calls prog 61 #[keyV s n] w fun e w'=>e= .returned (kVal s n).agg/\Below w.heap.size w w':=by
 unfold keyV
 by_cases hn:n=0
 ·subst hn
  have e1:kVal s 0=⟨5,false,0,s,0⟩:=by unfold kVal;rw[if_pos rfl]
  rw[e1]
  unfold VV.agg
  go_enter func61,ntmps61
  go_wp2
  simp[bodyPost,results,Tryz.results61,go_sem]
  exact kbelow2 ..
 ·have e1:kVal s n=⟨6,false,0,s,n⟩:=by unfold kVal;rw[if_neg hn]
  rw[e1]
  unfold VV.agg
  go_enter func61,ntmps61
  go_wp2
  simp[bodyPost,results,Tryz.results61,go_sem]
  exact kbelow2 ..
theorem vcheck20 (v:VV) (w:World) (hT:Lib.Utf8Tabs 4 5 w):Calls prog 20 #[v.agg] w fun e w'=>e= .returned (.int .i64 (if v.good then 0 else 5))/\Below w.heap.size w w':=by
 have HI:=hide (fun w (hT:Lib.Utf8Tabs 4 5 w)=>inside_any v.k v.b v.x v.s v.i w hT)
 have HT:=hide hT
 unfold VV.agg VV.good
 generalize goodV v.k v.b v.x v.s v.i=g at *
 clear hT
 go_enter func20,ntmps20
 go_wp2_with fail
 refine(uh HI _ (tabs_below (uh HT) (below_alloc1 _ _))).mono ?_
 rintro e w1 ⟨rfl,hb⟩
 have HB:=hide (((below_alloc1 w _).trans (hb.mono (by simp))))
 clear hb
 cases g
 ·go_wp2
  go_ret
  exact⟨rfl,uh HB⟩
 ·go_wp2
  go_ret
  exact⟨rfl,uh HB⟩
theorem check12 (s:ByteArray) (n:Int) (w:World) (hT:Lib.Utf8Tabs 4 5 w):Calls prog 36 #[keyV s n] w fun e w'=>e= .returned (.int .i64 (if (kVal s n).good then 0 else 5))/\Below w.heap.size w w':=by
 have HA:=hide (fun w=>asValue21 s n w)
 have HI:=hide (fun w (hT:Lib.Utf8Tabs 4 5 w)=>vcheck20 (kVal s n) w hT)
 have HT:=hide hT
 unfold keyV at *
 generalize (kVal s n).agg=v at *
 generalize (if (kVal s n).good then (0:Int) else 5)=g at *
 clear hT
 go_enter func36,ntmps36
 go_wp2_with fail
 refine(uh HA _).mono ?_
 rintro e w1 ⟨rfl,hb⟩
 have HB:=hide (((below_alloc1 w _).trans (hb.mono (by simp))))
 clear hb
 go_wp2_with fail
 refine(uh HI _ (tabs_below (uh HT) (uh HB))).mono ?_
 rintro e w2 ⟨rfl,hb2⟩
 have HB2:=hide ((uh HB).trans (hb2.mono (uh HB).size))
 clear hb2
 go_wp2
 go_ret
 exact⟨rfl,uh HB2⟩
end
section
open Go Go.Proofs Go.RowKit
theorem two2 {w w1:World} {c0 c1 d0 d1:Value} {t u:TypeId} (hb:Below ((w.alloc (Obj.cells #[c0,c1] t)).alloc (Obj.cells #[d0,d1] u)).drew.heap.size ((w.alloc (Obj.cells #[c0,c1] t)).alloc (Obj.cells #[d0,d1] u)).drew w1):
  w1.cell? ⟨w.heap.size,1,none⟩=some c1/\w1.cell? ⟨w.heap.size+1,0,none⟩=some d0/\w1.cell? ⟨w.heap.size+1,1,none⟩=some d1/\w1.frozen? ⟨w.heap.size+1,0,none⟩=false/\w1.frozen? ⟨w.heap.size+1,1,none⟩=false/\
  Below w.heap.size w w1/\w1.heap[w.heap.size+1]? =some (Obj.cells #[d0,d1] u):=by
 have h1:=hb.cell (p:=⟨w.heap.size,1,none⟩) (by simp;omega)
 have h2:=hb.cell (p:=⟨w.heap.size+1,0,none⟩) (by simp)
 have h3:=hb.cell (p:=⟨w.heap.size+1,1,none⟩) (by simp)
 have h4:=hb.frozen (p:=⟨w.heap.size+1,0,none⟩) (by simp)
 have h5:=hb.frozen (p:=⟨w.heap.size+1,1,none⟩) (by simp)
 have h6:=hb.block (w.heap.size+1) (by simp)
 simp[go_sem] at h1 h2 h3 h4 h5
 refine⟨h1,h2,h3,h4,h5,((kbelow2 w _ _).drew).trans (hb.mono (by simp;omega)), ?_⟩
 rw[h6]
 have e:=heap_alloc_new (w.alloc (Obj.cells #[c0,c1] t)) (Obj.cells #[d0,d1] u)
 rw[show (w.alloc (Obj.cells #[c0,c1] t)).heap.size=w.heap.size+1 by simp] at e
 exact e
theorem anew30 (s:ByteArray) (n:Int) (h:s.size<=1048576) (w:World):Calls Tryz.prog 162 #[keyV s n] w fun e w'=>e= .returned (keyV s n)/\Below w.heap.size w w':=by
 have HC:=hide (fun w=>clone_any s w h)
 unfold keyV
 go_enter Tryz.func162,Tryz.ntmps162
 go_wp2_with fail
 go_region_with (go_at_call 59;refine(uh HC _).mono ?_;rintro e w1 ⟨rfl,hb⟩;obtain⟨c1,d0,d1,f0,f1,hB,hO⟩:=two2 hb;have HB:=hide hB;have HO:=hide hO;clear hb hB hO)
 all_goals
  have g0:((w1.setCell ⟨w.heap.size+1,0,none⟩ (.string s)).setCell ⟨w.heap.size+1,1,none⟩ (.int .i64 n)).cell? ⟨w.heap.size+1,0,none⟩=some (.string s):=by
   simp[World.cell?,World.setCell,Array.getElem?_modify,uh HO]
  have g1:((w1.setCell ⟨w.heap.size+1,0,none⟩ (.string s)).setCell ⟨w.heap.size+1,1,none⟩ (.int .i64 n)).cell? ⟨w.heap.size+1,1,none⟩=some (.int .i64 n):=by
   simp[World.cell?,World.setCell,Array.getElem?_modify,uh HO]
  have HG:=hide (((uh HB).setCell (p:=⟨w.heap.size+1,0,none⟩) (by simp) (.string s)).setCell (p:=⟨w.heap.size+1,1,none⟩) (by simp) (.int .i64 n))
  generalize (w1.setCell ⟨w.heap.size+1,0,none⟩ (.string s)).setCell ⟨w.heap.size+1,1,none⟩ (.int .i64 n)=W at *
  clear HB HO f0 f1 d0 d1 c1 HC
  go_wp2
  simp[bodyPost,results,Tryz.results162,go_sem,g0,g1]
  exact uh HG
theorem good_size {s:ByteArray} {n:Int} (h:(kVal s n).good=true):s.size<=1048576:=by
 unfold kVal at h
 by_cases hn:n=0
 ·rw[if_pos hn] at h
  rcases hf:fitV s with _|_
  ·simp[VV.good,goodV,inG,hf] at h
  ·unfold fitV at hf
   simp at hf
   exact hf.1
 ·rw[if_neg hn] at h
  have:s.toList.isEmpty=true:=by
   cases he:s.toList.isEmpty
   ·simp[VV.good,goodV,inG,strV,he] at h
   ·rfl
  rw[empty_of this]
  decide
end
section
open Go Go.Proofs Go.RowKit Tryz
structure KK where
 s:ByteArray
 n:Int
def KK.agg (k:KK):Value:= .agg #[.string k.s, .int .i64 k.n]
def KK.cs (k:KK):List Value:= [.string k.s, .int .i64 k.n]
def KK.obj (k:KK):Obj:=Obj.cells #[.string k.s, .int .i64 k.n] 42
theorem KK.ext' {a b:KK} (h1:a.s=b.s) (h2:a.n=b.n):a=b:=by cases a;cases b;cases h1;cases h2;rfl
theorem agg_key (k:KK):keyV k.s k.n=k.agg:=rfl
def zeroK:KK:=⟨ByteArray.empty,0⟩
def KLies (W:World) (B:Nat) (k:KK):Prop:=(∀j,W.frozen? ⟨B,j,none⟩=false)/\W.cell? ⟨B,0,none⟩=some (.string k.s)/\W.cell? ⟨B,1,none⟩=some (.int .i64 k.n)
theorem KLies.new (w:World) (B:Nat) (hB:B=w.heap.size) (k:KK):KLies (w.alloc k.obj) B k:=by
 subst hB
 unfold KLies KK.obj
 simp[go_sem]
theorem KLies.block {W W1:World} {B:Nat} {k:KK} (h:KLies W B k) (he:W1.heap[B]? =W.heap[B]?):KLies W1 B k:=by
 have hc: ∀j,W1.cell? ⟨B,j,none⟩=W.cell? ⟨B,j,none⟩:=fun j=>World.cell?_of_block he
 have hf: ∀j,W1.frozen? ⟨B,j,none⟩=W.frozen? ⟨B,j,none⟩:=fun j=>World.frozen?_of_block he
 unfold KLies at *
 simp only[hc,hf]
 exact h
theorem KLies.range {W:World} {B:Nat} {k:KK} (h:KLies W B k):W.rangeAt B 0 k.cs:=by
 intro j v hv
 obtain⟨-,h0,h1⟩:=h
 match j,hv with
 |0,hv=>exact(Option.some.inj hv)▸h0
 |1,hv=>exact(Option.some.inj hv)▸h1
 |_+2,hv=>exact absurd hv (by simp[KK.cs])
theorem KLies.there {W:World} {B:Nat} {k:KK} (h:KLies W B k):W.there B 0 2:=by
 obtain⟨f,h0,h1⟩:=h
 intro j hj
 match j,hj with
 |0,_=>exact⟨h0▸rfl,f _⟩
 |1,_=>exact⟨h1▸rfl,f _⟩
theorem heap_setCells (b:Nat): ∀(vs:List Value) (o:Nat) (X:World) (g:Nat),g≠b->(X.setCells b o vs).heap[g]? =X.heap[g]?
 | [],_,_,_,_=>rfl
 |v::vs,o,X,g,h=>by
  rw[World.setCells,heap_setCells b vs _ _ g h]
  simp[World.setCell,Array.getElem?_modify,Ne.symm h]
theorem size_setCells {b:Nat}: ∀(vs:List Value) (o:Nat) (W:World),(W.setCells b o vs).heap.size=W.heap.size
 | [],_,_=>rfl
 |v::vs,o,W=>by
  rw[World.setCells,size_setCells vs]
  simp[World.setCell]
theorem below_setCells {w:World} {b:Nat} (hb:w.heap.size<=b): ∀(vs:List Value) (o:Nat) (W:World),Below w.heap.size w W->Below w.heap.size w (W.setCells b o vs)
 | [],_,_,h=>h
 |v::vs,o,W,h=>below_setCells hb vs _ _ (h.setCell (by exact hb) _)
structure Kq (w X:World) (l:List (Nat×KK)):Prop where
 below:Below w.heap.size w X
 all: ∀q∈l,w.heap.size<=q.1/\q.1<X.heap.size/\KLies X q.1 q.2
theorem Kq.nil (w:World):Kq w w []:=⟨Below.refl _ _,fun q hq=>by cases hq⟩
theorem Kq.on {w X X1:World} {l:List (Nat×KK)} (h:Kq w X l) (hb:Below X.heap.size X X1):Kq w X1 l:=
 ⟨h.below.trans (hb.mono h.below.size),fun q hq=>⟨(h.all q hq).1,Nat.lt_of_lt_of_le (h.all q hq).2.1 hb.size,(h.all q hq).2.2.block (hb.block _ (h.all q hq).2.1)⟩⟩
theorem Kq.get {w X:World} {l:List (Nat×KK)} (h:Kq w X l) (i:Nat) {b:Nat} {k:KK} (hi:l[i]? =some (b,k)):KLies X b k:=(h.all _ (List.mem_of_getElem? hi)).2.2
theorem Kq.new {w X:World} {l:List (Nat×KK)} (h:Kq w X l) (k:KK):Kq w (X.alloc k.obj) (l++ [(X.heap.size,k)]):=by
 have hb:Below X.heap.size X (X.alloc k.obj):=(Below.refl _ _).alloc (Nat.le_refl _) _
 refine⟨(h.on hb).below,fun q hq=> ?_⟩
 rcases List.mem_append.1 hq with hq|hq
 ·exact(h.on hb).all q hq
 ·obtain rfl:q=(X.heap.size,k):=by simpa using hq
  exact⟨h.below.size,by simp,KLies.new X _ rfl k⟩
theorem KLies.setK {W:World} {B:Nat} {k u:KK} (h:KLies W B k):KLies (W.setCells B 0 u.cs) B u:=by
 obtain⟨f,h0,h1⟩:=h
 refine⟨fun j=> ?_, ?_, ?_⟩
 ·simp[KK.cs,World.setCells,go_sem,f]
 ·simp[KK.cs,World.setCells,go_sem,h0,h1]
 ·simp[KK.cs,World.setCells,go_sem,h0,h1]
theorem info23:(prog.info? 42).map (·.size)=some 2:=by kernel_rfl
theorem isrow23: ∃d,prog.underlying 42=some d/\d.isRow=true:=⟨_,underlying42,rfl⟩
section
variable {ops : Array Oper} {rest : List Oper} {o : Oper} {a : Act} {w w0 : World} {Q : Exit → Act → World → Prop} {l : List (Nat × KK)} {x y : Operand} {b : Nat} {d u : KK}
theorem load23 (hw:Region.wanted o (yielded ops a.tmps)=true) (ho:o.op= .load 42 x) (hx:a.eval x= .pointer (some ⟨b,0,none⟩)) (hc:KLies w b d) (h:wpList prog ops Q rest (a.put o.dst d.agg) w):wpList prog ops Q (o::rest) a w:=by
 obtain⟨t,hu,hd⟩:=isrow23
 refine BigFrame.wpList_want hw fun K hK=> ?_
 exact wp_load_mid 42 x ho b 0 hx _ t hc.range hu hd info23 (hK _ _ h)
theorem kalloc23 (hw:Region.wanted o (yielded ops a.tmps)=true) (ho:o.op= .alloc 42) (hL:Kq w0 w l)
  (h: ∀X,Kq w0 X (l++ [(w.heap.size,zeroK)])->Below w.heap.size w X->wpList prog ops Q rest (a.put o.dst (.pointer (some ⟨w.heap.size,0,none⟩))) X):wpList prog ops Q (o::rest) a w:=by
 refine BigFrame.wpList_want hw fun K hK=> ?_
 have hP:=hK _ _ (h _ (hL.new zeroK) ((Below.refl _ _).alloc (Nat.le_refl _) _))
 unfold Oper.wp execOp
 simp only[ho]
 simp[go_sem,Tryz.zeroValue42]
 exact hP
theorem kstore23 {m:List (Nat×KK)} (hw:Region.wanted o (yielded ops a.tmps)=true) (ho:o.op= .store 42 x y) (hL:Kq w0 w m) (hx:a.eval x= .pointer (some ⟨b,0,none⟩)) (hy:a.eval y=u.agg) (hm:m=l++ [(b,d)]) (hne: ∀q∈l,q.1≠b)
  (h: ∀X,Kq w0 X (l++ [(b,u)])->(∀g,g≠b->X.heap[g]? =w.heap[g]?)->X.heap.size=w.heap.size->wpList prog ops Q rest (a.put o.dst undef) X):wpList prog ops Q (o::rest) a w:=by
 subst hm
 refine BigFrame.wpList_want hw fun K hK=> ?_
 have hb:=hL.all (b,d) (by simp)
 refine wp_store_mid 42 x y ho _ 0 u.cs.toArray hx hy (KLies.there hb.2.2) info23 (by simp[KK.cs,Value.oneCell']) (hK _ _ (h _ ?_ (fun g hg=>heap_setCells _ _ _ _ _ hg) (size_setCells _ _ _)))
 refine⟨below_setCells hb.1 _ _ _ hL.below,fun q hq=> ?_⟩
 rw[size_setCells]
 rcases List.mem_append.1 hq with hq|hq
 ·have hq0:=hL.all q (List.mem_append_left _ hq)
  exact⟨hq0.1,hq0.2.1,hq0.2.2.block (heap_setCells _ _ _ _ _ (hne q hq))⟩
 ·obtain rfl:q=(b,u):=by simpa using hq
  exact⟨hb.1,hb.2.1,KLies.setK hb.2.2⟩
end
def flatK (l:List KK):List Value:=l.flatMap KK.cs
theorem flatK_append (l m:List KK):flatK (l++m)=flatK l++flatK m:=by unfold flatK;rw[List.flatMap_append]
theorem flatK_one (d:KK):flatK [d]=d.cs:=by simp[flatK]
theorem kcs_length (d:KK):d.cs.length=2:=rfl
theorem flatK_length: ∀l:List KK,(flatK l).length=l.length * 2
 | []=>rfl
 |v::l=>by
  have:flatK (v::l)=v.cs++flatK l:=rfl
  rw[this,List.length_append,flatK_length l,List.length_cons,kcs_length]
  omega
theorem flatK_get: ∀(l:List KK) (j t:Nat) (hj:j<l.length),t<2->(flatK l)[j * 2+t]? =(l[j]).cs[t]?
 | [],j,t,hj,_=>by cases hj
 |v::l,0,t,_,ht=>by
  have:flatK (v::l)=v.cs++flatK l:=rfl
  rw[this,List.getElem?_append_left (by rw[kcs_length];omega)]
  simp
 |v::l,j+1,t,hj,ht=>by
  have:flatK (v::l)=v.cs++flatK l:=rfl
  rw[this,List.getElem?_append_right (by rw[kcs_length];omega)]
  have e:(j+1) * 2+t - v.cs.length=j * 2+t:=by rw[kcs_length];omega
  rw[e,flatK_get l j t (by simpa using hj) ht]
  simp
theorem flatK_cell: ∀(l:List KK),∀u∈flatK l,u.oneCell'=true
 | [],u,hu=>by cases hu
 |v::l,u,hu=>by
  have:flatK (v::l)=v.cs++flatK l:=rfl
  rw[this,List.mem_append] at hu
  rcases hu with hu|hu
  ·simp[KK.cs] at hu
   rcases hu with rfl|rfl<;>rfl
  ·exact flatK_cell l u hu
def RowsK (w:World) (b off:Nat) (l:List KK):Prop:= ∀j,(h:j<l.length)->w.rangeAt b (off+j * 2) l[j].cs
theorem RowsK.keep {w w':World} {b off:Nat} {l:List KK} (h:RowsK w b off l) (he:w'.heap[b]? =w.heap[b]?):RowsK w' b off l:=by
 intro j hj k v hv
 have:=h j hj k v hv
 rw[←this]
 exact World.cell?_of_block he
theorem rowsK_iff {w:World} {b off:Nat} {l:List KK}:RowsK w b off l↔ ∀j u,(flatK l)[j]? =some u->w.cell? ⟨b,off+j,none⟩=some u:=by
 constructor
 ·intro h j u hu
  have hlt:j<(flatK l).length:=(List.getElem?_eq_some_iff.1 hu).1
  rw[flatK_length] at hlt
  have hd:j=j / 2 * 2+j % 2:=by omega
  have hm:j % 2<2:=Nat.mod_lt _ (by omega)
  have:=h (j / 2) (by omega) (j % 2) u
  rw[hd,flatK_get l (j / 2) (j % 2) (by omega) hm] at hu
  have h2:=this hu
  rw[Nat.add_assoc,←hd] at h2
  exact h2
 ·intro h j hj t u hu
  have ht:t<2:=by
   have:=(List.getElem?_eq_some_iff.1 hu).1
   rwa [kcs_length] at this
  rw[Nat.add_assoc]
  exact h _ u (by rw[flatK_get l j t hj ht];exact hu)
def ReadsK (w:World) (v:Value) (l:List KK):Prop:=(∃A c,v= .slice A 0 c/\l= [])∨ ∃b off cap,v= .slice (some ⟨b,off,none⟩) l.length cap/\b<w.heap.size/\RowsK w b off l
def OwnK (w:World) (base:Nat) (v:Value) (l:List KK):Prop:=w.ownsRow base 42 2 v l.length (flatK l)
theorem OwnK.nil (w:World) (base:Nat):OwnK w base (.slice none 0 0) []:=⟨rfl, .inl ⟨rfl,rfl⟩⟩
theorem OwnK.form {w:World} {base:Nat} {v:Value} {l:List KK} (h:OwnK w base v l):(v= .slice none 0 0/\l= [])∨ ∃g c,v= .slice (some ⟨g,0,none⟩) l.length c/\l.length<=c/\base<=g/\g<w.heap.size/\RowsK w g 0 l:=by
 rcases h.2 with ⟨rfl,h0⟩|⟨g,c,cur,rfl,h1,h2,h3,_,h5,h6⟩
 ·exact .inl ⟨rfl,List.length_eq_zero_iff.1 h0⟩
 ·refine .inr ⟨g,c,rfl,h3,h1,(Array.getElem?_eq_some_iff.1 h2).1,rowsK_iff.2 ?_⟩
  intro j u hu
  have hlt:j<l.length * 2:=by
   have:=(List.getElem?_eq_some_iff.1 hu).1
   rwa [flatK_length] at this
  rw[←h6,List.getElem?_take_of_lt hlt] at hu
  rw[Nat.zero_add]
  simp[World.cell?,h2]
  simpa using hu
theorem OwnK.reads {w:World} {base:Nat} {v:Value} {l:List KK} (h:OwnK w base v l):ReadsK w v l:=by
 rcases h.form with ⟨rfl,rfl⟩|⟨g,c,rfl,_,_,h4,h5⟩
 ·exact .inl ⟨none,0,rfl,rfl⟩
 ·exact .inr ⟨g,0,c,rfl,h4,h5⟩
theorem OwnK.mono {w:World} {base base':Nat} {v:Value} {l:List KK} (h:OwnK w base v l) (hb:base'<=base):OwnK w base' v l:=
 ⟨h.1,h.2.imp id fun ⟨g,cap,cur,h1,h2,h3⟩=>⟨g,cap,cur,h1,Nat.le_trans hb h2,h3⟩⟩
theorem OwnK.own {w:World} {base:Nat} {v:Value} {l:List KK} (h:OwnK w base v l): ∀g,v.ownBlock=some g->base<=g/\g<w.heap.size:=by
 intro g hg
 rcases h.form with ⟨rfl,_⟩|⟨g',c,rfl,_,h3,h4,_⟩
 ·simp[Value.ownBlock] at hg
 ·have e:g'=g:=by simpa [Value.ownBlock] using hg
  subst e
  exact⟨h3,h4⟩
theorem OwnK.block {w w':World} {base:Nat} {v:Value} {l:List KK} (h:OwnK w base v l) (he: ∀g,v.ownBlock=some g->w'.heap[g]? =w.heap[g]?):OwnK w' base v l:=by
 refine⟨h.1, ?_⟩
 rcases h.2 with h|⟨g',c',cur,rfl,h1,h2,h3⟩
 ·exact .inl h
 ·exact .inr ⟨_,c',cur,rfl,h1,(he g' rfl).trans h2,h3⟩
theorem OwnK.on {w w':World} {base:Nat} {v:Value} {l:List KK} (h:OwnK w base v l) (hb:Below w.heap.size w w'):OwnK w' base v l:=h.block (fun g hg=>hb.block g (h.own g hg).2)
theorem info23w:(prog.info? 42).map (fun i=>(i.zero,i.size,i.bytes))=some (some zeroK.agg,2,24):=by kernel_rfl
section
variable {ops : Array Oper} {rest : List Oper} {o : Oper} {a : Act} {w : World} {Q : Exit → Act → World → Prop} {s x : Operand} {base : Nat} {l m : List KK} {v u : Value}
theorem wp_build1 {K:Act->World->Prop} {d:KK} (ho:o.op= .buildSlice 54 1 #[(0,x)]) (hx:a.eval x=d.agg) (h:K (a.put o.dst (.slice (some ⟨w.heap.size,0,none⟩) 1 1)) (w.alloc d.obj)):o.wp prog a w K Q:=by
 obtain⟨i0,hi,hz0,hz1,hz2⟩:=info_parts info23w
 refine wp_buildSlice 54 42 1 _ ho #[.string d.s, .int .i64 d.n] i0 _ underlying54 hi hz0 (by rw[hz1];decide) (by rw[hz1];decide) ?_ h
 rw[hz1]
 simp only[List.map_toArray,List.map_cons,List.map_nil,hx]
 kernel_rfl
theorem kbuild {d:KK} (hw:Region.wanted o (yielded ops a.tmps)=true) (ho:o.op= .buildSlice 54 1 #[(0,x)]) (hx:a.eval x=d.agg)
  (h: ∀X,ReadsK X (.slice (some ⟨w.heap.size,0,none⟩) 1 1) [d]->X.heap.size=w.heap.size+1->Below w.heap.size w X->wpList prog ops Q rest (a.put o.dst (.slice (some ⟨w.heap.size,0,none⟩) 1 1)) X):wpList prog ops Q (o::rest) a w:=by
 refine BigFrame.wpList_want hw fun K hK=> ?_
 refine wp_build1 ho hx (hK _ _ (h _ ?_ (by simp) ((Below.refl _ _).alloc (Nat.le_refl _) _)))
 refine .inr ⟨w.heap.size,0,1,rfl,by simp,fun j hj=> ?_⟩
 obtain rfl:j=0:=by simpa using hj
 exact KLies.range (KLies.new w _ rfl d)
end
section
variable {md : Region.Mode} {ops : Array Oper} {Q : Exit → Act → World → Prop} {S : World → Prop} {w : World} {fuel : Nat} {listed : Array Bool} {a : Act} {o : Oper}
theorem index24 (b off n cap j:Nat) (hj:j<n) (w:World):(Instr.indexAt 54 (.slice (some ⟨b,off,none⟩) n cap) (.int .i64 j)).run prog w= .ok (.pointer (some ⟨b,off+j * 2,none⟩)) w:=by
 rw[run_indexAt_slice (h:=by kernel_rfl),if_pos ⟨by omega,by omega⟩]
 have e:(sizeOf (prog.elem 54)).run prog w= .ok 2 w:=by kernel_rfl
 rw[e]
 have e2:(Addr.add ⟨b,off,none⟩ ((j:Int).toNat * 2))=⟨b,off+j * 2,none⟩:=by
  unfold Addr.add
  by_cases h:j=0
  ·subst h;simp
  ·have h2: ¬j * 2=0:=by omega
   simp[h2]
 show Result.ok (Value.pointer (some (Addr.add ⟨b,off,none⟩ ((j:Int).toNat * 2)))) w=_
 rw[e2]
end
section
variable {ops : Array Oper} {rest : List Oper} {o : Oper} {a : Act} {w : World} {Q : Exit → Act → World → Prop} {x ix : Operand} {b off n cap j p : Nat} {d : KK}
theorem kindex (hw:Region.wanted o (yielded ops a.tmps)=true) (ho:o.op= .indexAddr 54 x ix) (hx:a.eval x= .slice (some ⟨b,off,none⟩) n cap) (hix:a.eval ix= .int .i64 (j:Nat)) (hj:j<n) (h:wpList prog ops Q rest (a.put o.dst (.pointer (some ⟨b,off+j * 2,none⟩))) w):wpList prog ops Q (o::rest) a w:=by
 refine BigFrame.wpList_want hw fun K hK=> ?_
 unfold Oper.wp execOp
 simp only[ho,hx,hix]
 simp[index24 b off n cap j hj w]
 exact hK _ _ h
theorem kread (hw:Region.wanted o (yielded ops a.tmps)=true) (ho:o.op= .load 42 x) (hx:a.eval x= .pointer (some ⟨b,p,none⟩)) (hc:w.rangeAt b p d.cs) (h:wpList prog ops Q rest (a.put o.dst d.agg) w):wpList prog ops Q (o::rest) a w:=by
 obtain⟨t,hu,hd⟩:=isrow23
 refine BigFrame.wpList_want hw fun K hK=> ?_
 exact wp_load_mid 42 x ho b p hx _ t hc hu hd info23 (hK _ _ h)
end
end
section
open Go Go.Proofs Go.RowKit
def goodK (k:KK):Bool:=(kVal k.s k.n).good
theorem goodK_eq (k:KK):goodK k=if k.n=0 then decide (k.s.size<=1048576) && vS k.s else decide (1<=k.n) && decide (k.n<=65536) && k.s.toList.isEmpty:=by
 unfold goodK kVal
 by_cases h:k.n=0
 ·rw[if_pos h,if_pos h]
  simp[VV.good,goodV,inG,strV,fitV,vS]
 ·rw[if_neg h,if_neg h]
  simp[VV.good,goodV,inG,strV]
  cases k.s.toList.isEmpty<;>simp
theorem goodK_size {k:KK} (h:goodK k=true):k.s.size<=1048576:=good_size h
theorem goodK_n {k:KK} (h:goodK k=true):0<=k.n/\k.n<=65536:=by
 rw[goodK_eq] at h
 by_cases hn:k.n=0
 ·omega
 ·rw[if_neg hn] at h
  simp at h
  omega
theorem subI (x y:Int) (hx: -1099511627776<=x/\x<=1099511627776) (hy: -1099511627776<=y/\y<=1099511627776) (w:World):(binOp .sub 3 (.int .i64 x) (.int .i64 y)).run Tryz.prog w= .ok (.int .i64 (x - y)) w:=by
 have e:IntKind.i64.wrap (x - y)=x - y:=by
  rw[IntKind.wrap_i64]
  omega
 simp[binOp,go_sem,e]
theorem kd_range (s:ByteArray) (n:Int):0<=kdOf s n/\kdOf s n<=2:=by
 unfold kdOf
 split
 ·split<;>omega
 ·omega
theorem kn_le (s:ByteArray) (n:Int):knOf s n<=4294967294:=by
 unfold knOf
 split
 ·cases h:ixOf (nums s) with
  |none=>simp
  |some m=>simpa using ixOf_le _ _ h
 ·omega
theorem all_take {l:List KK} {j:Nat} (h:j<l.length):(l.take (j+1)).all goodK=((l.take j).all goodK && goodK l[j]):=by
 rw[List.take_succ_eq_append_getElem h,List.all_append]
 simp
theorem all_not {l:List KK} {j:Nat} (h:j<l.length) (hg:goodK l[j]=false):l.all goodK=false:=by
 rw[List.all_eq_false]
 exact⟨l[j],List.getElem_mem h,by rw[hg];decide⟩
