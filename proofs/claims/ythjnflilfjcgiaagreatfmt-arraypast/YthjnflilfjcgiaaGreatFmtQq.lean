import Derived.Test.YthjnflilfjcgiaaGreatFmtQp
import Derived.Test.YthjnflilfjcgiaaGreatFmtQl
import Derived.Laws.OwnMore
import Derived.Laws.MakeOwn
import Derived.Laws.AppendOwnNone
import Derived.OwnWalk
import Derived.Great.BuildSlice
import Derived.RangeFuncRecord
import Derived.Carry
import Derived.Laws.StructEq
import Derived.Lib.ItoaMem
import Derived.Lib.AppendIntMem
set_option linter.all false
namespace Go.Proofs.YthjnflilfjcgiaaGreatFmt
set_option maxRecDepth 100000
set_option maxHeartbeats 0
section
open Go Go.Proofs Go.RowKit
def dgF (most:Nat):List Nat->Nat->Option Nat
 | [],n=>some n
 |c::r,n=>if c<48∨57<c then none else if most<n * 10+(c - 48) then none else dgF most r (n * 10+(c - 48))
def dgV (most:Nat) (l:List Nat):Option Nat:=
 match l with
 | []=>none
 |c::r=>if c=48/\r≠ [] then none else dgF most (c::r) 0
theorem dgF_le (most:Nat): ∀(l:List Nat) (n m:Nat),n<=most->dgF most l n=some m->m<=most
 | [],n,m,h,e=>by simp[dgF] at e;omega
 |c::r,n,m,h,e=>by
  unfold dgF at e
  split at e
  ·cases e
  ·split at e
   ·cases e
   ·exact dgF_le most r _ m (by omega) e
theorem dgV_le (most:Nat) (l:List Nat) (m:Nat) (e:dgV most l=some m):m<=most:=by
 unfold dgV at e
 split at e
 ·cases e
 ·split at e
  ·cases e
  ·exact dgF_le most _ 0 m (Nat.zero_le _) e
theorem Zz (s:ByteArray) (i:Nat) (h:i<s.size):s.get! i=s[i]'h:=by
 cases s with
 |mk d=>exact getElem!_pos d i h
theorem Zbg (most:Nat) (s:ByteArray) (i n:Nat) (h:i<s.size):
  dgF most ((Dn s).drop i) n=if (s.get! i).toNat<48∨57<(s.get! i).toNat then none else if most<n * 10+((s.get! i).toNat - 48) then none else dgF most ((Dn s).drop (i+1)) (n * 10+((s.get! i).toNat - 48)):=by
 have hl:i<(Dn s).length:=by rw[Gm];exact h
 have hg:(s.get! i).toNat=(Dn s)[i]:=by
  rw[Vc,List.getD_eq_getElem?_getD,List.getElem?_eq_getElem hl];rfl
 rw[hg,List.drop_eq_getElem_cons hl,dgF]
theorem Zcx (most:Nat) (s:ByteArray) (i n:Nat) (h:s.size<=i):dgF most ((Dn s).drop i) n=some n:=by
 rw[List.drop_eq_nil_of_le (by rw[Gm];exact h),dgF]
theorem dgV_nil (most:Nat) (s:ByteArray) (h:s.size=0):dgV most (Dn s)=none:=by
 have:Dn s= []:=by rw[←List.length_eq_zero_iff,Gm];exact h
 rw[this,dgV]
theorem dgV_cons (most:Nat) (s:ByteArray) (h:0<s.size):dgV most (Dn s)=if (s.get! 0).toNat=48/\1<s.size then none else dgF most ((Dn s).drop 0) 0:=by
 have hg:=Vc s 0
 have hl:=Gm s
 cases hn:Dn s with
 |nil=>rw[hn] at hl;simp at hl;omega
 |cons c r=>
  rw[hn] at hg hl
  simp only[List.getD_cons_zero,List.length_cons] at hg hl
  rw[hg,dgV,List.drop_zero]
  have:(r≠ [])↔1<s.size:=by
   rw[←hl,←List.length_pos_iff];omega
  simp only[this]
theorem Zcc (s:ByteArray) (hp:0<s.size) (h:((s[0]'hp).toNat:Int)=48):(s.toList== [48])=decide (s.size=1):=by
 have hl:s.toList.length=s.size:=by rw[Lib.toList_data];rfl
 have h0:s.toList[0]? =some 48:=by
  rw[Lib.toList_data,Array.getElem?_toList,Array.getElem?_eq_getElem (h:=hp)]
  congr 1
  exact UInt8.toNat_inj.1 (by show (s[0]'hp).toNat=48;omega)
 rw[←hl]
 cases e:s.toList with
 |nil=>rw[e] at h0;cases h0
 |cons c r=>
  rw[e] at h0
  simp only[List.getElem?_cons_zero,Option.some.injEq] at h0
  subst h0
  cases r<;>simp
theorem upTo49 (s:ByteArray) (most:Nat) (hs:s.size<4611686018427387904) (hm:most<=9007199254740991) (w:World):Calls Tryz.prog 72 #[.int .i64 (most:Nat), .string s] w fun e w'=>e= .returned (.tuple #[.int .i64 ((dgV most (Dn s)).getD 0:Nat), .bool (dgV most (Dn s)).isSome])/\w'=w:=by
 have hE:(s.toList.isEmpty=true)↔s.size=0:=by
  rw[ByteArray.size,←Array.length_toList,List.length_eq_zero_iff]
  simp[Lib.toList_data]
 go_enter Tryz.func72,Tryz.ntmps72
 by_cases h0:s.size=0
 ·have hv:=dgV_nil most s h0
  have he:=hE.2 h0
  have hz:(s.size:Int)=0:=by omega
  clear hE
  go_wp2
  go_ret2
  exact⟨by rw[hv];rfl,rfl⟩
 ·have hp:0<s.size:=by omega
  have hv:=dgV_cons most s hp
  have he:s.toList.isEmpty=false:=by
   cases h:s.toList.isEmpty
   ·rfl
   ·exact absurd (hE.1 h) h0
  clear hE
  have z0:(0:Int)<s.size:=by omega
  by_cases hz:(s.get! 0).toNat=48/\1<s.size
  ·rw[if_pos hz] at hv
   obtain⟨hz1,hz2⟩:=hz
   have z1:(1:Int)<s.size:=by omega
   have z2:((s[0]'hp).toNat:Int)=48:=by rw[←Zz s 0 hp];omega
   clear hz1
   have q1:(s.toList== [48])=false:=by rw[Zcc s hp z2];exact decide_eq_false (by omega)
   go_wp2
   go_ret2
   exact⟨by rw[hv];rfl,rfl⟩
  ·rw[if_neg hz] at hv
   have HV:=Ab hv
   clear hv
   have hc3:(¬((s[0]'hp).toNat:Int)=48)∨(¬1<s.size/\((s[0]'hp).toNat:Int)=48):=by
    rw[←Zz s 0 hp];omega
   clear hz
   rcases hc3 with z2|⟨h1,z2⟩
   ·have h1:=trivial
    have q1:=trivial
    have z1:=trivial
    go_wp2_with fail
    go_loopg [6,21] (s.size+1) (fun g s6 s21 wr=> ∃(n i:Nat),s6= .int .i64 n/\s21= .int .i64 i/\i<=s.size/\s.size - i<g/\n<=most/\wr=w/\Hid (dgV most (Dn s)=dgF most ((Dn s).drop i) n))
    case atStart=>exact⟨0,0,rfl,rfl,Nat.zero_le _,by omega,Nat.zero_le _,rfl,HV⟩
    case round=>
     obtain⟨n,i,rfl,rfl,hi,hg,hn,rfl,hR⟩:=hrel
     clear z0 z1 z2 h1 q1
     by_cases hil:i<s.size
     ·have hst:=Zbg most s i n hil
      rw[Zz s i hil] at hst
      have y0:(i:Int)<s.size:=by omega
      have hcl:=(s[i]'hil).toNat_lt
      by_cases hc1:(s[i]'hil).toNat<48
      ·rw[if_pos (Or.inl hc1)] at hst
       have HS:=Ab hst
       have y1:((s[i]'hil).toNat:Int)<48:=by omega
       clear hst hc1
       go_wp2
       go_ret2
       exact⟨by rw[Aa hR,Aa HS];rfl,rfl⟩
      ·have y1: ¬((s[i]'hil).toNat:Int)<48:=by omega
       by_cases hc2:57<(s[i]'hil).toNat
       ·rw[if_pos (Or.inr hc2)] at hst
        have HS:=Ab hst
        have y2:(57:Int)<((s[i]'hil).toNat:Int):=by omega
        clear hst hc1 hc2
        go_wp2
        go_ret2
        exact⟨by rw[Aa hR,Aa HS];rfl,rfl⟩
       ·rw[if_neg (by omega)] at hst
        have y2: ¬(57:Int)<((s[i]'hil).toNat:Int):=by omega
        obtain⟨m,hm1⟩: ∃m,m=n * 10+((s[i]'hil).toNat - 48):=⟨_,rfl⟩
        rw[←hm1] at hst
        have y3:IntKind.u8.wrap (((s[i]'hil).toNat:Int) - 48)=(((s[i]'hil).toNat - 48:Nat):Int):=by
         simp[IntKind.wrap,IntKind.bits,IntKind.signed];omega
        have y4:IntKind.i64.wrap (((s[i]'hil).toNat - 48:Nat):Int)=(((s[i]'hil).toNat - 48:Nat):Int):=by
         rw[IntKind.wrap_i64];omega
        have y5:IntKind.i64.wrap (10 * (n:Int))=((10 * n:Nat):Int):=by
         rw[IntKind.wrap_i64];omega
        have y6:IntKind.i64.wrap (((10 * n:Nat):Int)+(((s[i]'hil).toNat - 48:Nat):Int))=(m:Int):=by
         rw[IntKind.wrap_i64];omega
        have y7:IntKind.i64.wrap ((i:Int)+1)=((i+1:Nat):Int):=by rw[IntKind.wrap_i64];omega
        by_cases hmm:most<m
        ·rw[if_pos hmm] at hst
         have HS:=Ab hst
         have y8:(most:Int)<m:=by omega
         clear hst hc1 hc2
         go_wp2
         go_ret2
         exact⟨by rw[Aa hR,Aa HS];rfl,rfl⟩
        ·rw[if_neg hmm] at hst
         have HS:=Ab hst
         have y8: ¬(most:Int)<m:=by omega
         clear hst hc1 hc2
         go_wp2
         go_roundg (s.size - i)
         case measure=>omega
         case rel=>exact⟨m,i+1,by congr 1;omega,by go_num,by omega,by omega,by omega,rfl,Ab (by rw[Aa hR,Aa HS])⟩
     ·have hst:=Zcx most s i n (by omega)
      have HS:=Ab hst
      have y0: ¬(i:Int)<s.size:=by omega
      clear hst
      go_wp2
      go_ret2
      exact⟨by rw[Aa hR,Aa HS];rfl,rfl⟩
   ·have q1:(s.toList== [48])=true:=by rw[Zcc s hp z2];exact decide_eq_true (by omega)
    have z1:=trivial
    go_wp2_with fail
    go_loopg [6,21] (s.size+1) (fun g s6 s21 wr=> ∃(n i:Nat),s6= .int .i64 n/\s21= .int .i64 i/\i<=s.size/\s.size - i<g/\n<=most/\wr=w/\Hid (dgV most (Dn s)=dgF most ((Dn s).drop i) n))
    case atStart=>exact⟨0,0,rfl,rfl,Nat.zero_le _,by omega,Nat.zero_le _,rfl,HV⟩
    case round=>
     obtain⟨n,i,rfl,rfl,hi,hg,hn,rfl,hR⟩:=hrel
     clear z0 z1 z2 h1 q1
     by_cases hil:i<s.size
     ·have hst:=Zbg most s i n hil
      rw[Zz s i hil] at hst
      have y0:(i:Int)<s.size:=by omega
      have hcl:=(s[i]'hil).toNat_lt
      by_cases hc1:(s[i]'hil).toNat<48
      ·rw[if_pos (Or.inl hc1)] at hst
       have HS:=Ab hst
       have y1:((s[i]'hil).toNat:Int)<48:=by omega
       clear hst hc1
       go_wp2
       go_ret2
       exact⟨by rw[Aa hR,Aa HS];rfl,rfl⟩
      ·have y1: ¬((s[i]'hil).toNat:Int)<48:=by omega
       by_cases hc2:57<(s[i]'hil).toNat
       ·rw[if_pos (Or.inr hc2)] at hst
        have HS:=Ab hst
        have y2:(57:Int)<((s[i]'hil).toNat:Int):=by omega
        clear hst hc1 hc2
        go_wp2
        go_ret2
        exact⟨by rw[Aa hR,Aa HS];rfl,rfl⟩
       ·rw[if_neg (by omega)] at hst
        have y2: ¬(57:Int)<((s[i]'hil).toNat:Int):=by omega
        obtain⟨m,hm1⟩: ∃m,m=n * 10+((s[i]'hil).toNat - 48):=⟨_,rfl⟩
        rw[←hm1] at hst
        have y3:IntKind.u8.wrap (((s[i]'hil).toNat:Int) - 48)=(((s[i]'hil).toNat - 48:Nat):Int):=by
         simp[IntKind.wrap,IntKind.bits,IntKind.signed];omega
        have y4:IntKind.i64.wrap (((s[i]'hil).toNat - 48:Nat):Int)=(((s[i]'hil).toNat - 48:Nat):Int):=by
         rw[IntKind.wrap_i64];omega
        have y5:IntKind.i64.wrap (10 * (n:Int))=((10 * n:Nat):Int):=by
         rw[IntKind.wrap_i64];omega
        have y6:IntKind.i64.wrap (((10 * n:Nat):Int)+(((s[i]'hil).toNat - 48:Nat):Int))=(m:Int):=by
         rw[IntKind.wrap_i64];omega
        have y7:IntKind.i64.wrap ((i:Int)+1)=((i+1:Nat):Int):=by rw[IntKind.wrap_i64];omega
        by_cases hmm:most<m
        ·rw[if_pos hmm] at hst
         have HS:=Ab hst
         have y8:(most:Int)<m:=by omega
         clear hst hc1 hc2
         go_wp2
         go_ret2
         exact⟨by rw[Aa hR,Aa HS];rfl,rfl⟩
        ·rw[if_neg hmm] at hst
         have HS:=Ab hst
         have y8: ¬(most:Int)<m:=by omega
         clear hst hc1 hc2
         go_wp2
         go_roundg (s.size - i)
         case measure=>omega
         case rel=>exact⟨m,i+1,by congr 1;omega,by go_num,by omega,by omega,by omega,rfl,Ab (by rw[Aa hR,Aa HS])⟩
     ·have hst:=Zcx most s i n (by omega)
      have HS:=Ab hst
      have y0: ¬(i:Int)<s.size:=by omega
      clear hst
      go_wp2
      go_ret2
      exact⟨by rw[Aa hR,Aa HS];rfl,rfl⟩
end
section
open Go Go.Proofs Go.RowKit Tryz
def Lu (l:List Nat):Option Nat:=dgV 4294967294 l
theorem Zco (l:List Nat) (m:Nat) (h:Lu l=some m):m<=4294967294:=dgV_le _ _ _ h
theorem Nv (s:ByteArray) (hs:s.size<4611686018427387904) (w:World):Calls prog 51 #[.string s] w fun e w'=>e= .returned (.tuple #[.int .u32 ((Lu (Dn s)).getD 0:Nat), .bool (Lu (Dn s)).isSome])/\w'=w:=by
 have HC:=Ab (upTo49 s 4294967294 hs (by omega) w)
 have z1:IntKind.u32.wrap ((Lu (Dn s)).getD 0:Nat)=((Lu (Dn s)).getD 0:Nat):=by
  have:(Lu (Dn s)).getD 0<=4294967294:=by
   cases h:Lu (Dn s) with
   |none=>simp
   |some m=>exact Zco _ _ h
  simp[IntKind.wrap,IntKind.bits,IntKind.signed];omega
 change Hid (Calls prog 72 #[.int .i64 4294967294, .string s] w fun e w'=>e= .returned (.tuple #[.int .i64 ((Lu (Dn s)).getD 0:Nat), .bool (Lu (Dn s)).isSome])/\w'=w) at HC
 generalize (Lu (Dn s)).getD 0=m at *
 generalize (Lu (Dn s)).isSome=b at *
 go_enter func51,ntmps51
 go_wp2_with fail
 refine(Aa HC).mono ?_
 rintro e w' ⟨rfl,rfl⟩
 go_wp2
 go_ret2
 exact⟨rfl,rfl⟩
theorem Ja (w:World) (o:Obj):Below w.heap.size w (w.alloc o):=(Below.refl _ _).alloc (Nat.le_refl _) _
def Xj (s:ByteArray) (n:Int):Value:= .agg #[.string s, .int .i64 n]
def Rf (s:ByteArray) (n:Int):Int:=if n=0 then (if (Lu (Dn s)).isSome then 0 else 1) else 2
def Ut (s:ByteArray) (n:Int):Nat:=if n=0 then ((Lu (Dn s)).getD 0) else 0
theorem kindOf22 (s:ByteArray) (n:Int) (hs:s.size<4611686018427387904) (w:World):Calls prog 161 #[Xj s n] w fun e w'=>e= .returned (.tuple #[.int .i64 (Rf s n), .int .u32 (Ut s n:Nat)])/\Below w.heap.size w w':=by
 have HC:=Ab (Nv s hs)
 unfold Xj
 by_cases hn:n=0
 ·subst hn
  have e1:Rf s 0=if (Lu (Dn s)).isSome then 0 else 1:=by unfold Rf;rw[if_pos rfl]
  have e2:Ut s 0=(Lu (Dn s)).getD 0:=by unfold Ut;rw[if_pos rfl]
  rw[e1,e2]
  clear e1 e2
  generalize Lu (Dn s)=o at *
  go_enter func161,ntmps161
  go_wp2_with fail
  refine(Aa HC _).mono ?_
  rintro e w' ⟨rfl,rfl⟩
  cases o with
  |none=>
   go_wp2
   go_ret2
   exact⟨rfl,Ja _ _⟩
  |some m=>
   go_wp2
   go_ret2
   exact⟨rfl,Ja _ _⟩
 ·have e1:Rf s n=2:=by unfold Rf;rw[if_neg hn]
  have e2:Ut s n=0:=by unfold Ut;rw[if_neg hn]
  rw[e1,e2]
  go_enter func161,ntmps161
  go_wp2
  go_ret2
  exact⟨rfl,Ja _ _⟩
theorem Ea (P:Program) (w:World) (a:Addr) (m:Mode) (k:FloatKind) (x:Nat):(store a (.float k x) m).run P w=stored P w a (.float k x) m:=run_store P w a _ m rfl
attribute [local go_sem] Eg Ea
def Od (s:ByteArray) (n:Int):VV:=if n=0 then ⟨5,false,0,s,0⟩ else ⟨6,false,0,s,n⟩
theorem Zt (w:World) (o1 o2:Obj):Below w.heap.size w ((w.alloc o1).alloc o2):=((Below.refl _ _).alloc (Nat.le_refl _) _).alloc (by simp) _
theorem Zdm (s:ByteArray) (n:Int) (w:World):Calls prog 61 #[Xj s n] w fun e w'=>e= .returned (Od s n).agg/\Below w.heap.size w w':=by
 unfold Xj
 by_cases hn:n=0
 ·subst hn
  have e1:Od s 0=⟨5,false,0,s,0⟩:=by unfold Od;rw[if_pos rfl]
  rw[e1]
  unfold VV.agg
  go_enter func61,ntmps61
  go_wp2
  simp[bodyPost,results,Tryz.results61,go_sem]
  exact Zt ..
 ·have e1:Od s n=⟨6,false,0,s,n⟩:=by unfold Od;rw[if_neg hn]
  rw[e1]
  unfold VV.agg
  go_enter func61,ntmps61
  go_wp2
  simp[bodyPost,results,Tryz.results61,go_sem]
  exact Zt ..
theorem Ue (v:VV) (w:World) (hT:Lib.Utf8Tabs 4 5 w):Calls prog 20 #[v.agg] w fun e w'=>e= .returned (.int .i64 (if v.good then 0 else 5))/\Below w.heap.size w w':=by
 have HI:=Ab (fun w (hT:Lib.Utf8Tabs 4 5 w)=>Mk v.k v.b v.x v.s v.i w hT)
 have HT:=Ab hT
 unfold VV.agg VV.good
 generalize Ke v.k v.b v.x v.s v.i=g at *
 clear hT
 go_enter func20,ntmps20
 go_wp2_with fail
 refine(Aa HI _ (Ao (Aa HT) (Ja _ _))).mono ?_
 rintro e w1 ⟨rfl,hb⟩
 have HB:=Ab (((Ja w _).trans (hb.mono (by simp))))
 clear hb
 cases g
 ·go_wp2
  go_ret
  exact⟨rfl,Aa HB⟩
 ·go_wp2
  go_ret
  exact⟨rfl,Aa HB⟩
theorem Ud (s:ByteArray) (n:Int) (w:World) (hT:Lib.Utf8Tabs 4 5 w):Calls prog 36 #[Xj s n] w fun e w'=>e= .returned (.int .i64 (if (Od s n).good then 0 else 5))/\Below w.heap.size w w':=by
 have HA:=Ab (fun w=>Zdm s n w)
 have HI:=Ab (fun w (hT:Lib.Utf8Tabs 4 5 w)=>Ue (Od s n) w hT)
 have HT:=Ab hT
 unfold Xj at *
 generalize (Od s n).agg=v at *
 generalize (if (Od s n).good then (0:Int) else 5)=g at *
 clear hT
 go_enter func36,ntmps36
 go_wp2_with fail
 refine(Aa HA _).mono ?_
 rintro e w1 ⟨rfl,hb⟩
 have HB:=Ab (((Ja w _).trans (hb.mono (by simp))))
 clear hb
 go_wp2_with fail
 refine(Aa HI _ (Ao (Aa HT) (Aa HB))).mono ?_
 rintro e w2 ⟨rfl,hb2⟩
 have HB2:=Ab ((Aa HB).trans (hb2.mono (Aa HB).size))
 clear hb2
 go_wp2
 go_ret
 exact⟨rfl,Aa HB2⟩
end
section
open Go Go.Proofs Go.RowKit
theorem two2 {w w1:World} {c0 c1 d0 d1:Value} {t u:TypeId} (hb:Below ((w.alloc (Obj.cells #[c0,c1] t)).alloc (Obj.cells #[d0,d1] u)).drew.heap.size ((w.alloc (Obj.cells #[c0,c1] t)).alloc (Obj.cells #[d0,d1] u)).drew w1):
  w1.cell? ⟨w.heap.size,1,none⟩=some c1/\w1.cell? ⟨w.heap.size+1,0,none⟩=some d0/\w1.cell? ⟨w.heap.size+1,1,none⟩=some d1/\w1.frozen? ⟨w.heap.size+1,0,none⟩=false/\w1.frozen? ⟨w.heap.size+1,1,none⟩=false/\
  Below w.heap.size w w1/\w1.heap[w.heap.size+1]? =some (Obj.cells #[d0,d1] u):=by
 have h1:=hb.cell (p:=⟨w.heap.size,1,none⟩) (by simp;omega)
 have h2:=hb.cell (p:=⟨w.heap.size+1,0,none⟩) (by simp)
 have h3:=hb.cell (p:=⟨w.heap.size+1,1,none⟩) (by simp)
 have h4:=hb.frozen (p:=⟨w.heap.size+1,0,none⟩) (by simp)
 have h5:=hb.frozen (p:=⟨w.heap.size+1,1,none⟩) (by simp)
 have h6:=hb.block (w.heap.size+1) (by simp)
 simp[go_sem] at h1 h2 h3 h4 h5
 refine⟨h1,h2,h3,h4,h5,((Zt w _ _).drew).trans (hb.mono (by simp;omega)), ?_⟩
 rw[h6]
 have e:=heap_alloc_new (w.alloc (Obj.cells #[c0,c1] t)) (Obj.cells #[d0,d1] u)
 rw[show (w.alloc (Obj.cells #[c0,c1] t)).heap.size=w.heap.size+1 by simp] at e
 exact e
theorem anew30 (s:ByteArray) (n:Int) (h:s.size<=1048576) (w:World):Calls Tryz.prog 162 #[Xj s n] w fun e w'=>e= .returned (Xj s n)/\Below w.heap.size w w':=by
 have HC:=Ab (fun w=>Yn s w h)
 unfold Xj
 go_enter Tryz.func162,Tryz.ntmps162
 go_wp2_with fail
 go_region_with (go_at_call 59;refine(Aa HC _).mono ?_;rintro e w1 ⟨rfl,hb⟩;obtain⟨c1,d0,d1,f0,f1,hB,hO⟩:=two2 hb;have HB:=Ab hB;have HO:=Ab hO;clear hb hB hO)
 all_goals
  have g0:((w1.setCell ⟨w.heap.size+1,0,none⟩ (.string s)).setCell ⟨w.heap.size+1,1,none⟩ (.int .i64 n)).cell? ⟨w.heap.size+1,0,none⟩=some (.string s):=by
   simp[World.cell?,World.setCell,Array.getElem?_modify,Aa HO]
  have g1:((w1.setCell ⟨w.heap.size+1,0,none⟩ (.string s)).setCell ⟨w.heap.size+1,1,none⟩ (.int .i64 n)).cell? ⟨w.heap.size+1,1,none⟩=some (.int .i64 n):=by
   simp[World.cell?,World.setCell,Array.getElem?_modify,Aa HO]
  have HG:=Ab (((Aa HB).setCell (p:=⟨w.heap.size+1,0,none⟩) (by simp) (.string s)).setCell (p:=⟨w.heap.size+1,1,none⟩) (by simp) (.int .i64 n))
  generalize (w1.setCell ⟨w.heap.size+1,0,none⟩ (.string s)).setCell ⟨w.heap.size+1,1,none⟩ (.int .i64 n)=W at *
  clear HB HO f0 f1 d0 d1 c1 HC
  go_wp2
  simp[bodyPost,results,Tryz.results162,go_sem,g0,g1]
  exact Aa HG
theorem Zc8 {s:ByteArray} {n:Int} (h:(Od s n).good=true):s.size<=1048576:=by
 unfold Od at h
 by_cases hn:n=0
 ·rw[if_pos hn] at h
  rcases hf:Vh s with _|_
  ·simp[VV.good,Ke,inG,hf] at h
  ·unfold Vh at hf
   simp at hf
   exact hf.1
 ·rw[if_neg hn] at h
  have:s.toList.isEmpty=true:=by
   cases he:s.toList.isEmpty
   ·simp[VV.good,Ke,inG,Uf,he] at h
   ·rfl
  rw[Qb this]
  decide
end
section
open Go Go.Proofs Go.RowKit Tryz
structure KK where
 s:ByteArray
 n:Int
def KK.agg (k:KK):Value:= .agg #[.string k.s, .int .i64 k.n]
def KK.cs (k:KK):List Value:= [.string k.s, .int .i64 k.n]
def KK.obj (k:KK):Obj:=Obj.cells #[.string k.s, .int .i64 k.n] 42
theorem KK.ext' {a b:KK} (h1:a.s=b.s) (h2:a.n=b.n):a=b:=by cases a;cases b;cases h1;cases h2;rfl
theorem ZcD (k:KK):Xj k.s k.n=k.agg:=rfl
def Ga:KK:=⟨ByteArray.empty,0⟩
def KLies (W:World) (B:Nat) (k:KK):Prop:=(∀j,W.frozen? ⟨B,j,none⟩=false)/\W.cell? ⟨B,0,none⟩=some (.string k.s)/\W.cell? ⟨B,1,none⟩=some (.int .i64 k.n)
theorem KLies.new (w:World) (B:Nat) (hB:B=w.heap.size) (k:KK):KLies (w.alloc k.obj) B k:=by
 subst hB
 unfold KLies KK.obj
 simp[go_sem]
theorem KLies.block {W W1:World} {B:Nat} {k:KK} (h:KLies W B k) (he:W1.heap[B]? =W.heap[B]?):KLies W1 B k:=by
 have hc: ∀j,W1.cell? ⟨B,j,none⟩=W.cell? ⟨B,j,none⟩:=fun j=>World.cell?_of_block he
 have hf: ∀j,W1.frozen? ⟨B,j,none⟩=W.frozen? ⟨B,j,none⟩:=fun j=>World.frozen?_of_block he
 unfold KLies at *
 simp only[hc,hf]
 exact h
theorem KLies.range {W:World} {B:Nat} {k:KK} (h:KLies W B k):W.rangeAt B 0 k.cs:=by
 intro j v hv
 obtain⟨-,h0,h1⟩:=h
 match j,hv with
 |0,hv=>exact(Option.some.inj hv)▸h0
 |1,hv=>exact(Option.some.inj hv)▸h1
 |_+2,hv=>exact absurd hv (by simp[KK.cs])
theorem KLies.there {W:World} {B:Nat} {k:KK} (h:KLies W B k):W.there B 0 2:=by
 obtain⟨f,h0,h1⟩:=h
 intro j hj
 match j,hj with
 |0,_=>exact⟨h0▸rfl,f _⟩
 |1,_=>exact⟨h1▸rfl,f _⟩
theorem Ex (b:Nat): ∀(vs:List Value) (o:Nat) (X:World) (g:Nat),g≠b->(X.setCells b o vs).heap[g]? =X.heap[g]?
 | [],_,_,_,_=>rfl
 |v::vs,o,X,g,h=>by
  rw[World.setCells,Ex b vs _ _ g h]
  simp[World.setCell,Array.getElem?_modify,Ne.symm h]
theorem Ew {b:Nat}: ∀(vs:List Value) (o:Nat) (W:World),(W.setCells b o vs).heap.size=W.heap.size
 | [],_,_=>rfl
 |v::vs,o,W=>by
  rw[World.setCells,Ew vs]
  simp[World.setCell]
theorem Lg {w:World} {b:Nat} (hb:w.heap.size<=b): ∀(vs:List Value) (o:Nat) (W:World),Below w.heap.size w W->Below w.heap.size w (W.setCells b o vs)
 | [],_,_,h=>h
 |v::vs,o,W,h=>Lg hb vs _ _ (h.setCell (by exact hb) _)
structure Kq (w X:World) (l:List (Nat×KK)):Prop where
 below:Below w.heap.size w X
 all: ∀q∈l,w.heap.size<=q.1/\q.1<X.heap.size/\KLies X q.1 q.2
theorem Kq.nil (w:World):Kq w w []:=⟨Below.refl _ _,fun q hq=>by cases hq⟩
theorem Kq.on {w X X1:World} {l:List (Nat×KK)} (h:Kq w X l) (hb:Below X.heap.size X X1):Kq w X1 l:=
 ⟨h.below.trans (hb.mono h.below.size),fun q hq=>⟨(h.all q hq).1,Nat.lt_of_lt_of_le (h.all q hq).2.1 hb.size,(h.all q hq).2.2.block (hb.block _ (h.all q hq).2.1)⟩⟩
theorem Kq.get {w X:World} {l:List (Nat×KK)} (h:Kq w X l) (i:Nat) {b:Nat} {k:KK} (hi:l[i]? =some (b,k)):KLies X b k:=(h.all _ (List.mem_of_getElem? hi)).2.2
theorem Kq.new {w X:World} {l:List (Nat×KK)} (h:Kq w X l) (k:KK):Kq w (X.alloc k.obj) (l++ [(X.heap.size,k)]):=by
 have hb:Below X.heap.size X (X.alloc k.obj):=(Below.refl _ _).alloc (Nat.le_refl _) _
 refine⟨(h.on hb).below,fun q hq=> ?_⟩
 rcases List.mem_append.1 hq with hq|hq
 ·exact(h.on hb).all q hq
 ·obtain rfl:q=(X.heap.size,k):=by simpa using hq
  exact⟨h.below.size,by simp,KLies.new X _ rfl k⟩
theorem KLies.setK {W:World} {B:Nat} {k u:KK} (h:KLies W B k):KLies (W.setCells B 0 u.cs) B u:=by
 obtain⟨f,h0,h1⟩:=h
 refine⟨fun j=> ?_, ?_, ?_⟩
 ·simp[KK.cs,World.setCells,go_sem,f]
 ·simp[KK.cs,World.setCells,go_sem,h0,h1]
 ·simp[KK.cs,World.setCells,go_sem,h0,h1]
theorem Zw:(prog.info? 42).map (·.size)=some 2:=by kernel_rfl
theorem Zu: ∃d,prog.underlying 42=some d/\d.isRow=true:=⟨_,underlying42,rfl⟩
section
variable {ops : Array Oper} {rest : List Oper} {o : Oper} {a : Act} {w w0 : World} {Q : Exit → Act → World → Prop} {l : List (Nat × KK)} {x y : Operand} {b : Nat} {d u : KK}
theorem Nb (hw:Region.wanted o (yielded ops a.tmps)=true) (ho:o.op= .load 42 x) (hx:a.eval x= .pointer (some ⟨b,0,none⟩)) (hc:KLies w b d) (h:wpList prog ops Q rest (a.put o.dst d.agg) w):wpList prog ops Q (o::rest) a w:=by
 obtain⟨t,hu,hd⟩:=Zu
 refine BigFrame.wpList_want hw fun K hK=> ?_
 exact wp_load_mid 42 x ho b 0 hx _ t hc.range hu hd Zw (hK _ _ h)
theorem Ld (hw:Region.wanted o (yielded ops a.tmps)=true) (ho:o.op= .alloc 42) (hL:Kq w0 w l)
  (h: ∀X,Kq w0 X (l++ [(w.heap.size,Ga)])->Below w.heap.size w X->wpList prog ops Q rest (a.put o.dst (.pointer (some ⟨w.heap.size,0,none⟩))) X):wpList prog ops Q (o::rest) a w:=by
 refine BigFrame.wpList_want hw fun K hK=> ?_
 have hP:=hK _ _ (h _ (hL.new Ga) ((Below.refl _ _).alloc (Nat.le_refl _) _))
 unfold Oper.wp execOp
 simp only[ho]
 simp[go_sem,Tryz.zeroValue42]
 exact hP
theorem Lb {m:List (Nat×KK)} (hw:Region.wanted o (yielded ops a.tmps)=true) (ho:o.op= .store 42 x y) (hL:Kq w0 w m) (hx:a.eval x= .pointer (some ⟨b,0,none⟩)) (hy:a.eval y=u.agg) (hm:m=l++ [(b,d)]) (hne: ∀q∈l,q.1≠b)
  (h: ∀X,Kq w0 X (l++ [(b,u)])->(∀g,g≠b->X.heap[g]? =w.heap[g]?)->X.heap.size=w.heap.size->wpList prog ops Q rest (a.put o.dst undef) X):wpList prog ops Q (o::rest) a w:=by
 subst hm
 refine BigFrame.wpList_want hw fun K hK=> ?_
 have hb:=hL.all (b,d) (by simp)
 refine wp_store_mid 42 x y ho _ 0 u.cs.toArray hx hy (KLies.there hb.2.2) Zw (by simp[KK.cs,Value.oneCell']) (hK _ _ (h _ ?_ (fun g hg=>Ex _ _ _ _ _ hg) (Ew _ _ _)))
 refine⟨Lg hb.1 _ _ _ hL.below,fun q hq=> ?_⟩
 rw[Ew]
 rcases List.mem_append.1 hq with hq|hq
 ·have hq0:=hL.all q (List.mem_append_left _ hq)
  exact⟨hq0.1,hq0.2.1,hq0.2.2.block (Ex _ _ _ _ _ (hne q hq))⟩
 ·obtain rfl:q=(b,u):=by simpa using hq
  exact⟨hb.1,hb.2.1,KLies.setK hb.2.2⟩
end
def En (l:List KK):List Value:=l.flatMap KK.cs
theorem Px (l m:List KK):En (l++m)=En l++En m:=by unfold En;rw[List.flatMap_append]
theorem Zdb (d:KK):En [d]=d.cs:=by simp[En]
theorem Lc (d:KK):d.cs.length=2:=rfl
theorem Kt: ∀l:List KK,(En l).length=l.length * 2
 | []=>rfl
 |v::l=>by
  have:En (v::l)=v.cs++En l:=rfl
  rw[this,List.length_append,Kt l,List.length_cons,Lc]
  omega
theorem Qm: ∀(l:List KK) (j t:Nat) (hj:j<l.length),t<2->(En l)[j * 2+t]? =(l[j]).cs[t]?
 | [],j,t,hj,_=>by cases hj
 |v::l,0,t,_,ht=>by
  have:En (v::l)=v.cs++En l:=rfl
  rw[this,List.getElem?_append_left (by rw[Lc];omega)]
  simp
 |v::l,j+1,t,hj,ht=>by
  have:En (v::l)=v.cs++En l:=rfl
  rw[this,List.getElem?_append_right (by rw[Lc];omega)]
  have e:(j+1) * 2+t - v.cs.length=j * 2+t:=by rw[Lc];omega
  rw[e,Qm l j t (by simpa using hj) ht]
  simp
theorem Vg: ∀(l:List KK),∀u∈En l,u.oneCell'=true
 | [],u,hu=>by cases hu
 |v::l,u,hu=>by
  have:En (v::l)=v.cs++En l:=rfl
  rw[this,List.mem_append] at hu
  rcases hu with hu|hu
  ·simp[KK.cs] at hu
   rcases hu with rfl|rfl<;>rfl
  ·exact Vg l u hu
def RowsK (w:World) (b off:Nat) (l:List KK):Prop:= ∀j,(h:j<l.length)->w.rangeAt b (off+j * 2) l[j].cs
theorem RowsK.keep {w w':World} {b off:Nat} {l:List KK} (h:RowsK w b off l) (he:w'.heap[b]? =w.heap[b]?):RowsK w' b off l:=by
 intro j hj k v hv
 have:=h j hj k v hv
 rw[←this]
 exact World.cell?_of_block he
theorem Xx {w:World} {b off:Nat} {l:List KK}:RowsK w b off l↔ ∀j u,(En l)[j]? =some u->w.cell? ⟨b,off+j,none⟩=some u:=by
 constructor
 ·intro h j u hu
  have hlt:j<(En l).length:=(List.getElem?_eq_some_iff.1 hu).1
  rw[Kt] at hlt
  have hd:j=j / 2 * 2+j % 2:=by omega
  have hm:j % 2<2:=Nat.mod_lt _ (by omega)
  have:=h (j / 2) (by omega) (j % 2) u
  rw[hd,Qm l (j / 2) (j % 2) (by omega) hm] at hu
  have h2:=this hu
  rw[Nat.add_assoc,←hd] at h2
  exact h2
 ·intro h j hj t u hu
  have ht:t<2:=by
   have:=(List.getElem?_eq_some_iff.1 hu).1
   rwa [Lc] at this
  rw[Nat.add_assoc]
  exact h _ u (by rw[Qm l j t hj ht];exact hu)
def Qx (w:World) (v:Value) (l:List KK):Prop:=(∃A c,v= .slice A 0 c/\l= [])∨ ∃b off cap,v= .slice (some ⟨b,off,none⟩) l.length cap/\b<w.heap.size/\RowsK w b off l
def OwnK (w:World) (base:Nat) (v:Value) (l:List KK):Prop:=w.ownsRow base 42 2 v l.length (En l)
theorem OwnK.nil (w:World) (base:Nat):OwnK w base (.slice none 0 0) []:=⟨rfl, .inl ⟨rfl,rfl⟩⟩
theorem OwnK.form {w:World} {base:Nat} {v:Value} {l:List KK} (h:OwnK w base v l):(v= .slice none 0 0/\l= [])∨ ∃g c,v= .slice (some ⟨g,0,none⟩) l.length c/\l.length<=c/\base<=g/\g<w.heap.size/\RowsK w g 0 l:=by
 rcases h.2 with ⟨rfl,h0⟩|⟨g,c,cur,rfl,h1,h2,h3,_,h5,h6⟩
 ·exact .inl ⟨rfl,List.length_eq_zero_iff.1 h0⟩
 ·refine .inr ⟨g,c,rfl,h3,h1,(Array.getElem?_eq_some_iff.1 h2).1,Xx.2 ?_⟩
  intro j u hu
  have hlt:j<l.length * 2:=by
   have:=(List.getElem?_eq_some_iff.1 hu).1
   rwa [Kt] at this
  rw[←h6,List.getElem?_take_of_lt hlt] at hu
  rw[Nat.zero_add]
  simp[World.cell?,h2]
  simpa using hu
theorem OwnK.reads {w:World} {base:Nat} {v:Value} {l:List KK} (h:OwnK w base v l):Qx w v l:=by
 rcases h.form with ⟨rfl,rfl⟩|⟨g,c,rfl,_,_,h4,h5⟩
 ·exact .inl ⟨none,0,rfl,rfl⟩
 ·exact .inr ⟨g,0,c,rfl,h4,h5⟩
theorem OwnK.mono {w:World} {base base':Nat} {v:Value} {l:List KK} (h:OwnK w base v l) (hb:base'<=base):OwnK w base' v l:=
 ⟨h.1,h.2.imp id fun ⟨g,cap,cur,h1,h2,h3⟩=>⟨g,cap,cur,h1,Nat.le_trans hb h2,h3⟩⟩
theorem OwnK.own {w:World} {base:Nat} {v:Value} {l:List KK} (h:OwnK w base v l): ∀g,v.ownBlock=some g->base<=g/\g<w.heap.size:=by
 intro g hg
 rcases h.form with ⟨rfl,_⟩|⟨g',c,rfl,_,h3,h4,_⟩
 ·simp[Value.ownBlock] at hg
 ·have e:g'=g:=by simpa [Value.ownBlock] using hg
  subst e
  exact⟨h3,h4⟩
theorem OwnK.block {w w':World} {base:Nat} {v:Value} {l:List KK} (h:OwnK w base v l) (he: ∀g,v.ownBlock=some g->w'.heap[g]? =w.heap[g]?):OwnK w' base v l:=by
 refine⟨h.1, ?_⟩
 rcases h.2 with h|⟨g',c',cur,rfl,h1,h2,h3⟩
 ·exact .inl h
 ·exact .inr ⟨_,c',cur,rfl,h1,(he g' rfl).trans h2,h3⟩
theorem OwnK.on {w w':World} {base:Nat} {v:Value} {l:List KK} (h:OwnK w base v l) (hb:Below w.heap.size w w'):OwnK w' base v l:=h.block (fun g hg=>hb.block g (h.own g hg).2)
theorem Nu:(prog.info? 42).map (fun i=>(i.zero,i.size,i.bytes))=some (some Ga.agg,2,24):=by kernel_rfl
section
variable {ops : Array Oper} {rest : List Oper} {o : Oper} {a : Act} {w : World} {Q : Exit → Act → World → Prop} {s x : Operand} {base : Nat} {l m : List KK} {v u : Value}
theorem ZcE {K:Act->World->Prop} {d:KK} (ho:o.op= .buildSlice 54 1 #[(0,x)]) (hx:a.eval x=d.agg) (h:K (a.put o.dst (.slice (some ⟨w.heap.size,0,none⟩) 1 1)) (w.alloc d.obj)):o.wp prog a w K Q:=by
 obtain⟨i0,hi,hz0,hz1,hz2⟩:=info_parts Nu
 refine wp_buildSlice 54 42 1 _ ho #[.string d.s, .int .i64 d.n] i0 _ underlying54 hi hz0 (by rw[hz1];decide) (by rw[hz1];decide) ?_ h
 rw[hz1]
 simp only[List.map_toArray,List.map_cons,List.map_nil,hx]
 kernel_rfl
theorem Uw {d:KK} (hw:Region.wanted o (yielded ops a.tmps)=true) (ho:o.op= .buildSlice 54 1 #[(0,x)]) (hx:a.eval x=d.agg)
  (h: ∀X,Qx X (.slice (some ⟨w.heap.size,0,none⟩) 1 1) [d]->X.heap.size=w.heap.size+1->Below w.heap.size w X->wpList prog ops Q rest (a.put o.dst (.slice (some ⟨w.heap.size,0,none⟩) 1 1)) X):wpList prog ops Q (o::rest) a w:=by
 refine BigFrame.wpList_want hw fun K hK=> ?_
 refine ZcE ho hx (hK _ _ (h _ ?_ (by simp) ((Below.refl _ _).alloc (Nat.le_refl _) _)))
 refine .inr ⟨w.heap.size,0,1,rfl,by simp,fun j hj=> ?_⟩
 obtain rfl:j=0:=by simpa using hj
 exact KLies.range (KLies.new w _ rfl d)
end
section
variable {md : Region.Mode} {ops : Array Oper} {Q : Exit → Act → World → Prop} {S : World → Prop} {w : World} {fuel : Nat} {listed : Array Bool} {a : Act} {o : Oper}
theorem Zcr (b off n cap j:Nat) (hj:j<n) (w:World):(Instr.indexAt 54 (.slice (some ⟨b,off,none⟩) n cap) (.int .i64 j)).run prog w= .ok (.pointer (some ⟨b,off+j * 2,none⟩)) w:=by
 rw[run_indexAt_slice (h:=by kernel_rfl),if_pos ⟨by omega,by omega⟩]
 have e:(sizeOf (prog.elem 54)).run prog w= .ok 2 w:=by kernel_rfl
 rw[e]
 have e2:(Addr.add ⟨b,off,none⟩ ((j:Int).toNat * 2))=⟨b,off+j * 2,none⟩:=by
  unfold Addr.add
  by_cases h:j=0
  ·subst h;simp
  ·have h2: ¬j * 2=0:=by omega
   simp[h2]
 show Result.ok (Value.pointer (some (Addr.add ⟨b,off,none⟩ ((j:Int).toNat * 2)))) w=_
 rw[e2]
end
section
variable {ops : Array Oper} {rest : List Oper} {o : Oper} {a : Act} {w : World} {Q : Exit → Act → World → Prop} {x ix : Operand} {b off n cap j p : Nat} {d : KK}
theorem Uu (hw:Region.wanted o (yielded ops a.tmps)=true) (ho:o.op= .indexAddr 54 x ix) (hx:a.eval x= .slice (some ⟨b,off,none⟩) n cap) (hix:a.eval ix= .int .i64 (j:Nat)) (hj:j<n) (h:wpList prog ops Q rest (a.put o.dst (.pointer (some ⟨b,off+j * 2,none⟩))) w):wpList prog ops Q (o::rest) a w:=by
 refine BigFrame.wpList_want hw fun K hK=> ?_
 unfold Oper.wp execOp
 simp only[ho,hx,hix]
 simp[Zcr b off n cap j hj w]
 exact hK _ _ h
theorem ZaX (hw:Region.wanted o (yielded ops a.tmps)=true) (ho:o.op= .load 42 x) (hx:a.eval x= .pointer (some ⟨b,p,none⟩)) (hc:w.rangeAt b p d.cs) (h:wpList prog ops Q rest (a.put o.dst d.agg) w):wpList prog ops Q (o::rest) a w:=by
 obtain⟨t,hu,hd⟩:=Zu
 refine BigFrame.wpList_want hw fun K hK=> ?_
 exact wp_load_mid 42 x ho b p hx _ t hc hu hd Zw (hK _ _ h)
end
end
section
open Go Go.Proofs Go.Maps Go.RowKit Tryz
def ptrR:Value->Option (DataW Unit×List MemPlace)
 | .pointer none=>some (.nil, [])
 | .pointer (some ⟨b,0,none⟩)=>some (.lit (.int .i64 (b:Nat)), [])
 |_=>none
def pv:Option Nat->Value
 |none=> .pointer none
 |some b=> .pointer (some ⟨b,0,none⟩)
def pd:Option Nat->DataW Unit
 |none=> .nil
 |some b=> .lit (.int .i64 (b:Nat))
theorem Zb7 (o:Option Nat):ptrR (pv o)=some (pd o, []):=by cases o<;>rfl
theorem pd_inj {o o':Option Nat} (h:pd o=pd o'):o=o':=by
 cases o<;>cases o'<;>simp[pd] at h ⊢
 omega
theorem ptrR_inv {v:Value} {o:Option Nat} {ps:List MemPlace} (h:ptrR v=some (pd o,ps)):v=pv o:=by
 unfold ptrR at h
 split at h
 ·have e:=congrArg Prod.fst (Option.some.inj h)
  rw[←pd_inj (o:=none) (o':=o) e];rfl
 ·rename_i b
  have e:=congrArg Prod.fst (Option.some.inj h)
  rw[←pd_inj (o:=some b) (o':=o) e];rfl
 ·cases h
def OkK (k:KK):Prop:=k.s.size<=maxLen/\(Lit.int .i64 k.n).wf=true
def kl (k:KK):Lit:=Zc4 k.s k.n
theorem ZbM {k:KK} (h:OkK k):keyOf prog 42 k.agg=some (kl k):=Rw k.s k.n h.1 h.2
theorem kl_inj {k k':KK} (h:OkK k) (h':OkK k') (e:kl k=kl k'):k=k':=by
 obtain⟨h1,h2⟩:=klit_inj h.1 h.2 h'.1 h'.2 e
 exact KK.ext' h1 h2
theorem kl_key {k:KK} (h:OkK k):WideAt.IsKeyLit (kl k):=klit_key h.1 h.2
def MapIs (w:World) (b n sz:Nat) (F:KK->Option Nat):Prop:=
 ∃D:DataW Unit,w.ownsMap prog 42 ptrR b n D/\Maps.size D=sz/\ ∀k,OkK k->D.atKey (kl k) .nil=pd (F k)/\Maps.has D (kl k)=(F k).isSome
theorem MapIs.made (w:World):MapIs (w.alloc (.map #[] 0)) w.heap.size 0 0 (fun _=>none):=
 ⟨_,World.ownsMap_made w _ _ _,rfl,fun k _=>⟨rfl,rfl⟩⟩
theorem MapIs.lt {w:World} {b n sz:Nat} {F:KK->Option Nat} (h:MapIs w b n sz F):b<w.heap.size:=by
 obtain⟨D,h, -⟩:=h
 exact h.lt
theorem MapIs.block {w w':World} {b n sz:Nat} {F:KK->Option Nat} (h:MapIs w b n sz F) (he:w'.heap[b]? =w.heap[b]?):MapIs w' b n sz F:=by
 obtain⟨D,⟨es,clock,hb,Ft,hs,hD⟩,h2,h3⟩:=h
 exact⟨D,⟨es,clock,he.trans hb,Ft,hs,hD⟩,h2,h3⟩
theorem MapIs.mono {w:World} {b n n' sz:Nat} {F:KK->Option Nat} (h:MapIs w b n sz F) (hn:n<=n'):MapIs w b n' sz F:=by
 obtain⟨D,h,h2⟩:=h
 exact⟨D,h.mono hn,h2⟩
theorem zero74 (w:World):(zeroValue 171).run prog w= .ok (.pointer none) w:=by kernel_rfl
theorem MapIs.look {w:World} {b n sz:Nat} {F:KK->Option Nat} (h:MapIs w b n sz F) {k:KK} (hk:OkK k):
  (Instr.lookup 167 (.map (some b)) k.agg true).run prog w= .ok (.tuple #[pv (F k), .bool (F k).isSome]) w:=by
 obtain⟨D,h,h2,h3⟩:=h
 obtain⟨v,ps,hrun,hv⟩:=h.look_ok Us underlying167 (zero74 w) (Zb7 none) (ZbM hk)
 obtain⟨h4,h5⟩:=h3 k hk
 have hv':ptrR v=some (pd (F k),ps):=by rw[←h4];exact hv
 rw[hrun,h5,ptrR_inv hv']
theorem MapIs.len {w:World} {b n sz:Nat} {F:KK->Option Nat} (h:MapIs w b n sz F) (ty:TypeId):(Builtin.len_ #[167] ty #[.map (some b)]).run prog w= .ok (.int .i64 sz) w:=by
 obtain⟨D,h,h2,h3⟩:=h
 rw[h.len underlying167 ty,h2]
def Oc (F:KK->Option Nat) (k:KK) (r:Option Nat):KK->Option Nat:=fun q=>if q.s=k.s/\q.n=k.n then r else F q
theorem Ma (F:KK->Option Nat) (k:KK) (r:Option Nat):Oc F k r k=r:=by simp[Oc]
theorem Ky {F:KK->Option Nat} {k q:KK} (h:q≠k) (r:Option Nat):Oc F k r q=F q:=by
 unfold Oc
 rw[if_neg (fun e=>h (KK.ext' e.1 e.2))]
theorem MapIs.store {w:World} {b n sz:Nat} {F:KK->Option Nat} (h:MapIs w b n sz F) {k:KK} (hk:OkK k) (hn:n<maxLen) (r:Nat):
  ∃w',(Instr.mapUpdate 167 (.map (some b)) k.agg (pv (some r))).run prog w= .ok () w'/\MapIs w' b (n+1) (if (F k).isSome then sz else sz+1) (Oc F k (some r))/\w.mapTurned w' b:=by
 obtain⟨D,h,h2,h3⟩:=h
 obtain⟨w',hrun,ho,ht⟩:=h.store Us underlying167 hn (ZbM hk) (Zb7 (some r))
 have ti:=h.tidy Us
 refine⟨w',hrun,⟨_,ho, ?_,fun q hq=> ?_⟩,ht⟩
 ·rw[size_put ti,(h3 k hk).2,h2]
 ·by_cases e:q=k
  ·subst e
   rw[atKey_put_same ti.isMap (kl_key hk),has_put_same ti.isMap (kl_key hk),Ma]
   exact⟨rfl,rfl⟩
  ·have ne:kl q≠kl k:=fun e'=>e (kl_inj hq hk e')
   rw[atKey_put_other ne,has_put_other ne,Ky e]
   exact h3 q hq
theorem MapIs.drop {w:World} {b n sz:Nat} {F:KK->Option Nat} (h:MapIs w b n sz F) {k:KK} (hk:OkK k) (ty:TypeId):
  ∃w',(Builtin.delete_ #[167,42] ty #[.map (some b),k.agg]).run prog w= .ok (.tuple #[]) w'/\MapIs w' b n (if (F k).isSome then sz - 1 else sz) (Oc F k none)/\w.mapTurned w' b:=by
 obtain⟨D,h,h2,h3⟩:=h
 obtain⟨w',hrun,ho,ht⟩:=h.drop Us underlying167 (ZbM hk) ty
 have ti:=h.tidy Us
 have hs:=size_del (k:=kl k) ti
 refine⟨w',hrun,⟨_,ho, ?_,fun q hq=> ?_⟩,ht⟩
 ·rw[(h3 k hk).2] at hs
  split at hs<;>rename_i hc<;>simp[hc]<;>omega
 ·by_cases e:q=k
  ·subst e
   rw[atKey_del_same,has_del_same,Ma]
   exact⟨rfl,rfl⟩
  ·have ne:kl q≠kl k:=fun e'=>e (kl_inj hq hk e')
   rw[atKey_del_other ne,has_del_other ne,Ky e]
   exact h3 q hq
end
section
open Go Go.Proofs Go.Maps Go.RowKit
def Holds (W:World) (B:Nat) (cs:List Value):Prop:=(∀j,W.frozen? ⟨B,j,none⟩=false)/\W.rangeAt B 0 cs
theorem Holds.block {W W1:World} {B:Nat} {cs:List Value} (h:Holds W B cs) (he:W1.heap[B]? =W.heap[B]?):Holds W1 B cs:=by
 have hc: ∀j,W1.cell? ⟨B,j,none⟩=W.cell? ⟨B,j,none⟩:=fun j=>World.cell?_of_block he
 have hf: ∀j,W1.frozen? ⟨B,j,none⟩=W.frozen? ⟨B,j,none⟩:=fun j=>World.frozen?_of_block he
 unfold Holds World.rangeAt at *
 simp only[hc,hf]
 exact h
theorem Holds.new (w:World) (cs:List Value) (t:TypeId):Holds (w.alloc (Obj.cells cs.toArray t)) w.heap.size cs:=by
 refine⟨fun j=> ?_,fun j v hv=> ?_⟩
 ·simp[go_sem]
 ·simp[go_sem]
  exact hv
theorem Holds.cell {W:World} {B:Nat} {cs:List Value} (h:Holds W B cs) (p:Nat) {v:Value} (hp:cs[p]? =some v):W.cell? ⟨B,p,none⟩=some v:=by
 have:=h.2 p v hp
 simpa using this
theorem Holds.mid {W:World} {B:Nat} {cs:List Value} (h:Holds W B cs) (p n:Nat):W.rangeAt B p ((cs.drop p).take n):=by
 intro j v hv
 rw[List.getElem?_take] at hv
 split at hv
 ·rw[List.getElem?_drop] at hv
  exact h.cell (p+j) hv
 ·cases hv
theorem Holds.there {W:World} {B:Nat} {cs:List Value} (h:Holds W B cs) (p n:Nat) (hp:p+n<=cs.length):W.there B p n:=by
 intro j hj
 refine⟨?_,h.1 _⟩
 rw[h.cell (p+j) (List.getElem?_eq_getElem (by omega))]
 rfl
theorem Holds.lt {W:World} {B:Nat} {cs:List Value} (h:Holds W B cs) (hc:0<cs.length):B<W.heap.size:=by
 have h0:=h.cell 0 (List.getElem?_eq_getElem hc)
 rcases Nat.lt_or_ge B W.heap.size with h1|h1
 ·exact h1
 ·exfalso
  have e:W.heap[B]? =none:=Array.getElem?_eq_none h1
  simp[World.cell?,e] at h0
def Dp (cs:List Value) (p:Nat) (vs:List Value):List Value:=cs.take p++vs++cs.drop (p+vs.length)
theorem Holds.put {W:World} {B:Nat} {cs:List Value} (h:Holds W B cs) (p:Nat) (vs:List Value) (hp:p+vs.length<=cs.length):Holds (W.setCells B p vs) B (Dp cs p vs):=by
 refine⟨fun j=>by rw[World.frozen?_setCells];exact h.1 j,fun j v hv=> ?_⟩
 unfold Dp at hv
 have hth:=h.there p vs.length hp
 have e0:(⟨B,0+j,none⟩:Addr)=⟨B,j,none⟩:=by simp
 rw[e0]
 by_cases h1:j<p
 ·rw[List.getElem?_append_left (by simp;omega),List.getElem?_append_left (by simp;omega),List.getElem?_take,if_pos h1] at hv
  rw[World.cell?_setCells_out B vs p W ⟨B,j,none⟩ (fun _ _=>Or.inl h1)]
  exact h.cell j hv
 ·by_cases h2:j<p+vs.length
  ·rw[List.getElem?_append_left (by simp;omega),List.getElem?_append_right (by simp;omega)] at hv
   have h3:=World.rangeAt_setCells_same W B p vs hth (j - p) v (by simpa [Nat.min_eq_left (by omega:p<=cs.length)] using hv)
   rwa [show p+(j - p)=j by omega] at h3
  ·rw[List.getElem?_append_right (by simp;omega),List.getElem?_drop] at hv
   rw[World.cell?_setCells_out B vs p W ⟨B,j,none⟩ (fun _ _=>Or.inr (by show p+vs.length<=j;omega))]
   refine h.cell j ?_
   rw[←hv]
   congr 1
   simp
   omega
section
variable {o : Oper} {a : Act} {W : World} {x : Operand} {B p : Nat} {cs : List Value}
theorem Ai {v:Value} (t:TypeId) (hna: ∀w,(isAgg t).run Tryz.prog w= .ok false w) (ho:o.op= .load t x) (hx:a.eval x= .pointer (some ⟨B,p,none⟩)) (hc:Holds W B cs) (hv:cs[p]? =some v):(execOp a.eval o).run Tryz.prog W= .ok (.value v) W:=by
 have h0:=hc.cell p hv
 unfold execOp
 simp only[ho,hx]
 simp[go_sem,h0,hna]
theorem Aj {vs:List Value} (t:TypeId) (n:Nat) (hu: ∃d,Tryz.prog.underlying t=some d/\d.isRow=true) (hi:(Tryz.prog.info? t).map (·.size)=some n) (ho:o.op= .load t x) (hx:a.eval x= .pointer (some ⟨B,p,none⟩)) (hc:Holds W B cs) (hv:(cs.drop p).take n=vs) (hn:vs.length=n):(execOp a.eval o).run Tryz.prog W= .ok (.value (.agg vs.toArray)) W:=by
 obtain⟨d,hu,hd⟩:=hu
 have h0:=hc.mid p n
 rw[hv] at h0
 unfold execOp
 simp only[ho,hx,Instr.loadAt,Instr.sureAddr,Sem.run_bind,Sem.run_pure,Result.andThen_ok,run_loadVar_mid W B p t vs d h0 hu hd (by rw[hi,hn])]
end
structure Fr (w X:World) (E:List Nat):Prop where
 os:X.os=w.os
 tape:X.tape=w.tape
 output:X.output=w.output
 size:w.heap.size<=X.heap.size
 block: ∀b,b<w.heap.size->b ∉ E->X.heap[b]? =w.heap[b]?
theorem Fr.refl (w:World) (E:List Nat):Fr w w E:=⟨rfl,rfl,rfl,Nat.le_refl _,fun _ _ _=>rfl⟩
theorem Fr.trans {w X Y:World} {E E':List Nat} (h:Fr w X E) (k:Fr X Y E') (hE: ∀b∈E',b∈E∨w.heap.size<=b):Fr w Y E:=
 ⟨k.os.trans h.os,k.tape.trans h.tape,k.output.trans h.output,Nat.le_trans h.size k.size,fun b hb he=>
  (k.block b (Nat.lt_of_lt_of_le hb h.size) (fun he'=>(hE b he').elim he (fun h2=>by omega))).trans (h.block b hb he)⟩
theorem Fr.of_below {w X:World} (h:Below w.heap.size w X) (E:List Nat):Fr w X E:=⟨h.os,h.tape,h.output,h.size,fun b hb _=>h.block b hb⟩
theorem Fr.below {w X:World} (h:Fr w X []):Below w.heap.size w X:=⟨h.os,h.tape,h.output,h.size,fun b hb=>h.block b hb (by simp)⟩
theorem Fr.on {w X Y:World} {E:List Nat} (h:Fr w X E) (k:Below X.heap.size X Y):Fr w Y E:=h.trans (Fr.of_below k []) (by simp)
theorem Fr.mono {w X:World} {E E':List Nat} (h:Fr w X E) (hE: ∀b∈E,b∈E'∨w.heap.size<=b):Fr w X E':=(Fr.refl w E').trans h hE
theorem Fr.drew {w X:World} {E:List Nat} (h:Fr w X E):Fr w X.drew E:=⟨h.os,h.tape,h.output,h.size,h.block⟩
theorem Ll (b:Nat): ∀(vs:List Value) (o:Nat) (X:World),(X.setCells b o vs).os=X.os/\(X.setCells b o vs).tape=X.tape/\(X.setCells b o vs).output=X.output
 | [],_,_=>⟨rfl,rfl,rfl⟩
 |v::vs,o,X=>by
  obtain⟨h1,h2,h3⟩:=Ll b vs (o+1) (X.setCell ⟨b,o,none⟩ v)
  rw[World.setCells]
  exact⟨h1,h2,h3⟩
theorem Fr.setCells (X:World) (b p:Nat) (vs:List Value):Fr X (X.setCells b p vs) [b]:=
 ⟨(Ll b vs p X).1,(Ll b vs p X).2.1,(Ll b vs p X).2.2,by rw[Ew];exact Nat.le_refl _,fun g _ hg=>Ex b vs p X g (by simpa using hg)⟩
theorem Fr.grown {X Y:World} {row:Option Nat} (h:X.grownBy Y row):Fr X Y row.toList:=
 ⟨h.os,h.tape,h.output,h.size,fun b hb hE=>h.block b hb (fun e=>hE (by rw[←e];simp))⟩
structure Hq (w X:World) (E:List Nat) (L:List (Nat×List Value)):Prop where
 fr:Fr w X E
 all: ∀q∈L,Holds X q.1 q.2/\0<q.2.length
 nd:(L.map (·.1)).Nodup
theorem Hq.nil (w:World) (E:List Nat):Hq w w E []:=⟨Fr.refl _ _,(fun q hq=>by cases hq),by simp⟩
theorem Hq.lt {w X:World} {E:List Nat} {L:List (Nat×List Value)} (h:Hq w X E L): ∀q∈L,q.1<X.heap.size:=fun q hq=>(h.all q hq).1.lt (h.all q hq).2
theorem Hq.get {w X:World} {E:List Nat} {L:List (Nat×List Value)} (h:Hq w X E L) (i:Nat) {b:Nat} {cs:List Value} (hi:L[i]? =some (b,cs)):Holds X b cs:=(h.all _ (List.mem_of_getElem? hi)).1
theorem Hq.drew {w X:World} {E:List Nat} {L:List (Nat×List Value)} (h:Hq w X E L):Hq w X.drew E L:=⟨h.fr.drew,fun q hq=>⟨(h.all q hq).1.block rfl,(h.all q hq).2⟩,h.nd⟩
theorem Hq.on {w X Y:World} {E:List Nat} {L:List (Nat×List Value)} (h:Hq w X E L) (k:Below X.heap.size X Y):Hq w Y E L:=
 ⟨h.fr.on k,fun q hq=>⟨(h.all q hq).1.block (k.block _ (h.lt q hq)),(h.all q hq).2⟩,h.nd⟩
theorem Hq.step {w X Y:World} {E E':List Nat} {L:List (Nat×List Value)} (h:Hq w X E L) (k:Fr X Y E') (hE: ∀b∈E',b∈E∨w.heap.size<=b) (hL: ∀q∈L,q.1 ∉ E'):Hq w Y E L:=
 ⟨h.fr.trans k hE,fun q hq=>⟨(h.all q hq).1.block (k.block _ (h.lt q hq) (hL q hq)),(h.all q hq).2⟩,h.nd⟩
theorem Hq.add {w X:World} {E:List Nat} {L:List (Nat×List Value)} (h:Hq w X E L) {b:Nat} {cs:List Value} (hb:Holds X b cs) (hc:0<cs.length) (hn: ∀q∈L,q.1≠b):Hq w X E (L++ [(b,cs)]):=by
 refine⟨h.fr,fun q hq=> ?_, ?_⟩
 ·rcases List.mem_append.1 hq with hq|hq
  ·exact h.all q hq
  ·obtain rfl:q=(b,cs):=by simpa using hq
   exact⟨hb,hc⟩
 ·rw[List.map_append,List.nodup_append]
  refine⟨h.nd,by simp,fun x hx y hy=> ?_⟩
  obtain⟨q,hq,rfl⟩:=List.mem_map.1 hx
  obtain rfl:y=b:=by simpa using hy
  exact hn q hq
theorem Hq.new {w X:World} {E:List Nat} {L:List (Nat×List Value)} (h:Hq w X E L) (cs:List Value) (t:TypeId) (hc:0<cs.length):Hq w (X.alloc (Obj.cells cs.toArray t)) E (L++ [(X.heap.size,cs)]):=
 (h.on ((Below.refl _ _).alloc (Nat.le_refl _) _)).add (Holds.new X cs t) hc (fun q hq=>Nat.ne_of_lt (h.lt q hq))
theorem Hq.put {w X:World} {E:List Nat} {L:List (Nat×List Value)} (h:Hq w X E L) (i:Nat) {b:Nat} {cs:List Value} (hi:L[i]? =some (b,cs)) (p:Nat) (vs:List Value) (hp:p+vs.length<=cs.length) (hE:b∈E∨w.heap.size<=b):Hq w (X.setCells b p vs) E (L.set i (b,Dp cs p vs)):=by
 have hil:=(List.getElem?_eq_some_iff.1 hi).1
 have hie:=(List.getElem?_eq_some_iff.1 hi).2
 have hH:=h.get i hi
 have hlen:(Dp cs p vs).length=cs.length:=by simp[Dp];omega
 refine⟨h.fr.trans (Fr.setCells X b p vs) (by simpa using hE),fun q hq=> ?_, ?_⟩
 ·rcases List.getElem?_of_mem hq with ⟨j,hj⟩
  rw[List.getElem?_set] at hj
  split at hj
  ·rename_i e
   subst e
   obtain rfl:=Option.some.inj hj
   have h1:=(h.all _ (List.mem_of_getElem? hi)).2
   exact⟨hH.put p vs hp,by simpa [hlen] using h1⟩
  ·rename_i e
   have hm:=List.mem_of_getElem? hj
   refine⟨(h.all q hm).1.block (Ex b vs p X q.1 ?_),(h.all q hm).2⟩
   intro eb
   have hjl:=(List.getElem?_eq_some_iff.1 hj).1
   have h1:(L.map (·.1))[i]? =some b:=by simp[hi]
   have h2:(L.map (·.1))[j]? =some b:=by simp[hj,eb]
   have:=(List.getElem?_inj (by simpa using hil) h.nd).1 (h1.trans h2.symm)
   exact e this
 ·have e:(L.set i (b,Dp cs p vs)).map (·.1)=L.map (·.1):=by
   rw[List.map_set]
   apply List.ext_getElem?
   intro j
   rw[List.getElem?_set]
   split
   ·rename_i e
    subst e
    simp[hil,hie]
   ·rfl
  rw[e]
  exact h.nd
end
section
open Go Go.Proofs Go.RowKit
def goodK (k:KK):Bool:=(Od k.s k.n).good
theorem Za5 (k:KK):goodK k=if k.n=0 then decide (k.s.size<=1048576) && vS k.s else decide (1<=k.n) && decide (k.n<=65536) && k.s.toList.isEmpty:=by
 unfold goodK Od
 by_cases h:k.n=0
 ·rw[if_pos h,if_pos h]
  simp[VV.good,Ke,inG,Uf,Vh,vS]
 ·rw[if_neg h,if_neg h]
  simp[VV.good,Ke,inG,Uf]
  cases k.s.toList.isEmpty<;>simp
theorem Ow {k:KK} (h:goodK k=true):k.s.size<=1048576:=Zc8 h
theorem goodK_n {k:KK} (h:goodK k=true):0<=k.n/\k.n<=65536:=by
 rw[Za5] at h
 by_cases hn:k.n=0
 ·omega
 ·rw[if_neg hn] at h
  simp at h
  omega
theorem subI (x y:Int) (hx: -1099511627776<=x/\x<=1099511627776) (hy: -1099511627776<=y/\y<=1099511627776) (w:World):(binOp .sub 3 (.int .i64 x) (.int .i64 y)).run Tryz.prog w= .ok (.int .i64 (x - y)) w:=by
 have e:IntKind.i64.wrap (x - y)=x - y:=by
  rw[IntKind.wrap_i64]
  omega
 simp[binOp,go_sem,e]
theorem kd_range (s:ByteArray) (n:Int):0<=Rf s n/\Rf s n<=2:=by
 unfold Rf
 split
 ·split<;>omega
 ·omega
theorem kn_le (s:ByteArray) (n:Int):Ut s n<=4294967294:=by
 unfold Ut
 split
 ·cases h:Lu (Dn s) with
  |none=>simp
  |some m=>simpa using Zco _ _ h
 ·omega
end
section
open Go Go.Proofs Go.Maps Go.RowKit Tryz
instance decK:DecidableEq KK:=fun a b=>decidable_of_iff (a.s=b.s/\a.n=b.n) ⟨fun h=>KK.ext' h.1 h.2,fun h=>h▸⟨rfl,rfl⟩⟩
structure RR where
 b:Nat
 k:KK
 d:DD
 n:Nat
 gone:Bool
def RR.cs (r:RR):List Value:=r.k.cs++(r.d.cs++ [.int .u64 r.n, .bool r.gone])
theorem Pa (d:DD):d.cs.length=18:=rfl
theorem Dx (r:RR):r.cs.length=22:=rfl
def Mz (l:List Nat):List Value:=l.map (fun b=> .pointer (some ⟨b,0,none⟩))
def OwnP (W:World) (v:Value) (l:List Nat):Prop:=W.ownsRow 0 171 1 v l.length (Mz l)
theorem OwnP.nil (W:World):OwnP W (.slice none 0 0) []:=⟨rfl, .inl ⟨rfl,rfl⟩⟩
theorem OwnP.lt {W:World} {v:Value} {l:List Nat} (h:OwnP W v l): ∀g,v.ownBlock=some g->g<W.heap.size:=fun g hg=>(World.ownsRow.lt h g hg).2
theorem OwnP.block {W W':World} {v:Value} {l:List Nat} (h:OwnP W v l) (he: ∀g,v.ownBlock=some g->W'.heap[g]? =W.heap[g]?):OwnP W' v l:=by
 obtain⟨h1,h2⟩:=h
 refine⟨h1, ?_⟩
 rcases h2 with h2|⟨g,cap,cur,rfl,h3,h4,h5⟩
 ·exact .inl h2
 ·exact .inr ⟨g,cap,cur,rfl,h3,(he g rfl).trans h4,h5⟩
structure TT where
 t:Nat
 m:Nat
 rv:Value
 rows:List RR
 last:Nat
def TT.live (T:TT):List RR:=T.rows.filter (fun r=> !r.gone)
def TT.find (T:TT) (k:KK):Option RR:=T.live.find? (fun r=>decide (r.k=k))
def TT.blocks (T:TT):List Nat:=T.t::T.m::(T.rv.ownBlock.toList++T.rows.map (·.b))
def TT.cs (T:TT):List Value:= [.map (some T.m),T.rv, .int .u64 T.last]
structure TT.Is (T:TT) (W:World):Prop where
 tab:Holds W T.t T.cs
 map:MapIs W T.m T.last T.live.length (fun k=>(T.find k).map (·.b))
 own:OwnP W T.rv (T.rows.map (·.b))
 rows: ∀r∈T.rows,Holds W r.b r.cs
 nd:T.blocks.Nodup
 rise:T.rows.Pairwise (fun a b=>a.n<b.n)
 num: ∀r∈T.rows,1<=r.n/\r.n<=T.last
 keys:T.live.Pairwise (fun a b=>a.k≠b.k)
 good: ∀r∈T.live,goodK r.k=true
theorem TT.Is.lt {T:TT} {W:World} (h:T.Is W): ∀b∈T.blocks,b<W.heap.size:=by
 intro b hb
 simp only[TT.blocks,List.mem_cons,List.mem_append,List.mem_map] at hb
 rcases hb with rfl|rfl|hb|⟨r,hr,rfl⟩
 ·exact h.tab.lt (by simp[TT.cs])
 ·exact h.map.lt
 ·exact h.own.lt b (by simpa using hb)
 ·exact(h.rows r hr).lt (by simp[Dx])
theorem TT.Is.block {T:TT} {W W':World} (h:T.Is W) (he: ∀b∈T.blocks,W'.heap[b]? =W.heap[b]?):T.Is W':=
 ⟨h.tab.block (he _ (by simp[TT.blocks])),h.map.block (he _ (by simp[TT.blocks])),h.own.block (fun g hg=>he g (by simp[TT.blocks,hg])),fun r hr=>(h.rows r hr).block (he _ (by
  simp only[TT.blocks,List.mem_cons,List.mem_append,List.mem_map]
  exact .inr (.inr (.inr ⟨r,hr,rfl⟩)))),h.nd,h.rise,h.num,h.keys,h.good⟩
theorem TT.Is.on {T:TT} {W W':World} (h:T.Is W) (hb:Below W.heap.size W W'):T.Is W':=h.block (fun b hb'=>hb.block b (h.lt b hb'))
theorem TT.Is.drew {T:TT} {W:World} (h:T.Is W):T.Is W.drew:=h.block (fun _ _=>rfl)
theorem TT.find_mem {T:TT} {k:KK} {r:RR} (h:T.find k=some r):r∈T.rows/\r.gone=false/\r.k=k:=by
 have h1:=List.mem_of_find?_eq_some h
 have h2:=List.find?_some h
 simp[TT.live] at h1 h2
 exact⟨h1.1,h1.2,h2⟩
section
variable {md : Region.Mode} {ops : Array Oper} {rest : List Oper} {Q : Exit → Act → World → Prop} {S : World → Prop} {w w0 : World} {fuel : Nat} {listed : Array Bool} {a : Act} {o : Oper}
theorem gsem (i:Nat) (dst:Option Tmp) (v:Value) (hi:ops[i]? =some o) (hs:Region.noSelect ops=true) (hf:Region.free md ops listed i=true) (hr:(Region.ready md ops listed).contains i=true)
  (hQ: ∀c a w,Q (.panic c) (a.put dst v) w->Q (.panic c) a w) (hd:o.dst=dst) (hw:Region.wanted o (yielded ops a.tmps)=true) (hy: ∀X,S X->(execOp a.eval o).run prog X= .ok (.value v) X)
  (hS:S w) (h:wpAnyH prog md ops Q S fuel (listed.setIfInBounds i true) (a.put dst v) w):wpAnyH prog md ops Q S (fuel+1) listed a w:=by
 subst hd
 exact wpAnyH_take hi hs hf hr hQ (Or.inl ⟨hw,hy⟩) hS h
theorem y10 (i:Nat) (dst:Option Tmp) (v:Value) (hi:ops[i]? =some o) (hy: ∀X,S X->(execOp a.eval o).run prog X= .ok (.value v) X) (hS:S w) (h:wpAnyH prog md ops Q S fuel (listed.setIfInBounds i true) (a.put dst v) w) (hs:Region.noSelect ops=true:=by kernel_rfl) (hf:Region.free md ops listed i=true:=by kernel_rfl) (hr:(Region.ready md ops listed).contains i=true:=by kernel_rfl) (hQ: ∀c a w,Q (.panic c) (a.put dst v) w->Q (.panic c) a w:=by exact fun _ _ _ h=>h) (hd:o.dst=dst:=by kernel_rfl) (hw:Region.wanted o (yielded ops a.tmps)=true:=by kernel_rfl):wpAnyH prog md ops Q S (fuel+1) listed a w:=gsem i dst v hi hs hf hr hQ hd hw hy hS h
theorem y1 {aB:Act} (i:Nat) (dst:Option Tmp) (v:Value) (hi:ops[i]? =some o) (hy: ∀X,S X->(execOp a.eval o).run prog X= .ok (.value v) X) (hS:S w) (h:wpAnyH prog md ops Q S fuel (listed.setIfInBounds i true) aB w) (hb:a.put dst v=aB:=by simp only[nn]<;>rfl) (hs:Region.noSelect ops=true:=by kernel_rfl) (hf:Region.free md ops listed i=true:=by kernel_rfl) (hr:(Region.ready md ops listed).contains i=true:=by kernel_rfl) (hQ: ∀c a w,Q (.panic c) (a.put dst v) w->Q (.panic c) a w:=by exact fun _ _ _ h=>h) (hd:o.dst=dst:=by kernel_rfl) (hw:Region.wanted o (yielded ops a.tmps)=true:=by kernel_rfl):wpAnyH prog md ops Q S (fuel+1) listed a w:=y10 i dst v hi hy hS (hb▸h) hs hf hr hQ hd hw
theorem y00 (i:Nat) (dst:Option Tmp) (v:Value) (hi:ops[i]? =some o) (hS:S w) (h:wpAnyH prog md ops Q S fuel (listed.setIfInBounds i true) (a.put dst v) w) (hy: ∀X,S X->(execOp a.eval o).run prog X= .ok (.value v) X:=by intro _ _;kernel_rfl) (hs:Region.noSelect ops=true:=by kernel_rfl) (hf:Region.free md ops listed i=true:=by kernel_rfl) (hr:(Region.ready md ops listed).contains i=true:=by kernel_rfl) (hQ: ∀c a w,Q (.panic c) (a.put dst v) w->Q (.panic c) a w:=by exact fun _ _ _ h=>h) (hd:o.dst=dst:=by kernel_rfl) (hw:Region.wanted o (yielded ops a.tmps)=true:=by kernel_rfl):wpAnyH prog md ops Q S (fuel+1) listed a w:=gsem i dst v hi hs hf hr hQ hd hw hy hS h
theorem y0 {aB:Act} (i:Nat) (dst:Option Tmp) (v:Value) (hi:ops[i]? =some o) (hS:S w) (h:wpAnyH prog md ops Q S fuel (listed.setIfInBounds i true) aB w) (hb:a.put dst v=aB:=by simp only[nn]<;>rfl) (hy: ∀X,S X->(execOp a.eval o).run prog X= .ok (.value v) X:=by intro _ _;kernel_rfl) (hs:Region.noSelect ops=true:=by kernel_rfl) (hf:Region.free md ops listed i=true:=by kernel_rfl) (hr:(Region.ready md ops listed).contains i=true:=by kernel_rfl) (hQ: ∀c a w,Q (.panic c) (a.put dst v) w->Q (.panic c) a w:=by exact fun _ _ _ h=>h) (hd:o.dst=dst:=by kernel_rfl) (hw:Region.wanted o (yielded ops a.tmps)=true:=by kernel_rfl):wpAnyH prog md ops Q S (fuel+1) listed a w:=y00 i dst v hi hS (hb▸h) hy hs hf hr hQ hd hw
theorem rd0 {v:Value} (hw:Region.wanted o (yielded ops a.tmps)=true) (hy:(execOp a.eval o).run prog w= .ok (.value v) w) (h:wpList prog ops Q rest (a.put o.dst v) w):wpList prog ops Q (o::rest) a w:=by
 refine BigFrame.wpList_want hw fun K hK=> ?_
 have hP:=hK _ _ h
 unfold Oper.wp
 rw[hy]
 exact hP
theorem rd {aB:Act} {v:Value} (hw:Region.wanted o (yielded ops a.tmps)=true) (hy:(execOp a.eval o).run prog w= .ok (.value v) w) (h:wpList prog ops Q rest aB w) (hb:a.put o.dst v=aB:=by simp only[nn]<;>rfl):wpList prog ops Q (o::rest) a w:=rd0 hw hy (hb▸h)
theorem Gf (w:World) (b p:Nat) (ty:TypeId) (v:Value) (vs:List Value) (hv:v.cells.toList=vs) (ht:w.there b p vs.length) (hi:(prog.info? ty).map (·.size)=some vs.length) (h1: ∀u∈vs,u.oneCell'=true):
  (storeVar ty ⟨b,p,none⟩ v).run prog w= .ok () (w.setCells b p vs):=by
 have:=run_storeCells_cells (P:=prog) b p vs 0 w (fun j hj=>by simpa using (ht j hj).1) (fun j hj=>by simpa using (ht j hj).2) h1
 cases hq:prog.info? ty with
 |none=>simp[hq] at hi
 |some i=>
  have hs:v.cells.size=i.size:=by
   have e:v.cells.size=vs.length:=by rw[←hv];simp
   simp[hq] at hi;omega
  simp only[Nat.add_zero] at this
  simp[storeVar,sizeOf,typeInfo,hq,hs,hv,this]
theorem st {E:List Nat} {L:List (Nat×List Value)} {b p:Nat} {cs vs:List Value} {v:Value} {x y:Operand} (i:Nat) (t:TypeId) (hw:Region.wanted o (yielded ops a.tmps)=true) (ho:o.op= .store t x y) (hx:a.eval x= .pointer (some ⟨b,p,none⟩)) (hy:a.eval y=v)
  (hv:v.cells.toList=vs) (h1: ∀u∈vs,u.oneCell'=true) (hi:(prog.info? t).map (·.size)=some vs.length) (hL:Hq w0 w E L) (hg:L[i]? =some (b,cs)) (hp:p+vs.length<=cs.length) (hE:b∈E∨w0.heap.size<=b)
  (h: ∀X,Hq w0 X E (L.set i (b,Dp cs p vs))->Fr w X [b]->X.heap.size=w.heap.size->wpList prog ops Q rest (a.put o.dst undef) X):wpList prog ops Q (o::rest) a w:=by
 refine BigFrame.wpList_want hw fun K hK=> ?_
 have hP:=hK _ _ (h _ (hL.put i hg p vs hp hE) (Fr.setCells w b p vs) (Ew _ _ _))
 unfold Oper.wp execOp
 simp only[ho,hx,hy,Instr.storeAt,Instr.sureAddr,Sem.run_bind,Sem.run_pure,Result.andThen_ok,Gf w b p t v vs hv ((hL.get i hg).there p vs.length hp) hi h1]
 exact hP
end
theorem ZaS (w:World):Calls prog 75 #[] w fun e w'=> ∃T:TT,e= .returned (.pointer (some ⟨T.t,0,none⟩))/\T.Is w'/\T.rows= []/\T.last=0/\(∀b∈T.blocks,w.heap.size<=b)/\Below w.heap.size w w':=by
 have hmm:= @run_makeMap prog
 go_enter func75,ntmps75
 go_wp2
 go_ret
 have hN:=Holds.new (w.alloc (Obj.map #[] 0)) [.map (some w.heap.size), .slice none 0 0, .int .u64 0] 170
 have hM:=MapIs.made w
 have hz:(w.alloc (Obj.map #[] 0)).heap.size=w.heap.size+1:=by simp
 rw[hz] at hN
 have hb:Below w.heap.size w ((w.alloc (Obj.map #[] 0)).alloc (Obj.cells #[Value.map (some w.heap.size),Value.slice none 0 0,Value.int IntKind.u64 0] 170)):=((Below.refl _ _).alloc (Nat.le_refl _) _).alloc (by simp) _
 refine⟨⟨w.heap.size+1,w.heap.size, .slice none 0 0, [],0⟩,rfl,⟨hN, ?_,OwnP.nil _,(fun r hr=>by cases hr),by simp[TT.blocks,Value.ownBlock],by simp,(fun r hr=>by cases hr),by simp[TT.live],(fun r hr=>by simp[TT.live] at hr)⟩,rfl,rfl, ?_,hb⟩
 ·refine MapIs.block (w:=w.alloc (Obj.map #[] 0)) ?_ (Below.heap_alloc _ _ _ (by simp))
  exact hM
 ·intro b hb
  simp[TT.blocks,Value.ownBlock] at hb
  rcases hb with rfl|rfl<;>simp
theorem ZbR {o:Oper} {a:Act} {w:World} {m:Operand} {b n sz:Nat} {F:KK->Option Nat} (ho:o.op= .call {callee:= .builtin .len,args:= #[m],argTypes:= #[167]}) (hm:a.eval m= .map (some b)) (h:MapIs w b n sz F):(execOp a.eval o).run prog w= .ok (.value (.int .i64 sz)) w:=by
 simp[execOp,ho,resolve,invoke,builtin,hm,h.len o.type,Result.andThen]
theorem len30 (T:TT) (w:World) (hT:T.Is w):Calls prog 88 #[.pointer (some ⟨T.t,0,none⟩)] w fun e w'=>e= .returned (.int .i64 T.live.length)/\w'=w:=by
 have HT:=Ab hT
 clear hT
 go_enter func88,ntmps88
 go_wp2_with (first|go_skip|(refine rd rfl (Ai 167 isAgg167 rfl rfl (Aa HT).tab rfl) ?_)|(refine rd rfl (ZbR rfl rfl (Aa HT).map) ?_))
 go_ret
 exact⟨rfl,rfl⟩
theorem TT.live_le (T:TT):T.live.length<=T.rows.length:=List.length_filter_le _ _
theorem ex_lenS {o:Oper} {a:Act} {w:World} {m:Operand} {v:Value} {l:List RR} (ho:o.op= .call {callee:= .builtin .len,args:= #[m],argTypes:= #[168]}) (hm:a.eval m=v) (h:OwnP w v (l.map (·.b))):(execOp a.eval o).run prog w= .ok (.value (.int .i64 (l.length:Nat))) w:=by
 have hv: ∃A c,v= .slice A l.length c:=by
  rcases h.2 with ⟨h1,h2⟩|⟨g,cap,cur,h1,h2⟩
  ·exact⟨none,0,by rw[h1];simp at h2;simp[h2]⟩
  ·exact⟨_,_,by rw[h1];simp;exact⟨rfl,rfl⟩⟩
 obtain⟨A,c,rfl⟩:=hv
 simp[execOp,ho,resolve,invoke,builtin,hm,Builtin.len_,Result.andThen,goInt,underlying168,run_underlying underlying168]
theorem ex_sub {o:Oper} {a:Act} {w:World} {x y:Operand} {m n:Nat} (ho:o.op= .binOp .sub 3 x y 3) (hx:a.eval x= .int .i64 (m:Nat)) (hy:a.eval y= .int .i64 (n:Nat)) (h:n<=m) (hm:m<=4000000):(execOp a.eval o).run prog w= .ok (.value (.int .i64 ((m - n:Nat):Int))) w:=by
 have e:((m - n:Nat):Int)=(m:Int) - (n:Int):=by omega
 rw[e]
 unfold execOp
 simp only[ho,hx,hy]
 have hs:=subI (m:Int) (n:Int) (by omega) (by omega) w
 simp[go_sem,eqGuard,hs,Result.andThen]
 rw[IntKind.wrap_i64]
 omega
theorem gaps38 (T:TT) (w:World) (hT:T.Is w) (hl:T.rows.length<=4000000):Calls prog 212 #[.pointer (some ⟨T.t,0,none⟩)] w fun e w'=>e= .returned (.int .i64 ((T.rows.length - T.live.length:Nat):Int))/\Below w.heap.size w w':=by
 have HT:=Ab hT
 clear hT
 go_enter func212,ntmps212
 go_wp2
 refine wp_region_held_drew (P:=prog) (S:=fun X=>T.Is X) (by kernel_rfl) (Aa HT).drew (fun hS0=> ?_)
 refine y0 0 (some 3) (.pointer (some ⟨T.t,0,none⟩)) rfl hS0 ?_
 refine y0 1 (some 4) (.pointer (some ⟨T.t,0,none⟩)) rfl hS0 ?_
 refine y0 2 (some 5) (.pointer (some ⟨T.t,1,none⟩)) rfl hS0 ?_
 refine y1 3 (some 6) (T.rv) rfl (fun X hX=>Ai 168 isAgg168 rfl rfl (hX.tab) rfl) hS0 ?_
 refine y1 4 (some 7) (.int .i64 (T.rows.length:Nat)) rfl (fun X hX=>ex_lenS rfl rfl hX.own) hS0 ?_
 refine y0 5 (some 8) (.pointer (some ⟨T.t,0,none⟩)) rfl hS0 ?_
 refine y0 6 (some 9) (.pointer (some ⟨T.t,0,none⟩)) rfl hS0 ?_
 refine y0 7 (some 10) (.pointer (some ⟨T.t,0,none⟩)) rfl hS0 ?_
 refine y1 8 (some 11) (.map (some T.m)) rfl (fun X hX=>Ai 167 isAgg167 rfl rfl (hX.tab) rfl) hS0 ?_
 refine y1 9 (some 12) (.int .i64 (T.live.length:Nat)) rfl (fun X hX=>ZbR rfl rfl hX.map) hS0 ?_
 refine y1 10 (some 13) (.int .i64 ((T.rows.length - T.live.length:Nat):Int)) rfl (fun X hX=>ex_sub rfl rfl rfl (by have:=T.live_le;omega) hl) hS0 ?_
 refine y0 11 (some 2) (.int .i64 ((T.rows.length - T.live.length:Nat):Int)) rfl hS0 ?_
 refine wpAnyH_done (by kernel_rfl) ?_ _
 try simp only[nn]
 go_wp2
 go_ret
 exact⟨rfl,(Below.refl _ _).drew⟩
theorem Ly (w:World) (a b:Array Value) (s t:TypeId):Below w.heap.size w ((w.alloc (Obj.cells a s)).alloc (Obj.cells b t)):=((Below.refl _ _).alloc (Nat.le_refl _) _).alloc (by simp) _
theorem Hq.two (w:World) (E:List Nat) (a b:List Value) (s t:TypeId) (ha:0<a.length) (hb:0<b.length):Hq w ((w.alloc (Obj.cells a.toArray s)).alloc (Obj.cells b.toArray t)) E [(w.heap.size,a),(w.heap.size+1,b)]:=by
 have h:=((Hq.nil w E).new a s ha).new b t hb
 rw[show (w.alloc (Obj.cells a.toArray s)).heap.size=w.heap.size+1 by simp] at h
 exact h
def getD (T:TT) (k:KK):DD:=((T.find k).map (·.d)).getD Ap
theorem Gq: ∃d,prog.underlying 42=some d/\d.isRow=true:=⟨_,underlying42,rfl⟩
theorem Qz: ∃d,prog.underlying 53=some d/\d.isRow=true:=⟨_,underlying53,rfl⟩
theorem row58: ∃d,prog.underlying 106=some d/\d.isRow=true:=⟨_,underlying106,rfl⟩
theorem Jk:(prog.info? 42).map (·.size)=some 2:=by kernel_rfl
theorem Mr:(prog.info? 53).map (·.size)=some 18:=by kernel_rfl
theorem siz58:(prog.info? 106).map (·.size)=some 20:=by kernel_rfl
theorem Mn {o:Oper} {a:Act} {w:World} {m x:Operand} {b n sz:Nat} {F:KK->Option Nat} {k:KK} {r:Option Nat} (ho:o.op= .lookup 167 m x true) (hm:a.eval m= .map (some b)) (hx:a.eval x=k.agg) (h:MapIs w b n sz F) (hk:OkK k) (hr:F k=r):(execOp a.eval o).run prog w= .ok (.value (.tuple #[pv r, .bool r.isSome])) w:=by
 subst hr
 simp[execOp,ho,hm,hx,h.look hk,Result.andThen]
theorem ret_ct {fn:Func} {R:Ending->World->Prop} {a:Act} {w:World} {b r q:Nat} {d:DD} {v:Value} {cs:List Value} (hr:fn.results= #[.cell r 53, .tmp q]) (hdf:a.defers= [])
  (hx:a.tmps.getD r undef= .pointer (some ⟨b,0,none⟩)) (hq:a.tmps.getD q undef=v) (hc:Holds w b cs) (hcs:(cs.drop 0).take 18=d.cs) (h:R (.returned (.tuple #[d.agg,v])) w):bodyPost prog fn R .ret a w:=by
 obtain⟨t,hu,hd⟩:=Qz
 have h0:=hc.mid 0 18
 rw[hcs] at h0
 have hl:=run_loadVar_mid (P:=prog) w b 0 53 _ t h0 hu hd Mr
 refine⟨hdf,_, ?_,h⟩
 simp only[Array.getD_eq_getD_getElem?] at hx hq
 unfold results
 simp[hr,hx,hq,hl,asAddr]
 try rfl
theorem Vd (T:TT) (k:KK) (w:World) (hT:T.Is w) (hk:OkK k):Calls prog 76 #[.pointer (some ⟨T.t,0,none⟩),k.agg] w fun e w'=>e= .returned (.tuple #[(getD T k).agg, .bool (T.find k).isSome])/\Below w.heap.size w w':=by
 cases hf:T.find k with
 |none=>
  have HT:=Ab (hT.on (Ly w k.cs.toArray Ap.cs.toArray 42 53))
  have LL:=Ab (Hq.two w [] k.cs Ap.cs 42 53 (Nat.succ_pos _) (Nat.succ_pos _))
  have hB2:Hid (w.heap.size<=w.heap.size+1):=Ab (Nat.le_succ _)
  clear hT
  rw[show k.agg= .agg k.cs.toArray from rfl]
  go_enter func76,ntmps76
  go_wp2
  refine wp_region_held_drew (P:=prog) (S:=fun X=>T.Is X/\Hq w X [] [(w.heap.size,k.cs),(w.heap.size+1,Ap.cs)]) (by kernel_rfl) ⟨(Aa HT).drew,(Aa LL).drew⟩ (fun hS0=> ?_)
  refine y0 0 (some 9) (.pointer (some ⟨T.t,0,none⟩)) rfl hS0 ?_
  refine y0 1 (some 10) (.pointer (some ⟨T.t,0,none⟩)) rfl hS0 ?_
  refine y0 2 (some 11) (.pointer (some ⟨T.t,0,none⟩)) rfl hS0 ?_
  refine y1 3 (some 12) (.map (some T.m)) rfl (fun X hX=>Ai 167 isAgg167 rfl rfl (hX.1.tab) rfl) hS0 ?_
  refine y1 4 (some 13) (k.agg) rfl (fun X hX=>Aj (vs:=k.cs) 42 2 Gq Jk rfl rfl (hX.2.get 0 rfl) rfl rfl) hS0 ?_
  refine y1 5 (some 14) (.tuple #[pv (none), .bool false]) rfl (fun X hX=>Mn (r:=none) rfl rfl rfl hX.1.map hk (by rw[hf];rfl)) hS0 ?_
  refine y0 6 (some 8) (.tuple #[pv (none), .bool false]) rfl hS0 ?_
  refine y0 7 (some 15) (pv (none)) rfl hS0 ?_
  refine y0 9 (some 6) (pv (none)) rfl hS0 ?_
  refine y0 8 (some 16) (.bool false) rfl hS0 ?_
  refine y0 10 (some 7) (.bool false) rfl hS0 ?_
  refine wpAnyH_done (by kernel_rfl) ?_ _
  try simp only[nn]
  replace HT:=Ab hS0.1
  replace LL:=Ab hS0.2
  clear hS0
  unfold pv
  go_wp2_with (first|go_skip|((refine st (vs:=Ap.cs) 1 53 (by rfl) rfl rfl rfl rfl (by simp[Ap,Be,DD.cs,VV.cs,Value.oneCell']) Mr (Aa LL) rfl (by simp[Pa]) (Or.inr (Aa hB2)) ?_);intro w3 L3 hf3 hs3;replace LL:=Ab L3;clear L3 hf3 hs3;simp only[nn]))
  refine ret_ct (d:=Ap) (r:=4) (q:=5) (b:=w.heap.size+1) rfl rfl rfl rfl ((Aa LL).get 1 rfl) rfl ⟨?_,(Aa LL).fr.below⟩
  unfold getD
  rw[hf]
  rfl
 |some r=>
  have HT:=Ab (hT.on (Ly w k.cs.toArray Ap.cs.toArray 42 53))
  have LL:=Ab (Hq.two w [] k.cs Ap.cs 42 53 (Nat.succ_pos _) (Nat.succ_pos _))
  have hB2:Hid (w.heap.size<=w.heap.size+1):=Ab (Nat.le_succ _)
  clear hT
  rw[show k.agg= .agg k.cs.toArray from rfl]
  go_enter func76,ntmps76
  go_wp2
  refine wp_region_held_drew (P:=prog) (S:=fun X=>T.Is X/\Hq w X [] [(w.heap.size,k.cs),(w.heap.size+1,Ap.cs)]) (by kernel_rfl) ⟨(Aa HT).drew,(Aa LL).drew⟩ (fun hS0=> ?_)
  refine y0 0 (some 9) (.pointer (some ⟨T.t,0,none⟩)) rfl hS0 ?_
  refine y0 1 (some 10) (.pointer (some ⟨T.t,0,none⟩)) rfl hS0 ?_
  refine y0 2 (some 11) (.pointer (some ⟨T.t,0,none⟩)) rfl hS0 ?_
  refine y1 3 (some 12) (.map (some T.m)) rfl (fun X hX=>Ai 167 isAgg167 rfl rfl (hX.1.tab) rfl) hS0 ?_
  refine y1 4 (some 13) (k.agg) rfl (fun X hX=>Aj (vs:=k.cs) 42 2 Gq Jk rfl rfl (hX.2.get 0 rfl) rfl rfl) hS0 ?_
  refine y1 5 (some 14) (.tuple #[pv (some r.b), .bool true]) rfl (fun X hX=>Mn (r:=some r.b) rfl rfl rfl hX.1.map hk (by rw[hf];rfl)) hS0 ?_
  refine y0 6 (some 8) (.tuple #[pv (some r.b), .bool true]) rfl hS0 ?_
  refine y0 7 (some 15) (pv (some r.b)) rfl hS0 ?_
  refine y0 9 (some 6) (pv (some r.b)) rfl hS0 ?_
  refine y0 8 (some 16) (.bool true) rfl hS0 ?_
  refine y0 10 (some 7) (.bool true) rfl hS0 ?_
  refine wpAnyH_done (by kernel_rfl) ?_ _
  try simp only[nn]
  replace HT:=Ab hS0.1
  replace LL:=Ab hS0.2
  clear hS0
  have HR:=Ab ((Aa HT).rows r (T.find_mem hf).1)
  unfold pv
  go_wp2_with (first|go_skip|(refine rd rfl (Aj (vs:=r.d.cs) 53 18 Qz Mr rfl rfl (Aa HR) rfl rfl) ?_)|((refine st (vs:=r.d.cs) 1 53 (by rfl) rfl rfl rfl rfl (by simp[DD.cs,VV.cs,Value.oneCell']) Mr (Aa LL) rfl (by simp[Pa]) (Or.inr (Aa hB2)) ?_);intro w3 L3 hf3 hs3;replace LL:=Ab L3;clear L3 hf3 hs3;simp only[nn]))
  refine ret_ct (d:=r.d) (r:=4) (q:=5) (b:=w.heap.size+1) rfl rfl rfl rfl ((Aa LL).get 1 rfl) rfl ⟨?_,(Aa LL).fr.below⟩
  unfold getD
  rw[hf]
  rfl
end
section
open Go Go.Proofs Go.RowKit
theorem all_take {l:List KK} {j:Nat} (h:j<l.length):(l.take (j+1)).all goodK=((l.take j).all goodK && goodK l[j]):=by
 rw[List.take_succ_eq_append_getElem h,List.all_append]
 simp
theorem all_not {l:List KK} {j:Nat} (h:j<l.length) (hg:goodK l[j]=false):l.all goodK=false:=by
 rw[List.all_eq_false]
 exact⟨l[j],List.getElem_mem h,by rw[hg];decide⟩
theorem small72 (u:Nat) (h:u<100) (w:World):Calls Tryz.prog 64 #[.int .u64 (u:Nat), .int .i64 10] w fun e w'=>e= .returned (.string ⟨(Lib.decDigits u).toArray⟩)/\w'=w:=by
 have z:(u:Int)<100:=by omega
 have HS:=Ab (fun w=>Tryz.internal_strconv_small u h w)
 generalize Lib.decDigits u=d at *
 go_enter Tryz.func64,Tryz.ntmps64
 go_wp2_with fail
 refine(Aa HS _).mono ?_
 rintro e w1 ⟨rfl,rfl⟩
 go_wp2
 go_ret
 exact⟨rfl,rfl⟩
end
section
open Go Go.Proofs Go.RowKit Go.Sort Tryz
def TabP (w : World) : Prop := Lib.TabIs prog w "internal/strconv.uint64pow10" .u64 Lib.pow10Tab
theorem TabP.on {w w':World} (h:TabP w) (hb:Below w.heap.size w w'):TabP w':=by
 unfold TabP Lib.TabIs World.var? at *
 cases hg : prog.globalNamed "internal/strconv.uint64pow10" with
 |none=>simp[hg] at h
 |some g=>
  simp only[hg,Option.bind_some] at h ⊢
  have hlt:g<w.heap.size:=by
   rcases Nat.lt_or_ge g w.heap.size with h'|h'
   ·exact h'
   ·rw[Array.getElem?_eq_none h'] at h;simp at h
  rw[hb.block g hlt]
  exact h
theorem holds0 (w:World) (T:TypeId) (nd:Nat) (hs:nd<=24):Sort.Holds (fun (b:UInt8)=>Value.int .u8 (b.toNat:Int)) (w.alloc (.cells Lib.zeros24 T)) w.heap.size 0 (Array.replicate nd (0:UInt8)):=fun j hj=>by
 have hj':j<nd:=by simpa using hj
 refine⟨?_,World.frozen?_alloc_new _ _ _ _⟩
 rw[World.cell?_alloc_new,Lib.zeros24_at _ (by omega),getElem!_pos _ j hj]
 simp
theorem fin0 (w:World) (o:Obj) (dk:Array UInt8) (k:Nat): ∃os,(Sort.putRow (fun (b:UInt8)=>Value.int .u8 (b.toNat:Int)) (w.alloc o) w.heap.size 0 dk).drewN k=Sort.grow (w.drewN k) os:=by
 rw[Sort.alloc_eq_grow]
 obtain⟨os',_,e⟩:=Sort.putRow_grow_new (fun (b:UInt8)=>Value.int .u8 (b.toNat:Int)) w #[o] w.heap.size 0 dk (Nat.le_refl _)
 exact⟨os',by rw[e];rfl⟩
theorem fmt72 (u:Nat) (h100:100<=u) (hu64:u<18446744073709551616) (w:World) (htab:TabP w):Calls prog 64 #[.int .u64 (u:Nat), .int .i64 10] w fun e w'=>e= .returned (.string ⟨(Lib.decDigits u).toArray⟩)/\Below w.heap.size w w':=by
 have z: ¬(u:Int)<100:=by omega
 have hu1:1<=u:=by omega
 have hnd20:Lib.nDigits u<=20:=by have:=Lib.numDigits_eq u hu1 hu64;split at this<;>omega
 have hal:prog.arrayLen 153=24:=by kernel_rfl
 have hsl: ∀W,(Instr.sliceAt 153 (.pointer (some ⟨w.heap.size,0,none⟩)) none (some (.int .i64 (Lib.nDigits u:Int))) none).run prog W= .ok (.slice (some ⟨w.heap.size,0,none⟩) (Lib.nDigits u) 24) W:=fun W=>by
  rw[run_sliceAt_array_h W 153 ⟨w.heap.size,0,none⟩ (by kernel_rfl) .i64 (Lib.nDigits u:Int) (by omega) (by rw[hal];omega)]
  go_simp
 have hH0:=holds0 w 153 (Lib.nDigits u) (by omega)
 have hfmt:=Tryz.internal_strconv_formatBase10 w.heap.size 0 24 u (Array.replicate (Lib.nDigits u) 0) (w.alloc (.cells Lib.zeros24 153)) hH0 (by rw[Array.size_replicate];exact Lib.lt_pow_nDigits u) hu64 (by rw[Array.size_replicate];omega)
 rw[Array.size_replicate] at hfmt
 have HH0:=Ab hH0
 have HF0:=Ab hfmt
 have HT:=Ab htab
 clear hH0 hal htab hfmt
 go_enter func64,ntmps64
 go_wp2_with fail
 refine(Tryz.internal_strconv_numDigits u hu1 hu64 _ (Lib.tabIs_alloc (Aa HT) _)).mono ?_
 rintro e w' ⟨rfl,rfl⟩
 go_wp2_with fail
 refine(Aa HF0).mono ?_
 rintro e w' ⟨rfl,k,v',dk,rfl,hF⟩
 have hcv:(convert 156 9 (.slice (some ⟨w.heap.size,0,none⟩) (Lib.nDigits u) 24)).run prog ((putRow (fun (b:UInt8)=>Value.int .u8 (b.toNat:Int)) (w.alloc (.cells Lib.zeros24 153)) w.heap.size 0 dk).drewN k)= .ok (.string ⟨(Lib.decDigits u).toArray⟩) ((putRow (fun (b:UInt8)=>Value.int .u8 (b.toNat:Int)) (w.alloc (.cells Lib.zeros24 153)) w.heap.size 0 dk).drewN k):=by
  have h:=run_convert_bytes_back (P:=prog) ((putRow (fun (b:UInt8)=>Value.int .u8 (b.toNat:Int)) (w.alloc (.cells Lib.zeros24 153)) w.heap.size 0 dk).drewN k) 156 9 5 ⟨w.heap.size,0,none⟩ 24 (Lib.decDigits u) underlying156 underlying5 underlying9 (fun j hj=>by
   rw[Lib.row_is_numeral hF j hj,Lib.add_plain,World.cell?_drewN]
   exact cell?_putRow (fun (b:UInt8)=>Value.int .u8 (b.toNat:Int)) _ w.heap.size 0 _ dk (Aa HH0) (by rw[hF.size,Array.size_replicate]) j (by rw[hF.size];rw[Lib.decDigits_length] at hj;exact hj))
  rw[Lib.decDigits_length] at h
  exact h
 go_wp2
 go_ret
 obtain⟨os,eo⟩:=fin0 w (.cells Lib.zeros24 153) dk k
 refine⟨rfl, ?_⟩
 rw[eo]
 exact Lib.below_grow _ _ (Nat.le_refl _) _ _

def Mg (u:Nat):ByteArray:=⟨(Lib.decDigits u).toArray⟩
theorem fmt46 (u:Nat) (hu:u<18446744073709551616) (w:World) (htab:TabP w):Calls prog 40 #[.int .u64 (u:Nat), .int .i64 10] w fun e w'=>e= .returned (.string (Mg u))/\Below w.heap.size w w':=by
 have H72:Hid (∀w,TabP w->Calls prog 64 #[.int .u64 (u:Nat), .int .i64 10] w fun e w'=>e= .returned (.string (Mg u))/\Below w.heap.size w w'):=Ab (fun w hT=>by
  by_cases h:u<100
  ·exact(small72 u h w).mono (fun e w' h=>⟨h.1,h.2▸Below.refl _ _⟩)
  ·exact fmt72 u (by omega) hu w hT)
 have HT:=Ab htab
 clear htab
 generalize Mg u=s at *
 go_enter func40,ntmps40
 go_wp2_with fail
 refine(Aa H72 _ (Aa HT)).mono ?_
 rintro _ w1 ⟨rfl,hb⟩
 go_wp2
 go_ret
 exact⟨rfl,hb⟩
