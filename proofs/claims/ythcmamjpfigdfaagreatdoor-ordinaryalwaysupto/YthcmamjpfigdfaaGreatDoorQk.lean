import Derived.Test.YthcmamjpfigdfaaGreatDoorQj
import Derived.Test.YthcmamjpfigdfaaGreatDoorQi
import Derived.Test.YthcmamjpfigdfaaGreatDoorQf
import Derived.Laws.OwnMore
import Derived.Laws.MakeOwn
set_option linter.all false
namespace Go.Proofs.YthcmamjpfigdfaaGreatDoor
set_option maxRecDepth 100000
set_option maxHeartbeats 0
section
open Go Go.Proofs Go.RowKit
def dgF (most:Nat):List Nat->Nat->Option Nat
 | [],n=>some n
 |c::r,n=>if c<48∨57<c then none else if most<n * 10+(c - 48) then none else dgF most r (n * 10+(c - 48))
def dgV (most:Nat) (l:List Nat):Option Nat:=
 match l with
 | []=>none
 |c::r=>if c=48/\r≠ [] then none else dgF most (c::r) 0
theorem dgF_le (most:Nat): ∀(l:List Nat) (n m:Nat),n<=most->dgF most l n=some m->m<=most
 | [],n,m,h,e=>by simp[dgF] at e;omega
 |c::r,n,m,h,e=>by
  unfold dgF at e
  split at e
  ·cases e
  ·split at e
   ·cases e
   ·exact dgF_le most r _ m (by omega) e
theorem dgV_le (most:Nat) (l:List Nat) (m:Nat) (e:dgV most l=some m):m<=most:=by
 unfold dgV at e
 split at e
 ·cases e
 ·split at e
  ·cases e
  ·exact dgF_le most _ 0 m (Nat.zero_le _) e
theorem Zcp (s:ByteArray) (i:Nat) (h:i<s.size):s.get! i=s[i]'h:=by
 cases s with
 |mk d=>exact getElem!_pos d i h
theorem Zdv (most:Nat) (s:ByteArray) (i n:Nat) (h:i<s.size):
  dgF most ((Ds s).drop i) n=if (s.get! i).toNat<48∨57<(s.get! i).toNat then none else if most<n * 10+((s.get! i).toNat - 48) then none else dgF most ((Ds s).drop (i+1)) (n * 10+((s.get! i).toNat - 48)):=by
 have hl:i<(Ds s).length:=by rw[Gy];exact h
 have hg:(s.get! i).toNat=(Ds s)[i]:=by
  rw[ZaH,List.getD_eq_getElem?_getD,List.getElem?_eq_getElem hl];rfl
 rw[hg,List.drop_eq_getElem_cons hl,dgF]
theorem ZfF (most:Nat) (s:ByteArray) (i n:Nat) (h:s.size<=i):dgF most ((Ds s).drop i) n=some n:=by
 rw[List.drop_eq_nil_of_le (by rw[Gy];exact h),dgF]
theorem dgV_nil (most:Nat) (s:ByteArray) (h:s.size=0):dgV most (Ds s)=none:=by
 have:Ds s= []:=by rw[←List.length_eq_zero_iff,Gy];exact h
 rw[this,dgV]
theorem dgV_cons (most:Nat) (s:ByteArray) (h:0<s.size):dgV most (Ds s)=if (s.get! 0).toNat=48/\1<s.size then none else dgF most ((Ds s).drop 0) 0:=by
 have hg:=ZaH s 0
 have hl:=Gy s
 cases hn:Ds s with
 |nil=>rw[hn] at hl;simp at hl;omega
 |cons c r=>
  rw[hn] at hg hl
  simp only[List.getD_cons_zero,List.length_cons] at hg hl
  rw[hg,dgV,List.drop_zero]
  have:(r≠ [])↔1<s.size:=by
   rw[←hl,←List.length_pos_iff];omega
  simp only[this]
theorem Ze9 (s:ByteArray) (hp:0<s.size) (h:((s[0]'hp).toNat:Int)=48):(s.toList== [48])=decide (s.size=1):=by
 have hl:s.toList.length=s.size:=by rw[Lib.toList_data];rfl
 have h0:s.toList[0]? =some 48:=by
  rw[Lib.toList_data,Array.getElem?_toList,Array.getElem?_eq_getElem (h:=hp)]
  congr 1
  exact UInt8.toNat_inj.1 (by show (s[0]'hp).toNat=48;omega)
 rw[←hl]
 cases e:s.toList with
 |nil=>rw[e] at h0;cases h0
 |cons c r=>
  rw[e] at h0
  simp only[List.getElem?_cons_zero,Option.some.injEq] at h0
  subst h0
  cases r<;>simp
theorem upTo49 (s:ByteArray) (most:Nat) (hs:s.size<4611686018427387904) (hm:most<=9007199254740991) (w:World):Calls Tryz.prog 233 #[.int .i64 (most:Nat), .string s] w fun e w'=>e= .returned (.tuple #[.int .i64 ((dgV most (Ds s)).getD 0:Nat), .bool (dgV most (Ds s)).isSome])/\w'=w:=by
 have hE:(s.toList.isEmpty=true)↔s.size=0:=by
  rw[ByteArray.size,←Array.length_toList,List.length_eq_zero_iff]
  simp[Lib.toList_data]
 go_enter Tryz.func233,Tryz.ntmps233
 by_cases h0:s.size=0
 ·have hv:=dgV_nil most s h0
  have he:=hE.2 h0
  have hz:(s.size:Int)=0:=by omega
  clear hE
  go_wp2
  go_ret2
  exact⟨by rw[hv];rfl,rfl⟩
 ·have hp:0<s.size:=by omega
  have hv:=dgV_cons most s hp
  have he:s.toList.isEmpty=false:=by
   cases h:s.toList.isEmpty
   ·rfl
   ·exact absurd (hE.1 h) h0
  clear hE
  have z0:(0:Int)<s.size:=by omega
  by_cases hz:(s.get! 0).toNat=48/\1<s.size
  ·rw[if_pos hz] at hv
   obtain⟨hz1,hz2⟩:=hz
   have z1:(1:Int)<s.size:=by omega
   have z2:((s[0]'hp).toNat:Int)=48:=by rw[←Zcp s 0 hp];omega
   clear hz1
   have q1:(s.toList== [48])=false:=by rw[Ze9 s hp z2];exact decide_eq_false (by omega)
   go_wp2
   go_ret2
   exact⟨by rw[hv];rfl,rfl⟩
  ·rw[if_neg hz] at hv
   have HV:=Ab hv
   clear hv
   have hc3:(¬((s[0]'hp).toNat:Int)=48)∨(¬1<s.size/\((s[0]'hp).toNat:Int)=48):=by
    rw[←Zcp s 0 hp];omega
   clear hz
   rcases hc3 with z2|⟨h1,z2⟩
   ·have h1:=trivial
    have q1:=trivial
    have z1:=trivial
    go_wp2_with fail
    go_loopg [6,21] (s.size+1) (fun g s6 s21 wr=> ∃(n i:Nat),s6= .int .i64 n/\s21= .int .i64 i/\i<=s.size/\s.size - i<g/\n<=most/\wr=w/\Hid (dgV most (Ds s)=dgF most ((Ds s).drop i) n))
    case atStart=>exact⟨0,0,rfl,rfl,Nat.zero_le _,by omega,Nat.zero_le _,rfl,HV⟩
    case round=>
     obtain⟨n,i,rfl,rfl,hi,hg,hn,rfl,hR⟩:=hrel
     clear z0 z1 z2 h1 q1
     by_cases hil:i<s.size
     ·have hst:=Zdv most s i n hil
      rw[Zcp s i hil] at hst
      have y0:(i:Int)<s.size:=by omega
      have hcl:=(s[i]'hil).toNat_lt
      by_cases hc1:(s[i]'hil).toNat<48
      ·rw[if_pos (Or.inl hc1)] at hst
       have HS:=Ab hst
       have y1:((s[i]'hil).toNat:Int)<48:=by omega
       clear hst hc1
       go_wp2
       go_ret2
       exact⟨by rw[Aa hR,Aa HS];rfl,rfl⟩
      ·have y1: ¬((s[i]'hil).toNat:Int)<48:=by omega
       by_cases hc2:57<(s[i]'hil).toNat
       ·rw[if_pos (Or.inr hc2)] at hst
        have HS:=Ab hst
        have y2:(57:Int)<((s[i]'hil).toNat:Int):=by omega
        clear hst hc1 hc2
        go_wp2
        go_ret2
        exact⟨by rw[Aa hR,Aa HS];rfl,rfl⟩
       ·rw[if_neg (by omega)] at hst
        have y2: ¬(57:Int)<((s[i]'hil).toNat:Int):=by omega
        obtain⟨m,hm1⟩: ∃m,m=n * 10+((s[i]'hil).toNat - 48):=⟨_,rfl⟩
        rw[←hm1] at hst
        have y3:IntKind.u8.wrap (((s[i]'hil).toNat:Int) - 48)=(((s[i]'hil).toNat - 48:Nat):Int):=by
         simp[IntKind.wrap,IntKind.bits,IntKind.signed];omega
        have y4:IntKind.i64.wrap (((s[i]'hil).toNat - 48:Nat):Int)=(((s[i]'hil).toNat - 48:Nat):Int):=by
         rw[IntKind.wrap_i64];omega
        have y5:IntKind.i64.wrap (10 * (n:Int))=((10 * n:Nat):Int):=by
         rw[IntKind.wrap_i64];omega
        have y6:IntKind.i64.wrap (((10 * n:Nat):Int)+(((s[i]'hil).toNat - 48:Nat):Int))=(m:Int):=by
         rw[IntKind.wrap_i64];omega
        have y7:IntKind.i64.wrap ((i:Int)+1)=((i+1:Nat):Int):=by rw[IntKind.wrap_i64];omega
        by_cases hmm:most<m
        ·rw[if_pos hmm] at hst
         have HS:=Ab hst
         have y8:(most:Int)<m:=by omega
         clear hst hc1 hc2
         go_wp2
         go_ret2
         exact⟨by rw[Aa hR,Aa HS];rfl,rfl⟩
        ·rw[if_neg hmm] at hst
         have HS:=Ab hst
         have y8: ¬(most:Int)<m:=by omega
         clear hst hc1 hc2
         go_wp2
         go_roundg (s.size - i)
         case measure=>omega
         case rel=>exact⟨m,i+1,by congr 1;omega,by go_num,by omega,by omega,by omega,rfl,Ab (by rw[Aa hR,Aa HS])⟩
     ·have hst:=ZfF most s i n (by omega)
      have HS:=Ab hst
      have y0: ¬(i:Int)<s.size:=by omega
      clear hst
      go_wp2
      go_ret2
      exact⟨by rw[Aa hR,Aa HS];rfl,rfl⟩
   ·have q1:(s.toList== [48])=true:=by rw[Ze9 s hp z2];exact decide_eq_true (by omega)
    have z1:=trivial
    go_wp2_with fail
    go_loopg [6,21] (s.size+1) (fun g s6 s21 wr=> ∃(n i:Nat),s6= .int .i64 n/\s21= .int .i64 i/\i<=s.size/\s.size - i<g/\n<=most/\wr=w/\Hid (dgV most (Ds s)=dgF most ((Ds s).drop i) n))
    case atStart=>exact⟨0,0,rfl,rfl,Nat.zero_le _,by omega,Nat.zero_le _,rfl,HV⟩
    case round=>
     obtain⟨n,i,rfl,rfl,hi,hg,hn,rfl,hR⟩:=hrel
     clear z0 z1 z2 h1 q1
     by_cases hil:i<s.size
     ·have hst:=Zdv most s i n hil
      rw[Zcp s i hil] at hst
      have y0:(i:Int)<s.size:=by omega
      have hcl:=(s[i]'hil).toNat_lt
      by_cases hc1:(s[i]'hil).toNat<48
      ·rw[if_pos (Or.inl hc1)] at hst
       have HS:=Ab hst
       have y1:((s[i]'hil).toNat:Int)<48:=by omega
       clear hst hc1
       go_wp2
       go_ret2
       exact⟨by rw[Aa hR,Aa HS];rfl,rfl⟩
      ·have y1: ¬((s[i]'hil).toNat:Int)<48:=by omega
       by_cases hc2:57<(s[i]'hil).toNat
       ·rw[if_pos (Or.inr hc2)] at hst
        have HS:=Ab hst
        have y2:(57:Int)<((s[i]'hil).toNat:Int):=by omega
        clear hst hc1 hc2
        go_wp2
        go_ret2
        exact⟨by rw[Aa hR,Aa HS];rfl,rfl⟩
       ·rw[if_neg (by omega)] at hst
        have y2: ¬(57:Int)<((s[i]'hil).toNat:Int):=by omega
        obtain⟨m,hm1⟩: ∃m,m=n * 10+((s[i]'hil).toNat - 48):=⟨_,rfl⟩
        rw[←hm1] at hst
        have y3:IntKind.u8.wrap (((s[i]'hil).toNat:Int) - 48)=(((s[i]'hil).toNat - 48:Nat):Int):=by
         simp[IntKind.wrap,IntKind.bits,IntKind.signed];omega
        have y4:IntKind.i64.wrap (((s[i]'hil).toNat - 48:Nat):Int)=(((s[i]'hil).toNat - 48:Nat):Int):=by
         rw[IntKind.wrap_i64];omega
        have y5:IntKind.i64.wrap (10 * (n:Int))=((10 * n:Nat):Int):=by
         rw[IntKind.wrap_i64];omega
        have y6:IntKind.i64.wrap (((10 * n:Nat):Int)+(((s[i]'hil).toNat - 48:Nat):Int))=(m:Int):=by
         rw[IntKind.wrap_i64];omega
        have y7:IntKind.i64.wrap ((i:Int)+1)=((i+1:Nat):Int):=by rw[IntKind.wrap_i64];omega
        by_cases hmm:most<m
        ·rw[if_pos hmm] at hst
         have HS:=Ab hst
         have y8:(most:Int)<m:=by omega
         clear hst hc1 hc2
         go_wp2
         go_ret2
         exact⟨by rw[Aa hR,Aa HS];rfl,rfl⟩
        ·rw[if_neg hmm] at hst
         have HS:=Ab hst
         have y8: ¬(most:Int)<m:=by omega
         clear hst hc1 hc2
         go_wp2
         go_roundg (s.size - i)
         case measure=>omega
         case rel=>exact⟨m,i+1,by congr 1;omega,by go_num,by omega,by omega,by omega,rfl,Ab (by rw[Aa hR,Aa HS])⟩
     ·have hst:=ZfF most s i n (by omega)
      have HS:=Ab hst
      have y0: ¬(i:Int)<s.size:=by omega
      clear hst
      go_wp2
      go_ret2
      exact⟨by rw[Aa hR,Aa HS];rfl,rfl⟩
end
section
open Go Go.Proofs Go.RowKit Tryz
def Pw (l:List Nat):Option Nat:=dgV 4294967294 l
theorem Zfm (l:List Nat) (m:Nat) (h:Pw l=some m):m<=4294967294:=dgV_le _ _ _ h
theorem index34 (s:ByteArray) (hs:s.size<4611686018427387904) (w:World):Calls prog 229 #[.string s] w fun e w'=>e= .returned (.tuple #[.int .u32 ((Pw (Ds s)).getD 0:Nat), .bool (Pw (Ds s)).isSome])/\w'=w:=by
 have HC:=Ab (upTo49 s 4294967294 hs (by omega) w)
 have z1:IntKind.u32.wrap ((Pw (Ds s)).getD 0:Nat)=((Pw (Ds s)).getD 0:Nat):=by
  have:(Pw (Ds s)).getD 0<=4294967294:=by
   cases h:Pw (Ds s) with
   |none=>simp
   |some m=>exact Zfm _ _ h
  simp[IntKind.wrap,IntKind.bits,IntKind.signed];omega
 change Hid (Calls prog 233 #[.int .i64 4294967294, .string s] w fun e w'=>e= .returned (.tuple #[.int .i64 ((Pw (Ds s)).getD 0:Nat), .bool (Pw (Ds s)).isSome])/\w'=w) at HC
 generalize (Pw (Ds s)).getD 0=m at *
 generalize (Pw (Ds s)).isSome=b at *
 go_enter func229,ntmps229
 go_wp2_with fail
 refine(Aa HC).mono ?_
 rintro e w' ⟨rfl,rfl⟩
 go_wp2
 go_ret2
 exact⟨rfl,rfl⟩
theorem Gu (w:World) (o:Obj):Below w.heap.size w (w.alloc o):=(Below.refl _ _).alloc (Nat.le_refl _) _
def Zj (s:ByteArray) (n:Int):Value:= .agg #[.string s, .int .i64 n]
def Zba (s:ByteArray) (n:Int):Int:=if n=0 then (if (Pw (Ds s)).isSome then 0 else 1) else 2
def Zcg (s:ByteArray) (n:Int):Nat:=if n=0 then ((Pw (Ds s)).getD 0) else 0
theorem kindOf22 (s:ByteArray) (n:Int) (hs:s.size<4611686018427387904) (w:World):Calls prog 225 #[Zj s n] w fun e w'=>e= .returned (.tuple #[.int .i64 (Zba s n), .int .u32 (Zcg s n:Nat)])/\Below w.heap.size w w':=by
 have HC:=Ab (index34 s hs)
 unfold Zj
 by_cases hn:n=0
 ·subst hn
  have e1:Zba s 0=if (Pw (Ds s)).isSome then 0 else 1:=by unfold Zba;rw[if_pos rfl]
  have e2:Zcg s 0=(Pw (Ds s)).getD 0:=by unfold Zcg;rw[if_pos rfl]
  rw[e1,e2]
  clear e1 e2
  generalize Pw (Ds s)=o at *
  go_enter func225,ntmps225
  go_wp2_with fail
  refine(Aa HC _).mono ?_
  rintro e w' ⟨rfl,rfl⟩
  cases o with
  |none=>
   go_wp2
   go_ret2
   exact⟨rfl,Gu _ _⟩
  |some m=>
   go_wp2
   go_ret2
   exact⟨rfl,Gu _ _⟩
 ·have e1:Zba s n=2:=by unfold Zba;rw[if_neg hn]
  have e2:Zcg s n=0:=by unfold Zcg;rw[if_neg hn]
  rw[e1,e2]
  go_enter func225,ntmps225
  go_wp2
  go_ret2
  exact⟨rfl,Gu _ _⟩
theorem Oy (P:Program) (w:World) (a:Addr) (m:Mode) (k:FloatKind) (x:Nat):(store a (.float k x) m).run P w=stored P w a (.float k x) m:=run_store P w a _ m rfl
attribute [local go_sem] Jk Oy
def Mn (s:ByteArray) (n:Int):VV:=if n=0 then ⟨5,false,0,s,0⟩ else ⟨6,false,0,s,n⟩
theorem Zch (w:World) (o1 o2:Obj):Below w.heap.size w ((w.alloc o1).alloc o2):=((Below.refl _ _).alloc (Nat.le_refl _) _).alloc (by simp) _
theorem ZbI (s:ByteArray) (n:Int) (w:World):Calls prog 91 #[Zj s n] w fun e w'=>e= .returned (Mn s n).agg/\Below w.heap.size w w':=by
 unfold Zj
 by_cases hn:n=0
 ·subst hn
  have e1:Mn s 0=⟨5,false,0,s,0⟩:=by unfold Mn;rw[if_pos rfl]
  rw[e1]
  unfold VV.agg
  go_enter func91,ntmps91
  go_wp2
  simp[bodyPost,results,Tryz.results91,go_sem]
  exact Zch ..
 ·have e1:Mn s n=⟨6,false,0,s,n⟩:=by unfold Mn;rw[if_neg hn]
  rw[e1]
  unfold VV.agg
  go_enter func91,ntmps91
  go_wp2
  simp[bodyPost,results,Tryz.results91,go_sem]
  exact Zch ..
theorem vcheck20 (v:VV) (w:World) (hT:Lib.Utf8Tabs 1 2 w):Calls prog 90 #[v.agg] w fun e w'=>e= .returned (.int .i64 (if v.good then 0 else 5))/\Below w.heap.size w w':=by
 have HI:=Ab (fun w (hT:Lib.Utf8Tabs 1 2 w)=>Oi v.k v.b v.x v.s v.i w hT)
 have HT:=Ab hT
 unfold VV.agg VV.good
 generalize Mg v.k v.b v.x v.s v.i=g at *
 clear hT
 go_enter func90,ntmps90
 go_wp2_with fail
 refine(Aa HI _ (Aj (Aa HT) (Gu _ _))).mono ?_
 rintro e w1 ⟨rfl,hb⟩
 have HB:=Ab (((Gu w _).trans (hb.mono (by simp))))
 clear hb
 cases g
 ·go_wp2
  go_ret
  exact⟨rfl,Aa HB⟩
 ·go_wp2
  go_ret
  exact⟨rfl,Aa HB⟩
theorem Zac (s:ByteArray) (n:Int) (w:World) (hT:Lib.Utf8Tabs 1 2 w):Calls prog 38 #[Zj s n] w fun e w'=>e= .returned (.int .i64 (if (Mn s n).good then 0 else 5))/\Below w.heap.size w w':=by
 have HA:=Ab (fun w=>ZbI s n w)
 have HI:=Ab (fun w (hT:Lib.Utf8Tabs 1 2 w)=>vcheck20 (Mn s n) w hT)
 have HT:=Ab hT
 unfold Zj at *
 generalize (Mn s n).agg=v at *
 generalize (if (Mn s n).good then (0:Int) else 5)=g at *
 clear hT
 go_enter func38,ntmps38
 go_wp2_with fail
 refine(Aa HA _).mono ?_
 rintro e w1 ⟨rfl,hb⟩
 have HB:=Ab (((Gu w _).trans (hb.mono (by simp))))
 clear hb
 go_wp2_with fail
 refine(Aa HI _ (Aj (Aa HT) (Aa HB))).mono ?_
 rintro e w2 ⟨rfl,hb2⟩
 have HB2:=Ab ((Aa HB).trans (hb2.mono (Aa HB).size))
 clear hb2
 go_wp2
 go_ret
 exact⟨rfl,Aa HB2⟩
