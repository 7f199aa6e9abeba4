import Derived.Test.YthcmamjpfigdfaaGreatDoorQj
import Derived.Test.YthcmamjpfigdfaaGreatDoorQi
import Derived.Test.YthcmamjpfigdfaaGreatDoorQf
import Derived.Laws.OwnMore
import Derived.Laws.MakeOwn
set_option linter.all false
namespace Go.Proofs.YthcmamjpfigdfaaGreatDoor
set_option maxRecDepth 100000
set_option maxHeartbeats 0
section
open Go Go.Proofs Go.RowKit
def dgF (most:Nat):List Nat->Nat->Option Nat
 | [],n=>some n
 |c::r,n=>if c<48∨57<c then none else if most<n * 10+(c - 48) then none else dgF most r (n * 10+(c - 48))
def dgV (most:Nat) (l:List Nat):Option Nat:=
 match l with
 | []=>none
 |c::r=>if c=48/\r≠ [] then none else dgF most (c::r) 0
theorem dgF_le (most:Nat): ∀(l:List Nat) (n m:Nat),n<=most->dgF most l n=some m->m<=most
 | [],n,m,h,e=>by simp[dgF] at e;omega
 |c::r,n,m,h,e=>by
  unfold dgF at e
  split at e
  ·cases e
  ·split at e
   ·cases e
   ·exact dgF_le most r _ m (by omega) e
theorem dgV_le (most:Nat) (l:List Nat) (m:Nat) (e:dgV most l=some m):m<=most:=by
 unfold dgV at e
 split at e
 ·cases e
 ·split at e
  ·cases e
  ·exact dgF_le most _ 0 m (Nat.zero_le _) e
theorem Zcv (s:ByteArray) (i:Nat) (h:i<s.size):s.get! i=s[i]'h:=by
 cases s with
 |mk d=>exact getElem!_pos d i h
theorem ZdC (most:Nat) (s:ByteArray) (i n:Nat) (h:i<s.size):
  dgF most ((Dq s).drop i) n=if (s.get! i).toNat<48∨57<(s.get! i).toNat then none else if most<n * 10+((s.get! i).toNat - 48) then none else dgF most ((Dq s).drop (i+1)) (n * 10+((s.get! i).toNat - 48)):=by
 have hl:i<(Dq s).length:=by rw[Jc];exact h
 have hg:(s.get! i).toNat=(Dq s)[i]:=by
  rw[ZaI,List.getD_eq_getElem?_getD,List.getElem?_eq_getElem hl];rfl
 rw[hg,List.drop_eq_getElem_cons hl,dgF]
theorem ZfA (most:Nat) (s:ByteArray) (i n:Nat)  (h:s.size<=i:=by omega):dgF most ((Dq s).drop i) n=some n:=by
 rw[List.drop_eq_nil_of_le (by rw[Jc];exact h),dgF]
theorem dgV_nil (most:Nat) (s:ByteArray) (h:s.size=0):dgV most (Dq s)=none:=by
 have:Dq s= []:=by rw[←List.length_eq_zero_iff,Jc];exact h
 rw[this,dgV]
theorem dgV_cons (most:Nat) (s:ByteArray) (h:0<s.size):dgV most (Dq s)=if (s.get! 0).toNat=48/\1<s.size then none else dgF most ((Dq s).drop 0) 0:=by
 have hg:=ZaI s 0
 have hl:=Jc s
 cases hn:Dq s with
 |nil=>rw[hn] at hl;simp at hl;omega
 |cons c r=>
  rw[hn] at hg hl
  simp only[List.getD_cons_zero,List.length_cons] at hg hl
  rw[hg,dgV,List.drop_zero]
  have:(r≠ [])↔1<s.size:=by
   rw[←hl,←List.length_pos_iff];omega
  simp only[this]
theorem Zfc (s:ByteArray) (hp:0<s.size) (h:((s[0]'hp).toNat:Int)=48):(s.toList== [48])=decide (s.size=1):=by
 have hl:s.toList.length=s.size:=by rw[Lib.toList_data];rfl
 have h0:s.toList[0]? =some 48:=by
  rw[Lib.toList_data,Array.getElem?_toList,Array.getElem?_eq_getElem (h:=hp)]
  congr 1
  exact UInt8.toNat_inj.1 (by show (s[0]'hp).toNat=48;omega)
 rw[←hl]
 cases e:s.toList with
 |nil=>rw[e] at h0;cases h0
 |cons c r=>
  rw[e] at h0
  simp only[List.getElem?_cons_zero,Option.some.injEq] at h0
  subst h0
  cases r<;>simp
theorem upTo49 (s:ByteArray) (most:Nat) (hs:s.size<4611686018427387904) (hm:most<=9007199254740991) (w:World):Calls Tryz.prog 233 #[.int .i64 (most:Nat), .string s] w fun e w'=>e= .returned (.tuple #[.int .i64 ((dgV most (Dq s)).getD 0:Nat), .bool (dgV most (Dq s)).isSome])/\w'=w:=by
 have hE:(s.toList.isEmpty=true)↔s.size=0:=by
  rw[ByteArray.size,←Array.length_toList,List.length_eq_zero_iff]
  simp[Lib.toList_data]
 go_enter Tryz.func233,Tryz.ntmps233
 by_cases h0:s.size=0
 ·have hv:=dgV_nil most s h0
  have he:=hE.2 h0
  have hz:(s.size:Int)=0:=by omega
  clear hE
  go_wp2
  go_ret2
  exact⟨by rw[hv];rfl,rfl⟩
 ·have hp:0<s.size:=by omega
  have hv:=dgV_cons most s hp
  have he:s.toList.isEmpty=false:=by
   cases h:s.toList.isEmpty
   ·rfl
   ·exact absurd (hE.1 h) h0
  clear hE
  have z0:(0:Int)<s.size:=by omega
  by_cases hz:(s.get! 0).toNat=48/\1<s.size
  ·rw[if_pos hz] at hv
   obtain⟨hz1,hz2⟩:=hz
   have z1:(1:Int)<s.size:=by omega
   have z2:((s[0]'hp).toNat:Int)=48:=by rw[←Zcv s 0 hp];omega
   clear hz1
   have q1:(s.toList== [48])=false:=by rw[Zfc s hp z2];exact decide_eq_false (by omega)
   go_wp2
   go_ret2
   exact⟨by rw[hv];rfl,rfl⟩
  ·rw[if_neg hz] at hv
   have HV:=Ab hv
   clear hv
   have hc3:(¬((s[0]'hp).toNat:Int)=48)∨(¬1<s.size/\((s[0]'hp).toNat:Int)=48):=by
    rw[←Zcv s 0 hp];omega
   clear hz
   rcases hc3 with z2|⟨h1,z2⟩
   ·have h1:=trivial
    have q1:=trivial
    have z1:=trivial
    go_wp2_with fail
    go_loopg [6,21] (s.size+1) (fun g s6 s21 wr=> ∃(n i:Nat),s6= .int .i64 n/\s21= .int .i64 i/\i<=s.size/\s.size - i<g/\n<=most/\wr=w/\Hid (dgV most (Dq s)=dgF most ((Dq s).drop i) n))
    case atStart=>exact⟨0,0,rfl,rfl,Nat.zero_le _,by omega,Nat.zero_le _,rfl,HV⟩
    case round=>
     obtain⟨n,i,rfl,rfl,hi,hg,hn,rfl,hR⟩:=hrel
     clear z0 z1 z2 h1 q1
     by_cases hil:i<s.size
     ·have hst:=ZdC most s i n hil
      rw[Zcv s i hil] at hst
      have y0:(i:Int)<s.size:=by omega
      have hcl:=(s[i]'hil).toNat_lt
      by_cases hc1:(s[i]'hil).toNat<48
      ·rw[if_pos (Or.inl hc1)] at hst
       have HS:=Ab hst
       have y1:((s[i]'hil).toNat:Int)<48:=by omega
       clear hst hc1
       go_wp2
       go_ret2
       exact⟨by rw[Aa hR,Aa HS];rfl,rfl⟩
      ·have y1: ¬((s[i]'hil).toNat:Int)<48:=by omega
       by_cases hc2:57<(s[i]'hil).toNat
       ·rw[if_pos (Or.inr hc2)] at hst
        have HS:=Ab hst
        have y2:(57:Int)<((s[i]'hil).toNat:Int):=by omega
        clear hst hc1 hc2
        go_wp2
        go_ret2
        exact⟨by rw[Aa hR,Aa HS];rfl,rfl⟩
       ·rw[if_neg (by omega)] at hst
        have y2: ¬(57:Int)<((s[i]'hil).toNat:Int):=by omega
        obtain⟨m,hm1⟩: ∃m,m=n * 10+((s[i]'hil).toNat - 48):=⟨_,rfl⟩
        rw[←hm1] at hst
        have y3:IntKind.u8.wrap (((s[i]'hil).toNat:Int) - 48)=(((s[i]'hil).toNat - 48:Nat):Int):=by
         simp[IntKind.wrap,IntKind.bits,IntKind.signed];omega
        have y4:IntKind.i64.wrap (((s[i]'hil).toNat - 48:Nat):Int)=(((s[i]'hil).toNat - 48:Nat):Int):=by
         rw[IntKind.wrap_i64];omega
        have y5:IntKind.i64.wrap (10 * (n:Int))=((10 * n:Nat):Int):=by
         rw[IntKind.wrap_i64];omega
        have y6:IntKind.i64.wrap (((10 * n:Nat):Int)+(((s[i]'hil).toNat - 48:Nat):Int))=(m:Int):=by
         rw[IntKind.wrap_i64];omega
        have y7:IntKind.i64.wrap ((i:Int)+1)=((i+1:Nat):Int):=by rw[IntKind.wrap_i64];omega
        by_cases hmm:most<m
        ·rw[if_pos hmm] at hst
         have HS:=Ab hst
         have y8:(most:Int)<m:=by omega
         clear hst hc1 hc2
         go_wp2
         go_ret2
         exact⟨by rw[Aa hR,Aa HS];rfl,rfl⟩
        ·rw[if_neg hmm] at hst
         have HS:=Ab hst
         have y8: ¬(most:Int)<m:=by omega
         clear hst hc1 hc2
         go_wp2
         go_roundg (s.size - i)
         case measure=>omega
         case rel=>exact⟨m,i+1,by congr 1;omega,by go_num,by omega,by omega,by omega,rfl,Ab (by rw[Aa hR,Aa HS])⟩
     ·have hst:=ZfA most s i n
      have HS:=Ab hst
      have y0: ¬(i:Int)<s.size:=by omega
      clear hst
      go_wp2
      go_ret2
      exact⟨by rw[Aa hR,Aa HS];rfl,rfl⟩
   ·have q1:(s.toList== [48])=true:=by rw[Zfc s hp z2];exact decide_eq_true (by omega)
    have z1:=trivial
    go_wp2_with fail
    go_loopg [6,21] (s.size+1) (fun g s6 s21 wr=> ∃(n i:Nat),s6= .int .i64 n/\s21= .int .i64 i/\i<=s.size/\s.size - i<g/\n<=most/\wr=w/\Hid (dgV most (Dq s)=dgF most ((Dq s).drop i) n))
    case atStart=>exact⟨0,0,rfl,rfl,Nat.zero_le _,by omega,Nat.zero_le _,rfl,HV⟩
    case round=>
     obtain⟨n,i,rfl,rfl,hi,hg,hn,rfl,hR⟩:=hrel
     clear z0 z1 z2 h1 q1
     by_cases hil:i<s.size
     ·have hst:=ZdC most s i n hil
      rw[Zcv s i hil] at hst
      have y0:(i:Int)<s.size:=by omega
      have hcl:=(s[i]'hil).toNat_lt
      by_cases hc1:(s[i]'hil).toNat<48
      ·rw[if_pos (Or.inl hc1)] at hst
       have HS:=Ab hst
       have y1:((s[i]'hil).toNat:Int)<48:=by omega
       clear hst hc1
       go_wp2
       go_ret2
       exact⟨by rw[Aa hR,Aa HS];rfl,rfl⟩
      ·have y1: ¬((s[i]'hil).toNat:Int)<48:=by omega
       by_cases hc2:57<(s[i]'hil).toNat
       ·rw[if_pos (Or.inr hc2)] at hst
        have HS:=Ab hst
        have y2:(57:Int)<((s[i]'hil).toNat:Int):=by omega
        clear hst hc1 hc2
        go_wp2
        go_ret2
        exact⟨by rw[Aa hR,Aa HS];rfl,rfl⟩
       ·rw[if_neg (by omega)] at hst
        have y2: ¬(57:Int)<((s[i]'hil).toNat:Int):=by omega
        obtain⟨m,hm1⟩: ∃m,m=n * 10+((s[i]'hil).toNat - 48):=⟨_,rfl⟩
        rw[←hm1] at hst
        have y3:IntKind.u8.wrap (((s[i]'hil).toNat:Int) - 48)=(((s[i]'hil).toNat - 48:Nat):Int):=by
         simp[IntKind.wrap,IntKind.bits,IntKind.signed];omega
        have y4:IntKind.i64.wrap (((s[i]'hil).toNat - 48:Nat):Int)=(((s[i]'hil).toNat - 48:Nat):Int):=by
         rw[IntKind.wrap_i64];omega
        have y5:IntKind.i64.wrap (10 * (n:Int))=((10 * n:Nat):Int):=by
         rw[IntKind.wrap_i64];omega
        have y6:IntKind.i64.wrap (((10 * n:Nat):Int)+(((s[i]'hil).toNat - 48:Nat):Int))=(m:Int):=by
         rw[IntKind.wrap_i64];omega
        have y7:IntKind.i64.wrap ((i:Int)+1)=((i+1:Nat):Int):=by rw[IntKind.wrap_i64];omega
        by_cases hmm:most<m
        ·rw[if_pos hmm] at hst
         have HS:=Ab hst
         have y8:(most:Int)<m:=by omega
         clear hst hc1 hc2
         go_wp2
         go_ret2
         exact⟨by rw[Aa hR,Aa HS];rfl,rfl⟩
        ·rw[if_neg hmm] at hst
         have HS:=Ab hst
         have y8: ¬(most:Int)<m:=by omega
         clear hst hc1 hc2
         go_wp2
         go_roundg (s.size - i)
         case measure=>omega
         case rel=>exact⟨m,i+1,by congr 1;omega,by go_num,by omega,by omega,by omega,rfl,Ab (by rw[Aa hR,Aa HS])⟩
     ·have hst:=ZfA most s i n
      have HS:=Ab hst
      have y0: ¬(i:Int)<s.size:=by omega
      clear hst
      go_wp2
      go_ret2
      exact⟨by rw[Aa hR,Aa HS];rfl,rfl⟩
end
section
open Go Go.Proofs Go.RowKit Tryz
def Qa (l:List Nat):Option Nat:=dgV 4294967294 l
theorem Zfm (l:List Nat) (m:Nat) (h:Qa l=some m):m<=4294967294:=dgV_le _ _ _ h
theorem index34 (s:ByteArray) (hs:s.size<4611686018427387904) (w:World):Calls prog 229 #[.string s] w fun e w'=>e= .returned (.tuple #[.int .u32 ((Qa (Dq s)).getD 0:Nat), .bool (Qa (Dq s)).isSome])/\w'=w:=by
 have HC:=Ab (upTo49 s 4294967294 hs (by omega) w)
 have z1:IntKind.u32.wrap ((Qa (Dq s)).getD 0:Nat)=((Qa (Dq s)).getD 0:Nat):=by
  have:(Qa (Dq s)).getD 0<=4294967294:=by
   cases h:Qa (Dq s) with
   |none=>simp
   |some m=>exact Zfm _ _ h
  simp[IntKind.wrap,IntKind.bits,IntKind.signed];omega
 change Hid (Calls prog 233 #[.int .i64 4294967294, .string s] w fun e w'=>e= .returned (.tuple #[.int .i64 ((Qa (Dq s)).getD 0:Nat), .bool (Qa (Dq s)).isSome])/\w'=w) at HC
 generalize (Qa (Dq s)).getD 0=m at *
 generalize (Qa (Dq s)).isSome=b at *
 go_enter func229,ntmps229
 go_wp2_with fail
 refine(Aa HC).mono ?_
 rintro e w' ⟨rfl,rfl⟩
 go_wp2
 go_ret2
 exact⟨rfl,rfl⟩
theorem Jq (w:World) (o:Obj):Below w.heap.size w (w.alloc o):=(Below.refl _ _).alloc (Nat.le_refl _) _
def Zbi (s:ByteArray) (n:Int):Value:= .agg #[.string s, .int .i64 n]
def Zbj (s:ByteArray) (n:Int):Int:=if n=0 then (if (Qa (Dq s)).isSome then 0 else 1) else 2
def Zcm (s:ByteArray) (n:Int):Nat:=if n=0 then ((Qa (Dq s)).getD 0) else 0
theorem kindOf22 (s:ByteArray) (n:Int) (hs:s.size<4611686018427387904) (w:World):Calls prog 225 #[Zbi s n] w fun e w'=>e= .returned (.tuple #[.int .i64 (Zbj s n), .int .u32 (Zcm s n:Nat)])/\Below w.heap.size w w':=by
 have HC:=Ab (index34 s hs)
 unfold Zbi
 by_cases hn:n=0
 ·subst hn
  have e1:Zbj s 0=if (Qa (Dq s)).isSome then 0 else 1:=by unfold Zbj;rw[if_pos rfl]
  have e2:Zcm s 0=(Qa (Dq s)).getD 0:=by unfold Zcm;rw[if_pos rfl]
  rw[e1,e2]
  clear e1 e2
  generalize Qa (Dq s)=o at *
  go_enter func225,ntmps225
  go_wp2_with fail
  refine(Aa HC _).mono ?_
  rintro e w' ⟨rfl,rfl⟩
  cases o with
  |none=>
   go_wp2
   go_ret2
   exact⟨rfl,Jq _ _⟩
  |some m=>
   go_wp2
   go_ret2
   exact⟨rfl,Jq _ _⟩
 ·have e1:Zbj s n=2:=by unfold Zbj;rw[if_neg hn]
  have e2:Zcm s n=0:=by unfold Zcm;rw[if_neg hn]
  rw[e1,e2]
  go_enter func225,ntmps225
  go_wp2
  go_ret2
  exact⟨rfl,Jq _ _⟩
theorem Lq (P:Program) (w:World) (a:Addr) (m:Mode) (k:FloatKind) (x:Nat):(store a (.float k x) m).run P w=stored P w a (.float k x) m:=run_store P w a _ m rfl
attribute [local go_sem] Gt Lq
def Rh (s:ByteArray) (n:Int):VV:=if n=0 then ⟨5,false,0,s,0⟩ else ⟨6,false,0,s,n⟩
theorem Zcp (w:World) (o1 o2:Obj):Below w.heap.size w ((w.alloc o1).alloc o2):=((Below.refl _ _).alloc (Nat.le_refl _) _).alloc (by simp) _
theorem ZgM (s:ByteArray) (n:Int) (w:World):Calls prog 91 #[Zbi s n] w fun e w'=>e= .returned (Rh s n).agg/\Below w.heap.size w w':=by
 unfold Zbi
 by_cases hn:n=0
 ·subst hn
  have e1:Rh s 0=⟨5,false,0,s,0⟩:=by unfold Rh;rw[if_pos rfl]
  rw[e1]
  unfold VV.agg
  go_enter func91,ntmps91
  go_wp2
  simp[bodyPost,results,Tryz.results91,go_sem]
  exact Zcp ..
 ·have e1:Rh s n=⟨6,false,0,s,n⟩:=by unfold Rh;rw[if_neg hn]
  rw[e1]
  unfold VV.agg
  go_enter func91,ntmps91
  go_wp2
  simp[bodyPost,results,Tryz.results91,go_sem]
  exact Zcp ..
theorem vcheck20 (v:VV) (w:World) (hT:Lib.Utf8Tabs 1 2 w):Calls prog 90 #[v.agg] w fun e w'=>e= .returned (.int .i64 (if v.good then 0 else 5))/\Below w.heap.size w w':=by
 have HI:=Ab (fun w (hT:Lib.Utf8Tabs 1 2 w)=>Oo v.k v.b v.x v.s v.i w hT)
 have HT:=Ab hT
 unfold VV.agg VV.good
 generalize Ml v.k v.b v.x v.s v.i=g at *
 clear hT
 go_enter func90,ntmps90
 go_wp2_with fail
 refine(Aa HI _ (Ao (Aa HT) (Jq _ _))).mono ?_
 rintro e w1 ⟨rfl,hb⟩
 have HB:=Ab (((Jq w _).trans (hb.mono (by simp))))
 clear hb
 cases g
 ·go_wp2
  go_ret
  exact⟨rfl,Aa HB⟩
 ·go_wp2
  go_ret
  exact⟨rfl,Aa HB⟩
theorem Zu (s:ByteArray) (n:Int) (w:World) (hT:Lib.Utf8Tabs 1 2 w):Calls prog 38 #[Zbi s n] w fun e w'=>e= .returned (.int .i64 (if (Rh s n).good then 0 else 5))/\Below w.heap.size w w':=by
 have HA:=Ab (fun w=>ZgM s n w)
 have HI:=Ab (fun w (hT:Lib.Utf8Tabs 1 2 w)=>vcheck20 (Rh s n) w hT)
 have HT:=Ab hT
 unfold Zbi at *
 generalize (Rh s n).agg=v at *
 generalize (if (Rh s n).good then (0:Int) else 5)=g at *
 clear hT
 go_enter func38,ntmps38
 go_wp2_with fail
 refine(Aa HA _).mono ?_
 rintro e w1 ⟨rfl,hb⟩
 have HB:=Ab (((Jq w _).trans (hb.mono (by simp))))
 clear hb
 go_wp2_with fail
 refine(Aa HI _ (Ao (Aa HT) (Aa HB))).mono ?_
 rintro e w2 ⟨rfl,hb2⟩
 have HB2:=Ab ((Aa HB).trans (hb2.mono (Aa HB).size))
 clear hb2
 go_wp2
 go_ret
 exact⟨rfl,Aa HB2⟩
