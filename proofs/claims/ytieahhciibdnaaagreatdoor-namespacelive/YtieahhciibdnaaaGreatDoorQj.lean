import Derived.Test.YtieahhciibdnaaaGreatDoorQd
import Derived.Test.YtieahhciibdnaaaGreatDoorQi
import Derived.Maps.OwnSet
import Derived.Maps.Own
import Derived.DeepKeys4
import Derived.Laws.OwnMore
import Derived.Laws.MakeOwn
import Derived.Deep.MidRow
import Derived.BigFrame
import Derived.Laws.AppendOwnNone
import Derived.OwnWalk
import Derived.Great.BuildSlice
import Derived.RangeFuncRecord
import Derived.Laws.StructEq
import Derived.Shelf.Strconv.Itoa0
import Derived.Shelf.Strconv.Itoa1
import Derived.Shelf.Small.Bits
import Derived.Shelf.Strconv.Itoa2
import Derived.Lib.ItoaMem
import Derived.Lib.AppendIntMem
set_option linter.all false
namespace Go.Proofs.YtieahhciibdnaaaGreatDoor
set_option maxRecDepth 100000
set_option maxHeartbeats 0
section
open Go Go.Proofs Go.Maps Tryz
theorem Qh:laidOutB prog=true:=by kernel_rfl
theorem row33:(45:TypeId)<prog.types.size:=of_decide_eq_true (by kernel_rfl)
theorem key33:prog.keyTypeAt 2 45=true:=by kernel_rfl
theorem Xg:Keyed prog 45:=Keyed.of_law (deep_law_laid Qh (m:=2) (by omega) row33 key33 (by rw[underlying45]))
theorem keyT33:prog.keyType 45=true:=by kernel_rfl
theorem Za6:decide ((1:Nat)<=prog.types.size)=true:=by kernel_rfl
theorem Zcd: ∃n:Nat,prog.types.size+1=n+2:=by
 have h:(1:Nat)<=prog.types.size:=of_decide_eq_true Za6
 generalize prog.types.size=m at h
 exact⟨m - 1,by omega⟩
def ZdU (s:ByteArray) (n:Int):Lit:= .string (keyBytes [.string s.data.toList, .int .i64 n])
theorem Ux (s:ByteArray) (n:Int) (hs:s.size<=maxLen) (hn:(Lit.int .i64 n).wf=true):keyOf prog 45 (.agg #[.string s, .int .i64 n])=some (ZdU s n):=by
 obtain⟨N,hN⟩:=Zcd
 unfold keyOf
 rw[underlying45]
 simp only[]
 rw[hN]
 have c33:prog.cellsOf 45=2:=by kernel_rfl
 have hf:Value.formed prog 45 (.agg #[.string s, .int .i64 n])=true:=by
  simp[Value.formed,underlying45,underlying3,underlying9,c33]
 have c9:prog.cellsOf 9=1:=by kernel_rfl
 have c3:prog.cellsOf 3=1:=by kernel_rfl
 rw[hf,keyT33]
 simp[Program.keyLits,underlying45,underlying3,underlying9,c9,c3,c33,hs,hn,Value.cells,ZdU]
theorem klit_inj {s s':ByteArray} {n n':Int} (hs:s.size<=maxLen) (hn:(Lit.int .i64 n).wf=true) (hs':s'.size<=maxLen) (hn':(Lit.int .i64 n').wf=true) (h:ZdU s n=ZdU s' n'):s=s'/\n=n':=by
 have:=Xg.inj (Ux s n hs hn) (h▸Ux s' n' hs' hn')
 simpa using this
theorem klit_key {s:ByteArray} {n:Int} (hs:s.size<=maxLen) (hn:(Lit.int .i64 n).wf=true):WideAt.IsKeyLit (ZdU s n):=Xg.key (Ux s n hs hn)
end
section
open Go.RowKit Go.Shelf
namespace M
def cmpL:List Nat->List Nat->Int
 | [], []=>0
 | [],_::_=> -1
 |_::_, []=>1
 |a::r,b::q=>if a<b then -1 else if b<a then 1 else cmpL r q

theorem cmpL_rng: ∀(l m:List Nat),cmpL l m= -1∨cmpL l m=0∨cmpL l m=1
 | [], []=>by simp[cmpL]
 | [],_::_=>by simp[cmpL]
 |_::_, []=>by simp[cmpL]
 |a::l,b::m=>by
  have:=cmpL_rng l m
  simp only[cmpL];split
  ·simp
  ·split
   ·simp
   ·exact this
theorem cmpL_neg: ∀(l m:List Nat),cmpL l m= - cmpL m l
 | [], []=>by simp[cmpL]
 | [],_::_=>by simp[cmpL]
 |_::_, []=>by simp[cmpL]
 |a::l,b::m=>by
  have:=cmpL_neg l m
  simp only[cmpL]
  by_cases h1:a<b
  ·rw[if_pos h1,if_neg (by omega),if_pos h1]
  ·by_cases h2:b<a
   ·rw[if_neg h1,if_pos h2,if_pos h2];rfl
   ·rw[if_neg h1,if_neg h2,if_neg h2,if_neg h1];exact this
theorem cmpL_zero: ∀(l m:List Nat),cmpL l m=0↔l=m
 | [], []=>by simp[cmpL]
 | [],_::_=>by simp[cmpL]
 |_::_, []=>by simp[cmpL]
 |a::l,b::m=>by
  have:=cmpL_zero l m
  simp only[cmpL,List.cons.injEq]
  by_cases h1:a<b
  ·rw[if_pos h1];constructor
   ·intro h;omega
   ·rintro⟨h,_⟩;omega
  ·by_cases h2:b<a
   ·rw[if_neg h1,if_pos h2];constructor
    ·intro h;omega
    ·rintro⟨h,_⟩;omega
   ·rw[if_neg h1,if_neg h2,this];constructor
    ·intro h;exact⟨by omega,h⟩
    ·exact And.right
theorem cmpL_le: ∀(a b c:List Nat),cmpL a b<=0->cmpL b c<=0->cmpL a c<=0
 | [],_, []=>by simp[cmpL]
 | [],_,_::_=>by simp[cmpL]
 |_::_, [],_=>by simp[cmpL]
 |_::_,_::_, []=>by simp[cmpL]
 |x::a,y::b,z::c=>by
  have:=cmpL_le a b c
  simp only[cmpL]
  intro h1 h2
  by_cases a1:x<y
  ·by_cases b1:y<z
   ·rw[if_pos (by omega)];omega
   ·rw[if_neg b1] at h2
    by_cases b2:z<y
    ·rw[if_pos b2] at h2;omega
    ·rw[if_pos (by omega)];omega
  ·rw[if_neg a1] at h1
   by_cases a2:y<x
   ·rw[if_pos a2] at h1;omega
   ·rw[if_neg a2] at h1
    by_cases b1:y<z
    ·rw[if_pos (by omega)];omega
    ·rw[if_neg b1] at h2
     by_cases b2:z<y
     ·rw[if_pos b2] at h2;omega
     ·rw[if_neg b2] at h2
      rw[if_neg (by omega),if_neg (by omega)]
      exact this h1 h2
theorem cmpL_ge (a b c:List Nat) (h1:0<=cmpL a b) (h2:0<=cmpL b c):0<=cmpL a c:=by
 have e1:=cmpL_neg a b;have e2:=cmpL_neg b c;have e3:=cmpL_neg a c
 have:=cmpL_le c b a (by omega) (by omega)
 omega
end M
theorem ZcP (s:ByteArray):(unS s).length<=s.size:=by
 unfold unS;split
 ·exact rdL_len s
 ·simp
theorem valid_cs (s:ByteArray) (h:vS s=true): ∃cs:List CP,Dj s=bytes cs/\unS s=Ve (cs.map (·.1))/\M.Wtf (Dj s) (cs.map (·.1)):=by
 rcases M.valid_ref (Dj s) (Uu s) with ⟨_,u,h2,h3,cs,⟨e1,e2,e3⟩,hu⟩|⟨h1,_⟩
 ·have hcs: ∃l:List CP,l.map (·.1)=cs:=by
   clear h2 h3 e1 e3 hu
   induction cs with
   |nil=>exact⟨[],rfl⟩
   |cons c r ih=>
    obtain⟨l,hl⟩:=ih (fun x hx=>e2 x (by simp[hx]))
    exact⟨⟨c,e2 c (by simp)⟩::l,by simp[hl]⟩
  obtain⟨l,rfl⟩:=hcs
  refine⟨l,e1, ?_,e1,e2,e3⟩
  unfold unS rdL;rw[h,h2,hu];rfl
 ·unfold vS at h;rw[h] at h1;cases h1

def ZdQ (a b:ByteArray):Bool:=vS a && vS b
def cmI (a b:ByteArray):Int:=if ZdQ a b then M.cmpL (unS a) (unS b) else 0
def cmE (a b:ByteArray):Int:=if ZdQ a b then 0 else 10
theorem un_ok {a:ByteArray} (h:vS a=true):Dj a=M.ofL (unS a):=by
 unfold unS;rw[h,if_pos rfl]
 rcases M.valid_ref (Dj a) (Uu a) with ⟨_,u,h2,h3,_⟩|⟨h1,_⟩
 ·unfold rdL;rw[h2];exact h3.symm
 ·unfold vS at h;rw[h] at h1;cases h1
theorem un_inj {a b:ByteArray} (ha:vS a=true) (hb:vS b=true) (h:unS a=unS b):a=b:=
 nums_inj (by rw[un_ok ha,un_ok hb,h])
end
section
open Go Go.Proofs Go.RowKit
def dgF (most:Nat):List Nat->Nat->Option Nat
 | [],n=>some n
 |c::r,n=>if c<48∨57<c then none else if most<n * 10+(c - 48) then none else dgF most r (n * 10+(c - 48))
def dgV (most:Nat) (l:List Nat):Option Nat:=
 match l with
 | []=>none
 |c::r=>if c=48/\r≠ [] then none else dgF most (c::r) 0
theorem dgF_le (most:Nat): ∀(l:List Nat) (n m:Nat),n<=most->dgF most l n=some m->m<=most
 | [],n,m,h,e=>by simp[dgF] at e;omega
 |c::r,n,m,h,e=>by
  unfold dgF at e
  split at e
  ·cases e
  ·split at e
   ·cases e
   ·exact dgF_le most r _ m (by omega) e
theorem dgV_le (most:Nat) (l:List Nat) (m:Nat) (e:dgV most l=some m):m<=most:=by
 unfold dgV at e
 split at e
 ·cases e
 ·split at e
  ·cases e
  ·exact dgF_le most _ 0 m (Nat.zero_le _) e
theorem ZaE (s:ByteArray) (i:Nat) (h:i<s.size):s.get! i=s[i]'h:=by
 cases s with
 |mk d=>exact getElem!_pos d i h
theorem ZbS (most:Nat) (s:ByteArray) (i n:Nat) (h:i<s.size):
  dgF most ((Dj s).drop i) n=if (s.get! i).toNat<48∨57<(s.get! i).toNat then none else if most<n * 10+((s.get! i).toNat - 48) then none else dgF most ((Dj s).drop (i+1)) (n * 10+((s.get! i).toNat - 48)):=by
 have hl:i<(Dj s).length:=by rw[Ek];exact h
 have hg:(s.get! i).toNat=(Dj s)[i]:=by
  rw[Xx,List.getD_eq_getElem?_getD,List.getElem?_eq_getElem hl];rfl
 rw[hg,List.drop_eq_getElem_cons hl,dgF]
theorem Zdm (most:Nat) (s:ByteArray) (i n:Nat) (h:s.size<=i):dgF most ((Dj s).drop i) n=some n:=by
 rw[List.drop_eq_nil_of_le (by rw[Ek];exact h),dgF]
theorem dgV_nil (most:Nat) (s:ByteArray) (h:s.size=0):dgV most (Dj s)=none:=by
 have:Dj s= []:=by rw[←List.length_eq_zero_iff,Ek];exact h
 rw[this,dgV]
theorem dgV_cons (most:Nat) (s:ByteArray) (h:0<s.size):dgV most (Dj s)=if (s.get! 0).toNat=48/\1<s.size then none else dgF most ((Dj s).drop 0) 0:=by
 have hg:=Xx s 0
 have hl:=Ek s
 cases hn:Dj s with
 |nil=>rw[hn] at hl;simp at hl;omega
 |cons c r=>
  rw[hn] at hg hl
  simp only[List.getD_cons_zero,List.length_cons] at hg hl
  rw[hg,dgV,List.drop_zero]
  have:(r≠ [])↔1<s.size:=by
   rw[←hl,←List.length_pos_iff];omega
  simp only[this]
theorem Zc1 (s:ByteArray) (hp:0<s.size) (h:((s[0]'hp).toNat:Int)=48):(s.toList== [48])=decide (s.size=1):=by
 have hl:s.toList.length=s.size:=by rw[Lib.toList_data];rfl
 have h0:s.toList[0]? =some 48:=by
  rw[Lib.toList_data,Array.getElem?_toList,Array.getElem?_eq_getElem (h:=hp)]
  congr 1
  exact UInt8.toNat_inj.1 (by show (s[0]'hp).toNat=48;omega)
 rw[←hl]
 cases e:s.toList with
 |nil=>rw[e] at h0;cases h0
 |cons c r=>
  rw[e] at h0
  simp only[List.getElem?_cons_zero,Option.some.injEq] at h0
  subst h0
  cases r<;>simp
theorem upTo49 (s:ByteArray) (most:Nat) (hs:s.size<4611686018427387904) (hm:most<=9007199254740991) (w:World):Calls Tryz.prog 197 #[.int .i64 (most:Nat), .string s] w fun e w'=>e= .returned (.tuple #[.int .i64 ((dgV most (Dj s)).getD 0:Nat), .bool (dgV most (Dj s)).isSome])/\w'=w:=by
 have hE:(s.toList.isEmpty=true)↔s.size=0:=by
  rw[ByteArray.size,←Array.length_toList,List.length_eq_zero_iff]
  simp[Lib.toList_data]
 go_enter Tryz.func197,Tryz.ntmps197
 by_cases h0:s.size=0
 ·have hv:=dgV_nil most s h0
  have he:=hE.2 h0
  have hz:(s.size:Int)=0:=by omega
  clear hE
  go_wp2
  go_ret2
  exact⟨by rw[hv];rfl,rfl⟩
 ·have hp:0<s.size:=by omega
  have hv:=dgV_cons most s hp
  have he:s.toList.isEmpty=false:=by
   cases h:s.toList.isEmpty
   ·rfl
   ·exact absurd (hE.1 h) h0
  clear hE
  have z0:(0:Int)<s.size:=by omega
  by_cases hz:(s.get! 0).toNat=48/\1<s.size
  ·rw[if_pos hz] at hv
   obtain⟨hz1,hz2⟩:=hz
   have z1:(1:Int)<s.size:=by omega
   have z2:((s[0]'hp).toNat:Int)=48:=by rw[←ZaE s 0 hp];omega
   clear hz1
   have q1:(s.toList== [48])=false:=by rw[Zc1 s hp z2];exact decide_eq_false (by omega)
   go_wp2
   go_ret2
   exact⟨by rw[hv];rfl,rfl⟩
  ·rw[if_neg hz] at hv
   have HV:=Ab hv
   clear hv
   have hc3:(¬((s[0]'hp).toNat:Int)=48)∨(¬1<s.size/\((s[0]'hp).toNat:Int)=48):=by
    rw[←ZaE s 0 hp];omega
   clear hz
   rcases hc3 with z2|⟨h1,z2⟩
   ·have h1:=trivial
    have q1:=trivial
    have z1:=trivial
    go_wp2_with fail
    go_loopg [6,21] (s.size+1) (fun g s6 s21 wr=> ∃(n i:Nat),s6= .int .i64 n/\s21= .int .i64 i/\i<=s.size/\s.size - i<g/\n<=most/\wr=w/\Hid (dgV most (Dj s)=dgF most ((Dj s).drop i) n))
    case atStart=>exact⟨0,0,rfl,rfl,Nat.zero_le _,by omega,Nat.zero_le _,rfl,HV⟩
    case round=>
     obtain⟨n,i,rfl,rfl,hi,hg,hn,rfl,hR⟩:=hrel
     clear z0 z1 z2 h1 q1
     by_cases hil:i<s.size
     ·have hst:=ZbS most s i n hil
      rw[ZaE s i hil] at hst
      have y0:(i:Int)<s.size:=by omega
      have hcl:=(s[i]'hil).toNat_lt
      by_cases hc1:(s[i]'hil).toNat<48
      ·rw[if_pos (Or.inl hc1)] at hst
       have HS:=Ab hst
       have y1:((s[i]'hil).toNat:Int)<48:=by omega
       clear hst hc1
       go_wp2
       go_ret2
       exact⟨by rw[Aa hR,Aa HS];rfl,rfl⟩
      ·have y1: ¬((s[i]'hil).toNat:Int)<48:=by omega
       by_cases hc2:57<(s[i]'hil).toNat
       ·rw[if_pos (Or.inr hc2)] at hst
        have HS:=Ab hst
        have y2:(57:Int)<((s[i]'hil).toNat:Int):=by omega
        clear hst hc1 hc2
        go_wp2
        go_ret2
        exact⟨by rw[Aa hR,Aa HS];rfl,rfl⟩
       ·rw[if_neg (by omega)] at hst
        have y2: ¬(57:Int)<((s[i]'hil).toNat:Int):=by omega
        obtain⟨m,hm1⟩: ∃m,m=n * 10+((s[i]'hil).toNat - 48):=⟨_,rfl⟩
        rw[←hm1] at hst
        have y3:IntKind.u8.wrap (((s[i]'hil).toNat:Int) - 48)=(((s[i]'hil).toNat - 48:Nat):Int):=by
         simp[IntKind.wrap,IntKind.bits,IntKind.signed];omega
        have y4:IntKind.i64.wrap (((s[i]'hil).toNat - 48:Nat):Int)=(((s[i]'hil).toNat - 48:Nat):Int):=by
         rw[IntKind.wrap_i64];omega
        have y5:IntKind.i64.wrap (10 * (n:Int))=((10 * n:Nat):Int):=by
         rw[IntKind.wrap_i64];omega
        have y6:IntKind.i64.wrap (((10 * n:Nat):Int)+(((s[i]'hil).toNat - 48:Nat):Int))=(m:Int):=by
         rw[IntKind.wrap_i64];omega
        have y7:IntKind.i64.wrap ((i:Int)+1)=((i+1:Nat):Int):=by rw[IntKind.wrap_i64];omega
        by_cases hmm:most<m
        ·rw[if_pos hmm] at hst
         have HS:=Ab hst
         have y8:(most:Int)<m:=by omega
         clear hst hc1 hc2
         go_wp2
         go_ret2
         exact⟨by rw[Aa hR,Aa HS];rfl,rfl⟩
        ·rw[if_neg hmm] at hst
         have HS:=Ab hst
         have y8: ¬(most:Int)<m:=by omega
         clear hst hc1 hc2
         go_wp2
         go_roundg (s.size - i)
         case measure=>omega
         case rel=>exact⟨m,i+1,by congr 1;omega,by go_num,by omega,by omega,by omega,rfl,Ab (by rw[Aa hR,Aa HS])⟩
     ·have hst:=Zdm most s i n (by omega)
      have HS:=Ab hst
      have y0: ¬(i:Int)<s.size:=by omega
      clear hst
      go_wp2
      go_ret2
      exact⟨by rw[Aa hR,Aa HS];rfl,rfl⟩
   ·have q1:(s.toList== [48])=true:=by rw[Zc1 s hp z2];exact decide_eq_true (by omega)
    have z1:=trivial
    go_wp2_with fail
    go_loopg [6,21] (s.size+1) (fun g s6 s21 wr=> ∃(n i:Nat),s6= .int .i64 n/\s21= .int .i64 i/\i<=s.size/\s.size - i<g/\n<=most/\wr=w/\Hid (dgV most (Dj s)=dgF most ((Dj s).drop i) n))
    case atStart=>exact⟨0,0,rfl,rfl,Nat.zero_le _,by omega,Nat.zero_le _,rfl,HV⟩
    case round=>
     obtain⟨n,i,rfl,rfl,hi,hg,hn,rfl,hR⟩:=hrel
     clear z0 z1 z2 h1 q1
     by_cases hil:i<s.size
     ·have hst:=ZbS most s i n hil
      rw[ZaE s i hil] at hst
      have y0:(i:Int)<s.size:=by omega
      have hcl:=(s[i]'hil).toNat_lt
      by_cases hc1:(s[i]'hil).toNat<48
      ·rw[if_pos (Or.inl hc1)] at hst
       have HS:=Ab hst
       have y1:((s[i]'hil).toNat:Int)<48:=by omega
       clear hst hc1
       go_wp2
       go_ret2
       exact⟨by rw[Aa hR,Aa HS];rfl,rfl⟩
      ·have y1: ¬((s[i]'hil).toNat:Int)<48:=by omega
       by_cases hc2:57<(s[i]'hil).toNat
       ·rw[if_pos (Or.inr hc2)] at hst
        have HS:=Ab hst
        have y2:(57:Int)<((s[i]'hil).toNat:Int):=by omega
        clear hst hc1 hc2
        go_wp2
        go_ret2
        exact⟨by rw[Aa hR,Aa HS];rfl,rfl⟩
       ·rw[if_neg (by omega)] at hst
        have y2: ¬(57:Int)<((s[i]'hil).toNat:Int):=by omega
        obtain⟨m,hm1⟩: ∃m,m=n * 10+((s[i]'hil).toNat - 48):=⟨_,rfl⟩
        rw[←hm1] at hst
        have y3:IntKind.u8.wrap (((s[i]'hil).toNat:Int) - 48)=(((s[i]'hil).toNat - 48:Nat):Int):=by
         simp[IntKind.wrap,IntKind.bits,IntKind.signed];omega
        have y4:IntKind.i64.wrap (((s[i]'hil).toNat - 48:Nat):Int)=(((s[i]'hil).toNat - 48:Nat):Int):=by
         rw[IntKind.wrap_i64];omega
        have y5:IntKind.i64.wrap (10 * (n:Int))=((10 * n:Nat):Int):=by
         rw[IntKind.wrap_i64];omega
        have y6:IntKind.i64.wrap (((10 * n:Nat):Int)+(((s[i]'hil).toNat - 48:Nat):Int))=(m:Int):=by
         rw[IntKind.wrap_i64];omega
        have y7:IntKind.i64.wrap ((i:Int)+1)=((i+1:Nat):Int):=by rw[IntKind.wrap_i64];omega
        by_cases hmm:most<m
        ·rw[if_pos hmm] at hst
         have HS:=Ab hst
         have y8:(most:Int)<m:=by omega
         clear hst hc1 hc2
         go_wp2
         go_ret2
         exact⟨by rw[Aa hR,Aa HS];rfl,rfl⟩
        ·rw[if_neg hmm] at hst
         have HS:=Ab hst
         have y8: ¬(most:Int)<m:=by omega
         clear hst hc1 hc2
         go_wp2
         go_roundg (s.size - i)
         case measure=>omega
         case rel=>exact⟨m,i+1,by congr 1;omega,by go_num,by omega,by omega,by omega,rfl,Ab (by rw[Aa hR,Aa HS])⟩
     ·have hst:=Zdm most s i n (by omega)
      have HS:=Ab hst
      have y0: ¬(i:Int)<s.size:=by omega
      clear hst
      go_wp2
      go_ret2
      exact⟨by rw[Aa hR,Aa HS];rfl,rfl⟩
end
section
open Go Go.Proofs Go.RowKit Tryz
def Nd (l:List Nat):Option Nat:=dgV 4294967294 l
theorem Zc6 (l:List Nat) (m:Nat) (h:Nd l=some m):m<=4294967294:=dgV_le _ _ _ h
theorem index34 (s:ByteArray) (hs:s.size<4611686018427387904) (w:World):Calls prog 193 #[.string s] w fun e w'=>e= .returned (.tuple #[.int .u32 ((Nd (Dj s)).getD 0:Nat), .bool (Nd (Dj s)).isSome])/\w'=w:=by
 have HC:=Ab (upTo49 s 4294967294 hs (by omega) w)
 have z1:IntKind.u32.wrap ((Nd (Dj s)).getD 0:Nat)=((Nd (Dj s)).getD 0:Nat):=by
  have:(Nd (Dj s)).getD 0<=4294967294:=by
   cases h:Nd (Dj s) with
   |none=>simp
   |some m=>exact Zc6 _ _ h
  simp[IntKind.wrap,IntKind.bits,IntKind.signed];omega
 change Hid (Calls prog 197 #[.int .i64 4294967294, .string s] w fun e w'=>e= .returned (.tuple #[.int .i64 ((Nd (Dj s)).getD 0:Nat), .bool (Nd (Dj s)).isSome])/\w'=w) at HC
 generalize (Nd (Dj s)).getD 0=m at *
 generalize (Nd (Dj s)).isSome=b at *
 go_enter func193,ntmps193
 go_wp2_with fail
 refine(Aa HC).mono ?_
 rintro e w' ⟨rfl,rfl⟩
 go_wp2
 go_ret2
 exact⟨rfl,rfl⟩
theorem Gs (w:World) (o:Obj):Below w.heap.size w (w.alloc o):=(Below.refl _ _).alloc (Nat.le_refl _) _
def Zb (s:ByteArray) (n:Int):Value:= .agg #[.string s, .int .i64 n]
def Zc (s:ByteArray) (n:Int):Int:=if n=0 then (if (Nd (Dj s)).isSome then 0 else 1) else 2
def ZaA (s:ByteArray) (n:Int):Nat:=if n=0 then ((Nd (Dj s)).getD 0) else 0
theorem kindOf22 (s:ByteArray) (n:Int) (hs:s.size<4611686018427387904) (w:World):Calls prog 188 #[Zb s n] w fun e w'=>e= .returned (.tuple #[.int .i64 (Zc s n), .int .u32 (ZaA s n:Nat)])/\Below w.heap.size w w':=by
 have HC:=Ab (index34 s hs)
 unfold Zb
 by_cases hn:n=0
 ·subst hn
  have e1:Zc s 0=if (Nd (Dj s)).isSome then 0 else 1:=by unfold Zc;rw[if_pos rfl]
  have e2:ZaA s 0=(Nd (Dj s)).getD 0:=by unfold ZaA;rw[if_pos rfl]
  rw[e1,e2]
  clear e1 e2
  generalize Nd (Dj s)=o at *
  go_enter func188,ntmps188
  go_wp2_with fail
  refine(Aa HC _).mono ?_
  rintro e w' ⟨rfl,rfl⟩
  cases o with
  |none=>
   go_wp2
   go_ret2
   exact⟨rfl,Gs _ _⟩
  |some m=>
   go_wp2
   go_ret2
   exact⟨rfl,Gs _ _⟩
 ·have e1:Zc s n=2:=by unfold Zc;rw[if_neg hn]
  have e2:ZaA s n=0:=by unfold ZaA;rw[if_neg hn]
  rw[e1,e2]
  go_enter func188,ntmps188
  go_wp2
  go_ret2
  exact⟨rfl,Gs _ _⟩
theorem Uj (P:Program) (w:World) (a:Addr) (m:Mode) (k:FloatKind) (x:Nat):(store a (.float k x) m).run P w=stored P w a (.float k x) m:=run_store P w a _ m rfl
attribute [local go_sem] Gy Uj
def Od (s:ByteArray) (n:Int):VV:=if n=0 then ⟨5,false,0,s,0⟩ else ⟨6,false,0,s,n⟩
theorem ZaB (w:World) (o1 o2:Obj):Below w.heap.size w ((w.alloc o1).alloc o2):=((Below.refl _ _).alloc (Nat.le_refl _) _).alloc (by simp) _
theorem Zem (s:ByteArray) (n:Int) (w:World):Calls prog 35 #[Zb s n] w fun e w'=>e= .returned (Od s n).agg/\Below w.heap.size w w':=by
 unfold Zb
 by_cases hn:n=0
 ·subst hn
  have e1:Od s 0=⟨5,false,0,s,0⟩:=by unfold Od;rw[if_pos rfl]
  rw[e1]
  unfold VV.agg
  go_enter func35,ntmps35
  go_wp2
  simp[bodyPost,results,Tryz.results35,go_sem]
  exact ZaB ..
 ·have e1:Od s n=⟨6,false,0,s,n⟩:=by unfold Od;rw[if_neg hn]
  rw[e1]
  unfold VV.agg
  go_enter func35,ntmps35
  go_wp2
  simp[bodyPost,results,Tryz.results35,go_sem]
  exact ZaB ..
theorem vcheck20 (v:VV) (w:World) (hT:Lib.Utf8Tabs 1 2 w):Calls prog 6 #[v.agg] w fun e w'=>e= .returned (.int .i64 (if v.good then 0 else 5))/\Below w.heap.size w w':=by
 have HI:=Ab (fun w (hT:Lib.Utf8Tabs 1 2 w)=>Le v.k v.b v.x v.s v.i w hT)
 have HT:=Ab hT
 unfold VV.agg VV.good
 generalize Ke v.k v.b v.x v.s v.i=g at *
 clear hT
 go_enter func6,ntmps6
 go_wp2_with fail
 refine(Aa HI _ (Al (Aa HT) (Gs _ _))).mono ?_
 rintro e w1 ⟨rfl,hb⟩
 have HB:=Ab (((Gs w _).trans (hb.mono (by simp))))
 clear hb
 cases g
 ·go_wp2
  go_ret
  exact⟨rfl,Aa HB⟩
 ·go_wp2
  go_ret
  exact⟨rfl,Aa HB⟩
theorem Vd (s:ByteArray) (n:Int) (w:World) (hT:Lib.Utf8Tabs 1 2 w):Calls prog 12 #[Zb s n] w fun e w'=>e= .returned (.int .i64 (if (Od s n).good then 0 else 5))/\Below w.heap.size w w':=by
 have HA:=Ab (fun w=>Zem s n w)
 have HI:=Ab (fun w (hT:Lib.Utf8Tabs 1 2 w)=>vcheck20 (Od s n) w hT)
 have HT:=Ab hT
 unfold Zb at *
 generalize (Od s n).agg=v at *
 generalize (if (Od s n).good then (0:Int) else 5)=g at *
 clear hT
 go_enter func12,ntmps12
 go_wp2_with fail
 refine(Aa HA _).mono ?_
 rintro e w1 ⟨rfl,hb⟩
 have HB:=Ab (((Gs w _).trans (hb.mono (by simp))))
 clear hb
 go_wp2_with fail
 refine(Aa HI _ (Al (Aa HT) (Aa HB))).mono ?_
 rintro e w2 ⟨rfl,hb2⟩
 have HB2:=Ab ((Aa HB).trans (hb2.mono (Aa HB).size))
 clear hb2
 go_wp2
 go_ret
 exact⟨rfl,Aa HB2⟩
end
section
open Go Go.Proofs Go.RowKit
theorem two2 {w w1:World} {c0 c1 d0 d1:Value} {t u:TypeId} (hb:Below ((w.alloc (Obj.cells #[c0,c1] t)).alloc (Obj.cells #[d0,d1] u)).drew.heap.size ((w.alloc (Obj.cells #[c0,c1] t)).alloc (Obj.cells #[d0,d1] u)).drew w1):
  w1.cell? ⟨w.heap.size,1,none⟩=some c1/\w1.cell? ⟨w.heap.size+1,0,none⟩=some d0/\w1.cell? ⟨w.heap.size+1,1,none⟩=some d1/\w1.frozen? ⟨w.heap.size+1,0,none⟩=false/\w1.frozen? ⟨w.heap.size+1,1,none⟩=false/\
  Below w.heap.size w w1/\w1.heap[w.heap.size+1]? =some (Obj.cells #[d0,d1] u):=by
 have h1:=hb.cell (p:=⟨w.heap.size,1,none⟩) (by simp;omega)
 have h2:=hb.cell (p:=⟨w.heap.size+1,0,none⟩) (by simp)
 have h3:=hb.cell (p:=⟨w.heap.size+1,1,none⟩) (by simp)
 have h4:=hb.frozen (p:=⟨w.heap.size+1,0,none⟩) (by simp)
 have h5:=hb.frozen (p:=⟨w.heap.size+1,1,none⟩) (by simp)
 have h6:=hb.block (w.heap.size+1) (by simp)
 simp[go_sem] at h1 h2 h3 h4 h5
 refine⟨h1,h2,h3,h4,h5,((ZaB w _ _).drew).trans (hb.mono (by simp;omega)), ?_⟩
 rw[h6]
 have e:=heap_alloc_new (w.alloc (Obj.cells #[c0,c1] t)) (Obj.cells #[d0,d1] u)
 rw[show (w.alloc (Obj.cells #[c0,c1] t)).heap.size=w.heap.size+1 by simp] at e
 exact e
theorem anew30 (s:ByteArray) (n:Int) (h:s.size<=1048576) (w:World):Calls Tryz.prog 189 #[Zb s n] w fun e w'=>e= .returned (Zb s n)/\Below w.heap.size w w':=by
 have HC:=Ab (fun w=>Gq s w h)
 unfold Zb
 go_enter Tryz.func189,Tryz.ntmps189
 go_wp2_with fail
 go_region_with (go_at_call 60;refine(Aa HC _).mono ?_;rintro e w1 ⟨rfl,hb⟩;obtain⟨c1,d0,d1,f0,f1,hB,hO⟩:=two2 hb;have HB:=Ab hB;have HO:=Ab hO;clear hb hB hO)
 all_goals
  have g0:((w1.setCell ⟨w.heap.size+1,0,none⟩ (.string s)).setCell ⟨w.heap.size+1,1,none⟩ (.int .i64 n)).cell? ⟨w.heap.size+1,0,none⟩=some (.string s):=by
   simp[World.cell?,World.setCell,Array.getElem?_modify,Aa HO]
  have g1:((w1.setCell ⟨w.heap.size+1,0,none⟩ (.string s)).setCell ⟨w.heap.size+1,1,none⟩ (.int .i64 n)).cell? ⟨w.heap.size+1,1,none⟩=some (.int .i64 n):=by
   simp[World.cell?,World.setCell,Array.getElem?_modify,Aa HO]
  have HG:=Ab (((Aa HB).setCell (p:=⟨w.heap.size+1,0,none⟩) (by simp) (.string s)).setCell (p:=⟨w.heap.size+1,1,none⟩) (by simp) (.int .i64 n))
  generalize (w1.setCell ⟨w.heap.size+1,0,none⟩ (.string s)).setCell ⟨w.heap.size+1,1,none⟩ (.int .i64 n)=W at *
  clear HB HO f0 f1 d0 d1 c1 HC
  go_wp2
  simp[bodyPost,results,Tryz.results189,go_sem,g0,g1]
  exact Aa HG
theorem Zd0 {s:ByteArray} {n:Int} (h:(Od s n).good=true):s.size<=1048576:=by
 unfold Od at h
 by_cases hn:n=0
 ·rw[if_pos hn] at h
  rcases hf:Up s with _|_
  ·simp[VV.good,Ke,inG,hf] at h
  ·unfold Up at hf
   simp at hf
   exact hf.1
 ·rw[if_neg hn] at h
  have:s.toList.isEmpty=true:=by
   cases he:s.toList.isEmpty
   ·simp[VV.good,Ke,inG,Vh,he] at h
   ·rfl
  rw[Qo this]
  decide
end
section
open Go Go.Proofs Go.RowKit Tryz
structure KK where
 s:ByteArray
 n:Int
def KK.agg (k:KK):Value:= .agg #[.string k.s, .int .i64 k.n]
def KK.cs (k:KK):List Value:= [.string k.s, .int .i64 k.n]
def KK.obj (k:KK):Obj:=Obj.cells #[.string k.s, .int .i64 k.n] 45
theorem KK.ext' {a b:KK} (h1:a.s=b.s) (h2:a.n=b.n):a=b:=by cases a;cases b;cases h1;cases h2;rfl
theorem Zdo (k:KK):Zb k.s k.n=k.agg:=rfl
def Gv:KK:=⟨ByteArray.empty,0⟩
def KLies (W:World) (B:Nat) (k:KK):Prop:=(∀j,W.frozen? ⟨B,j,none⟩=false)/\W.cell? ⟨B,0,none⟩=some (.string k.s)/\W.cell? ⟨B,1,none⟩=some (.int .i64 k.n)
theorem KLies.new (w:World) (B:Nat) (hB:B=w.heap.size) (k:KK):KLies (w.alloc k.obj) B k:=by
 subst hB
 unfold KLies KK.obj
 simp[go_sem]
theorem KLies.block {W W1:World} {B:Nat} {k:KK} (h:KLies W B k) (he:W1.heap[B]? =W.heap[B]?):KLies W1 B k:=by
 have hc: ∀j,W1.cell? ⟨B,j,none⟩=W.cell? ⟨B,j,none⟩:=fun j=>World.cell?_of_block he
 have hf: ∀j,W1.frozen? ⟨B,j,none⟩=W.frozen? ⟨B,j,none⟩:=fun j=>World.frozen?_of_block he
 unfold KLies at *
 simp only[hc,hf]
 exact h
theorem KLies.range {W:World} {B:Nat} {k:KK} (h:KLies W B k):W.rangeAt B 0 k.cs:=by
 intro j v hv
 obtain⟨-,h0,h1⟩:=h
 match j,hv with
 |0,hv=>exact(Option.some.inj hv)▸h0
 |1,hv=>exact(Option.some.inj hv)▸h1
 |_+2,hv=>exact absurd hv (by simp[KK.cs])
theorem KLies.there {W:World} {B:Nat} {k:KK} (h:KLies W B k):W.there B 0 2:=by
 obtain⟨f,h0,h1⟩:=h
 intro j hj
 match j,hj with
 |0,_=>exact⟨h0▸rfl,f _⟩
 |1,_=>exact⟨h1▸rfl,f _⟩
theorem Ev (b:Nat): ∀(vs:List Value) (o:Nat) (X:World) (g:Nat),g≠b->(X.setCells b o vs).heap[g]? =X.heap[g]?
 | [],_,_,_,_=>rfl
 |v::vs,o,X,g,h=>by
  rw[World.setCells,Ev b vs _ _ g h]
  simp[World.setCell,Array.getElem?_modify,Ne.symm h]
theorem Eu {b:Nat}: ∀(vs:List Value) (o:Nat) (W:World),(W.setCells b o vs).heap.size=W.heap.size
 | [],_,_=>rfl
 |v::vs,o,W=>by
  rw[World.setCells,Eu vs]
  simp[World.setCell]
theorem Lf {w:World} {b:Nat} (hb:w.heap.size<=b): ∀(vs:List Value) (o:Nat) (W:World),Below w.heap.size w W->Below w.heap.size w (W.setCells b o vs)
 | [],_,_,h=>h
 |v::vs,o,W,h=>Lf hb vs _ _ (h.setCell (by exact hb) _)
structure Kq (w X:World) (l:List (Nat×KK)):Prop where
 below:Below w.heap.size w X
 all: ∀q∈l,w.heap.size<=q.1/\q.1<X.heap.size/\KLies X q.1 q.2
theorem Kq.nil (w:World):Kq w w []:=⟨Below.refl _ _,fun q hq=>by cases hq⟩
theorem Kq.on {w X X1:World} {l:List (Nat×KK)} (h:Kq w X l) (hb:Below X.heap.size X X1):Kq w X1 l:=
 ⟨h.below.trans (hb.mono h.below.size),fun q hq=>⟨(h.all q hq).1,Nat.lt_of_lt_of_le (h.all q hq).2.1 hb.size,(h.all q hq).2.2.block (hb.block _ (h.all q hq).2.1)⟩⟩
theorem Kq.get {w X:World} {l:List (Nat×KK)} (h:Kq w X l) (i:Nat) {b:Nat} {k:KK} (hi:l[i]? =some (b,k)):KLies X b k:=(h.all _ (List.mem_of_getElem? hi)).2.2
theorem Kq.new {w X:World} {l:List (Nat×KK)} (h:Kq w X l) (k:KK):Kq w (X.alloc k.obj) (l++ [(X.heap.size,k)]):=by
 have hb:Below X.heap.size X (X.alloc k.obj):=(Below.refl _ _).alloc (Nat.le_refl _) _
 refine⟨(h.on hb).below,fun q hq=> ?_⟩
 rcases List.mem_append.1 hq with hq|hq
 ·exact(h.on hb).all q hq
 ·obtain rfl:q=(X.heap.size,k):=by simpa using hq
  exact⟨h.below.size,by simp,KLies.new X _ rfl k⟩
theorem KLies.setK {W:World} {B:Nat} {k u:KK} (h:KLies W B k):KLies (W.setCells B 0 u.cs) B u:=by
 obtain⟨f,h0,h1⟩:=h
 refine⟨fun j=> ?_, ?_, ?_⟩
 ·simp[KK.cs,World.setCells,go_sem,f]
 ·simp[KK.cs,World.setCells,go_sem,h0,h1]
 ·simp[KK.cs,World.setCells,go_sem,h0,h1]
theorem ZaD:(prog.info? 45).map (·.size)=some 2:=by kernel_rfl
theorem ZaC: ∃d,prog.underlying 45=some d/\d.isRow=true:=⟨_,underlying45,rfl⟩
section
variable {ops : Array Oper} {rest : List Oper} {o : Oper} {a : Act} {w w0 : World} {Q : Exit → Act → World → Prop} {l : List (Nat × KK)} {x y : Operand} {b : Nat} {d u : KK}
theorem Na (hw:Region.wanted o (yielded ops a.tmps)=true) (ho:o.op= .load 45 x) (hx:a.eval x= .pointer (some ⟨b,0,none⟩)) (hc:KLies w b d) (h:wpList prog ops Q rest (a.put o.dst d.agg) w):wpList prog ops Q (o::rest) a w:=by
 obtain⟨t,hu,hd⟩:=ZaC
 refine BigFrame.wpList_want hw fun K hK=> ?_
 exact wp_load_mid 45 x ho b 0 hx _ t hc.range hu hd ZaD (hK _ _ h)
theorem Ld (hw:Region.wanted o (yielded ops a.tmps)=true) (ho:o.op= .alloc 45) (hL:Kq w0 w l)
  (h: ∀X,Kq w0 X (l++ [(w.heap.size,Gv)])->Below w.heap.size w X->wpList prog ops Q rest (a.put o.dst (.pointer (some ⟨w.heap.size,0,none⟩))) X):wpList prog ops Q (o::rest) a w:=by
 refine BigFrame.wpList_want hw fun K hK=> ?_
 have hP:=hK _ _ (h _ (hL.new Gv) ((Below.refl _ _).alloc (Nat.le_refl _) _))
 unfold Oper.wp execOp
 simp only[ho]
 simp[go_sem,Tryz.zeroValue45]
 exact hP
theorem La {m:List (Nat×KK)} (hw:Region.wanted o (yielded ops a.tmps)=true) (ho:o.op= .store 45 x y) (hL:Kq w0 w m) (hx:a.eval x= .pointer (some ⟨b,0,none⟩)) (hy:a.eval y=u.agg) (hm:m=l++ [(b,d)]) (hne: ∀q∈l,q.1≠b)
  (h: ∀X,Kq w0 X (l++ [(b,u)])->(∀g,g≠b->X.heap[g]? =w.heap[g]?)->X.heap.size=w.heap.size->wpList prog ops Q rest (a.put o.dst undef) X):wpList prog ops Q (o::rest) a w:=by
 subst hm
 refine BigFrame.wpList_want hw fun K hK=> ?_
 have hb:=hL.all (b,d) (by simp)
 refine wp_store_mid 45 x y ho _ 0 u.cs.toArray hx hy (KLies.there hb.2.2) ZaD (by simp[KK.cs,Value.oneCell']) (hK _ _ (h _ ?_ (fun g hg=>Ev _ _ _ _ _ hg) (Eu _ _ _)))
 refine⟨Lf hb.1 _ _ _ hL.below,fun q hq=> ?_⟩
 rw[Eu]
 rcases List.mem_append.1 hq with hq|hq
 ·have hq0:=hL.all q (List.mem_append_left _ hq)
  exact⟨hq0.1,hq0.2.1,hq0.2.2.block (Ev _ _ _ _ _ (hne q hq))⟩
 ·obtain rfl:q=(b,u):=by simpa using hq
  exact⟨hb.1,hb.2.1,KLies.setK hb.2.2⟩
end
def flatK (l:List KK):List Value:=l.flatMap KK.cs
theorem Kn (l m:List KK):flatK (l++m)=flatK l++flatK m:=by unfold flatK;rw[List.flatMap_append]
theorem Zd4 (d:KK):flatK [d]=d.cs:=by simp[flatK]
theorem Lc (d:KK):d.cs.length=2:=rfl
theorem Gp: ∀l:List KK,(flatK l).length=l.length * 2
 | []=>rfl
 |v::l=>by
  have:flatK (v::l)=v.cs++flatK l:=rfl
  rw[this,List.length_append,Gp l,List.length_cons,Lc]
  omega
theorem Rp: ∀(l:List KK) (j t:Nat) (hj:j<l.length),t<2->(flatK l)[j * 2+t]? =(l[j]).cs[t]?
 | [],j,t,hj,_=>by cases hj
 |v::l,0,t,_,ht=>by
  have:flatK (v::l)=v.cs++flatK l:=rfl
  rw[this,List.getElem?_append_left (by rw[Lc];omega)]
  simp
 |v::l,j+1,t,hj,ht=>by
  have:flatK (v::l)=v.cs++flatK l:=rfl
  rw[this,List.getElem?_append_right (by rw[Lc];omega)]
  have e:(j+1) * 2+t - v.cs.length=j * 2+t:=by rw[Lc];omega
  rw[e,Rp l j t (by simpa using hj) ht]
  simp
theorem Mj: ∀(l:List KK),∀u∈flatK l,u.oneCell'=true
 | [],u,hu=>by cases hu
 |v::l,u,hu=>by
  have:flatK (v::l)=v.cs++flatK l:=rfl
  rw[this,List.mem_append] at hu
  rcases hu with hu|hu
  ·simp[KK.cs] at hu
   rcases hu with rfl|rfl<;>rfl
  ·exact Mj l u hu
def RowsK (w:World) (b off:Nat) (l:List KK):Prop:= ∀j,(h:j<l.length)->w.rangeAt b (off+j * 2) l[j].cs
theorem RowsK.keep {w w':World} {b off:Nat} {l:List KK} (h:RowsK w b off l) (he:w'.heap[b]? =w.heap[b]?):RowsK w' b off l:=by
 intro j hj k v hv
 have:=h j hj k v hv
 rw[←this]
 exact World.cell?_of_block he
theorem Nu {w:World} {b off:Nat} {l:List KK}:RowsK w b off l↔ ∀j u,(flatK l)[j]? =some u->w.cell? ⟨b,off+j,none⟩=some u:=by
 constructor
 ·intro h j u hu
  have hlt:j<(flatK l).length:=(List.getElem?_eq_some_iff.1 hu).1
  rw[Gp] at hlt
  have hd:j=j / 2 * 2+j % 2:=by omega
  have hm:j % 2<2:=Nat.mod_lt _ (by omega)
  have:=h (j / 2) (by omega) (j % 2) u
  rw[hd,Rp l (j / 2) (j % 2) (by omega) hm] at hu
  have h2:=this hu
  rw[Nat.add_assoc,←hd] at h2
  exact h2
 ·intro h j hj t u hu
  have ht:t<2:=by
   have:=(List.getElem?_eq_some_iff.1 hu).1
   rwa [Lc] at this
  rw[Nat.add_assoc]
  exact h _ u (by rw[Rp l j t hj ht];exact hu)
def Mo (w:World) (v:Value) (l:List KK):Prop:=(∃A c,v= .slice A 0 c/\l= [])∨ ∃b off cap,v= .slice (some ⟨b,off,none⟩) l.length cap/\b<w.heap.size/\RowsK w b off l
def OwnK (w:World) (base:Nat) (v:Value) (l:List KK):Prop:=w.ownsRow base 45 2 v l.length (flatK l)
theorem OwnK.nil (w:World) (base:Nat):OwnK w base (.slice none 0 0) []:=⟨rfl, .inl ⟨rfl,rfl⟩⟩
theorem OwnK.form {w:World} {base:Nat} {v:Value} {l:List KK} (h:OwnK w base v l):(v= .slice none 0 0/\l= [])∨ ∃g c,v= .slice (some ⟨g,0,none⟩) l.length c/\l.length<=c/\base<=g/\g<w.heap.size/\RowsK w g 0 l:=by
 rcases h.2 with ⟨rfl,h0⟩|⟨g,c,cur,rfl,h1,h2,h3,_,h5,h6⟩
 ·exact .inl ⟨rfl,List.length_eq_zero_iff.1 h0⟩
 ·refine .inr ⟨g,c,rfl,h3,h1,(Array.getElem?_eq_some_iff.1 h2).1,Nu.2 ?_⟩
  intro j u hu
  have hlt:j<l.length * 2:=by
   have:=(List.getElem?_eq_some_iff.1 hu).1
   rwa [Gp] at this
  rw[←h6,List.getElem?_take_of_lt hlt] at hu
  rw[Nat.zero_add]
  simp[World.cell?,h2]
  simpa using hu
theorem OwnK.reads {w:World} {base:Nat} {v:Value} {l:List KK} (h:OwnK w base v l):Mo w v l:=by
 rcases h.form with ⟨rfl,rfl⟩|⟨g,c,rfl,_,_,h4,h5⟩
 ·exact .inl ⟨none,0,rfl,rfl⟩
 ·exact .inr ⟨g,0,c,rfl,h4,h5⟩
theorem OwnK.mono {w:World} {base base':Nat} {v:Value} {l:List KK} (h:OwnK w base v l) (hb:base'<=base):OwnK w base' v l:=
 ⟨h.1,h.2.imp id fun ⟨g,cap,cur,h1,h2,h3⟩=>⟨g,cap,cur,h1,Nat.le_trans hb h2,h3⟩⟩
theorem OwnK.own {w:World} {base:Nat} {v:Value} {l:List KK} (h:OwnK w base v l): ∀g,v.ownBlock=some g->base<=g/\g<w.heap.size:=by
 intro g hg
 rcases h.form with ⟨rfl,_⟩|⟨g',c,rfl,_,h3,h4,_⟩
 ·simp[Value.ownBlock] at hg
 ·have e:g'=g:=by simpa [Value.ownBlock] using hg
  subst e
  exact⟨h3,h4⟩
theorem OwnK.block {w w':World} {base:Nat} {v:Value} {l:List KK} (h:OwnK w base v l) (he: ∀g,v.ownBlock=some g->w'.heap[g]? =w.heap[g]?):OwnK w' base v l:=by
 refine⟨h.1, ?_⟩
 rcases h.2 with h|⟨g',c',cur,rfl,h1,h2,h3⟩
 ·exact .inl h
 ·exact .inr ⟨_,c',cur,rfl,h1,(he g' rfl).trans h2,h3⟩
theorem OwnK.on {w w':World} {base:Nat} {v:Value} {l:List KK} (h:OwnK w base v l) (hb:Below w.heap.size w w'):OwnK w' base v l:=h.block (fun g hg=>hb.block g (h.own g hg).2)
theorem Jj:(prog.info? 45).map (fun i=>(i.zero,i.size,i.bytes))=some (some Gv.agg,2,24):=by kernel_rfl
section
variable {ops : Array Oper} {rest : List Oper} {o : Oper} {a : Act} {w : World} {Q : Exit → Act → World → Prop} {s x : Operand} {base : Nat} {l m : List KK} {v u : Value}
theorem append_k (hgd:o.guard=none) (ho:o.op= .call {callee:= .builtin .append,args:= #[s,x],argTypes:= #[62,62]}) (hs:a.eval s=v) (hx:a.eval x=u) (hown:OwnK w base v l) (hu:Mo w u m) (hcap: ∀c,u= .slice none 0 c->c=0)
  (hn:l.length+m.length<=6000000) (hbase:base<=w.heap.size)
  (h: ∀v' w',OwnK w' base v' (l++m)->w.grownBy w' v.ownBlock->wpList prog ops Q rest (a.put o.dst v') w'):wpList prog ops Q (o::rest) a w:=by
 obtain⟨i0,hi,hz0,hz1,hz2⟩:=info_parts Jj
 have main: ∀ad c,u= .slice (some ad) m.length c->(∀j u,(flatK m)[j]? =some u->w.cell? (ad.add j)=some u)->wpList prog ops Q (o::rest) a w:=fun ad c hu' hc=>
  wpList_append_own w hgd s x 62 ho base 45 i0 _ 2 24 underlying62 hi hz0 hz1 hz2 rfl (by decide) v l.length (flatK l) hs hown ad m.length c (flatK m) (hx.trans hu') (Gp m) hc (Mj m)
   (by unfold maxLen;omega) (by omega) hbase fun v' w' h1 h2 _=>h v' w' (by unfold OwnK;rw[Kn,List.length_append];exact h1) h2
 rcases hu with ⟨A,c,rfl,rfl⟩|⟨b,off,cap,rfl,hlt,hc⟩
 ·cases A with
  |none=>
   obtain rfl:=hcap c rfl
   refine wpList_append_own_none hgd s x 62 ho base 45 i0 2 underlying62 hi v l.length (flatK l) hs hown hx ?_
   exact h v w (by simpa using hown) ⟨rfl,rfl,rfl,Nat.le_refl _,fun _ _ _=>rfl⟩
  |some ad=>exact main ad c rfl (fun j u hu=>by simp[flatK] at hu)
 ·exact main _ cap rfl (fun j u hu=>by
   have:=Nu.1 hc j u hu
   by_cases e:j=0
   ·subst e;simpa [Addr.add] using this
   ·simpa [Addr.add,e] using this)
theorem Zdq {K:Act->World->Prop} {d:KK} (ho:o.op= .buildSlice 62 1 #[(0,x)]) (hx:a.eval x=d.agg) (h:K (a.put o.dst (.slice (some ⟨w.heap.size,0,none⟩) 1 1)) (w.alloc d.obj)):o.wp prog a w K Q:=by
 obtain⟨i0,hi,hz0,hz1,hz2⟩:=info_parts Jj
 refine wp_buildSlice 62 45 1 _ ho #[.string d.s, .int .i64 d.n] i0 _ underlying62 hi hz0 (by rw[hz1];decide) (by rw[hz1];decide) ?_ h
 rw[hz1]
 simp only[List.map_toArray,List.map_cons,List.map_nil,hx]
 kernel_rfl
theorem Xi {d:KK} (hw:Region.wanted o (yielded ops a.tmps)=true) (ho:o.op= .buildSlice 62 1 #[(0,x)]) (hx:a.eval x=d.agg)
  (h: ∀X,Mo X (.slice (some ⟨w.heap.size,0,none⟩) 1 1) [d]->X.heap.size=w.heap.size+1->Below w.heap.size w X->wpList prog ops Q rest (a.put o.dst (.slice (some ⟨w.heap.size,0,none⟩) 1 1)) X):wpList prog ops Q (o::rest) a w:=by
 refine BigFrame.wpList_want hw fun K hK=> ?_
 refine Zdq ho hx (hK _ _ (h _ ?_ (by simp) ((Below.refl _ _).alloc (Nat.le_refl _) _)))
 refine .inr ⟨w.heap.size,0,1,rfl,by simp,fun j hj=> ?_⟩
 obtain rfl:j=0:=by simpa using hj
 exact KLies.range (KLies.new w _ rfl d)
end
section
variable {md : Region.Mode} {ops : Array Oper} {Q : Exit → Act → World → Prop} {S : World → Prop} {w : World} {fuel : Nat} {listed : Array Bool} {a : Act} {o : Oper}
theorem index24 (b off n cap j:Nat) (hj:j<n) (w:World):(Instr.indexAt 62 (.slice (some ⟨b,off,none⟩) n cap) (.int .i64 j)).run prog w= .ok (.pointer (some ⟨b,off+j * 2,none⟩)) w:=by
 rw[run_indexAt_slice (h:=by kernel_rfl),if_pos ⟨by omega,by omega⟩]
 have e:(sizeOf (prog.elem 62)).run prog w= .ok 2 w:=by kernel_rfl
 rw[e]
 have e2:(Addr.add ⟨b,off,none⟩ ((j:Int).toNat * 2))=⟨b,off+j * 2,none⟩:=by
  unfold Addr.add
  by_cases h:j=0
  ·subst h;simp
  ·have h2: ¬j * 2=0:=by omega
   simp[h2]
 show Result.ok (Value.pointer (some (Addr.add ⟨b,off,none⟩ ((j:Int).toNat * 2)))) w=_
 rw[e2]
theorem ZaV {K:Act->World->Prop} {s x:Operand} {base:Nat} {l m:List KK} {v u:Value} (ho:o.op= .call {callee:= .builtin .append,args:= #[s,x],argTypes:= #[62,62]}) (hs:a.eval s=v) (hx:a.eval x=u) (hown:OwnK w base v l) (hu:Mo w u m) (hcap: ∀c,u= .slice none 0 c->c=0)
  (hn:l.length+m.length<=6000000) (hbase:base<=w.heap.size)
  (h: ∀v' w',OwnK w' base v' (l++m)->w.grownBy w' v.ownBlock->K (a.put o.dst v') w'):o.wp prog a w K Q:=by
 obtain⟨i0,hi,hz0,hz1,hz2⟩:=info_parts Jj
 have main: ∀ad c,u= .slice (some ad) m.length c->(∀j u,(flatK m)[j]? =some u->w.cell? (ad.add j)=some u)->o.wp prog a w K Q:=fun ad c hu' hc=>
  wp_append_own w s x 62 ho base 45 i0 _ 2 24 underlying62 hi hz0 hz1 hz2 rfl (by decide) v l.length (flatK l) hs hown ad m.length c (flatK m) (hx.trans hu') (Gp m) hc (Mj m)
   (by unfold maxLen;omega) (by omega) hbase fun v' w' h1 h2 _=>h v' w' (by unfold OwnK;rw[Kn,List.length_append];exact h1) h2
 rcases hu with ⟨A,c,rfl,rfl⟩|⟨b,off,cap,rfl,hlt,hc⟩
 ·cases A with
  |none=>
   obtain rfl:=hcap c rfl
   have hrun:=run_append_owned_none (P:=prog) (w:=w) base 62 o.type 45 i0 2 underlying62 hi v l.length (flatK l) hown
   have hK:=h v w (by simpa using hown) ⟨rfl,rfl,rfl,Nat.le_refl _,fun _ _ _=>rfl⟩
   unfold Oper.wp
   simp[execOp,ho,resolve,invoke,builtin,hs,hx,hrun,Result.andThen]
   exact hK
  |some ad=>exact main ad c rfl (fun j u hu=>by simp[flatK] at hu)
 ·exact main _ cap rfl (fun j u hu=>by
   have:=Nu.1 hc j u hu
   by_cases e:j=0
   ·subst e;simpa [Addr.add] using this
   ·simpa [Addr.add,e] using this)
end
section
variable {ops : Array Oper} {rest : List Oper} {o : Oper} {a : Act} {w : World} {Q : Exit → Act → World → Prop} {x ix : Operand} {b off n cap j p : Nat} {d : KK}
theorem Xh (hw:Region.wanted o (yielded ops a.tmps)=true) (ho:o.op= .indexAddr 62 x ix) (hx:a.eval x= .slice (some ⟨b,off,none⟩) n cap) (hix:a.eval ix= .int .i64 (j:Nat)) (hj:j<n) (h:wpList prog ops Q rest (a.put o.dst (.pointer (some ⟨b,off+j * 2,none⟩))) w):wpList prog ops Q (o::rest) a w:=by
 refine BigFrame.wpList_want hw fun K hK=> ?_
 unfold Oper.wp execOp
 simp only[ho,hx,hix]
 simp[index24 b off n cap j hj w]
 exact hK _ _ h
theorem Zbw (hw:Region.wanted o (yielded ops a.tmps)=true) (ho:o.op= .load 45 x) (hx:a.eval x= .pointer (some ⟨b,p,none⟩)) (hc:w.rangeAt b p d.cs) (h:wpList prog ops Q rest (a.put o.dst d.agg) w):wpList prog ops Q (o::rest) a w:=by
 obtain⟨t,hu,hd⟩:=ZaC
 refine BigFrame.wpList_want hw fun K hK=> ?_
 exact wp_load_mid 45 x ho b p hx _ t hc hu hd ZaD (hK _ _ h)
end
end
section
open Go Go.Proofs Go.Maps Go.RowKit Tryz
def ptrR:Value->Option (DataW Unit×List MemPlace)
 | .pointer none=>some (.nil, [])
 | .pointer (some ⟨b,0,none⟩)=>some (.lit (.int .i64 (b:Nat)), [])
 |_=>none
def pv:Option Nat->Value
 |none=> .pointer none
 |some b=> .pointer (some ⟨b,0,none⟩)
def pd:Option Nat->DataW Unit
 |none=> .nil
 |some b=> .lit (.int .i64 (b:Nat))
theorem ZcV (o:Option Nat):ptrR (pv o)=some (pd o, []):=by cases o<;>rfl
theorem pd_inj {o o':Option Nat} (h:pd o=pd o'):o=o':=by
 cases o<;>cases o'<;>simp[pd] at h ⊢
 omega
theorem ptrR_inv {v:Value} {o:Option Nat} {ps:List MemPlace} (h:ptrR v=some (pd o,ps)):v=pv o:=by
 unfold ptrR at h
 split at h
 ·have e:=congrArg Prod.fst (Option.some.inj h)
  rw[←pd_inj (o:=none) (o':=o) e];rfl
 ·rename_i b
  have e:=congrArg Prod.fst (Option.some.inj h)
  rw[←pd_inj (o:=some b) (o':=o) e];rfl
 ·cases h
def OkK (k:KK):Prop:=k.s.size<=maxLen/\(Lit.int .i64 k.n).wf=true
def kl (k:KK):Lit:=ZdU k.s k.n
theorem Zcr {k:KK} (h:OkK k):keyOf prog 45 k.agg=some (kl k):=Ux k.s k.n h.1 h.2
theorem kl_inj {k k':KK} (h:OkK k) (h':OkK k') (e:kl k=kl k'):k=k':=by
 obtain⟨h1,h2⟩:=klit_inj h.1 h.2 h'.1 h'.2 e
 exact KK.ext' h1 h2
theorem kl_key {k:KK} (h:OkK k):WideAt.IsKeyLit (kl k):=klit_key h.1 h.2
def MapIs (w:World) (b n sz:Nat) (F:KK->Option Nat):Prop:=
 ∃D:DataW Unit,w.ownsMap prog 45 ptrR b n D/\Maps.size D=sz/\ ∀k,OkK k->D.atKey (kl k) .nil=pd (F k)/\Maps.has D (kl k)=(F k).isSome
theorem MapIs.made (w:World):MapIs (w.alloc (.map #[] 0)) w.heap.size 0 0 (fun _=>none):=
 ⟨_,World.ownsMap_made w _ _ _,rfl,fun k _=>⟨rfl,rfl⟩⟩
theorem MapIs.lt {w:World} {b n sz:Nat} {F:KK->Option Nat} (h:MapIs w b n sz F):b<w.heap.size:=by
 obtain⟨D,h, -⟩:=h
 exact h.lt
theorem MapIs.block {w w':World} {b n sz:Nat} {F:KK->Option Nat} (h:MapIs w b n sz F) (he:w'.heap[b]? =w.heap[b]?):MapIs w' b n sz F:=by
 obtain⟨D,⟨es,clock,hb,Ft,hs,hD⟩,h2,h3⟩:=h
 exact⟨D,⟨es,clock,he.trans hb,Ft,hs,hD⟩,h2,h3⟩
theorem MapIs.mono {w:World} {b n n' sz:Nat} {F:KK->Option Nat} (h:MapIs w b n sz F) (hn:n<=n'):MapIs w b n' sz F:=by
 obtain⟨D,h,h2⟩:=h
 exact⟨D,h.mono hn,h2⟩
theorem zero74 (w:World):(zeroValue 195).run prog w= .ok (.pointer none) w:=by kernel_rfl
theorem MapIs.look {w:World} {b n sz:Nat} {F:KK->Option Nat} (h:MapIs w b n sz F) {k:KK} (hk:OkK k):
  (Instr.lookup 162 (.map (some b)) k.agg true).run prog w= .ok (.tuple #[pv (F k), .bool (F k).isSome]) w:=by
 obtain⟨D,h,h2,h3⟩:=h
 obtain⟨v,ps,hrun,hv⟩:=h.look_ok Xg underlying162 (zero74 w) (ZcV none) (Zcr hk)
 obtain⟨h4,h5⟩:=h3 k hk
 have hv':ptrR v=some (pd (F k),ps):=by rw[←h4];exact hv
 rw[hrun,h5,ptrR_inv hv']
theorem MapIs.len {w:World} {b n sz:Nat} {F:KK->Option Nat} (h:MapIs w b n sz F) (ty:TypeId):(Builtin.len_ #[162] ty #[.map (some b)]).run prog w= .ok (.int .i64 sz) w:=by
 obtain⟨D,h,h2,h3⟩:=h
 rw[h.len underlying162 ty,h2]
def Oc (F:KK->Option Nat) (k:KK) (r:Option Nat):KK->Option Nat:=fun q=>if q.s=k.s/\q.n=k.n then r else F q
theorem Lz (F:KK->Option Nat) (k:KK) (r:Option Nat):Oc F k r k=r:=by simp[Oc]
theorem Kx {F:KK->Option Nat} {k q:KK} (h:q≠k) (r:Option Nat):Oc F k r q=F q:=by
 unfold Oc
 rw[if_neg (fun e=>h (KK.ext' e.1 e.2))]
theorem MapIs.store {w:World} {b n sz:Nat} {F:KK->Option Nat} (h:MapIs w b n sz F) {k:KK} (hk:OkK k) (hn:n<maxLen) (r:Nat):
  ∃w',(Instr.mapUpdate 162 (.map (some b)) k.agg (pv (some r))).run prog w= .ok () w'/\MapIs w' b (n+1) (if (F k).isSome then sz else sz+1) (Oc F k (some r))/\w.mapTurned w' b:=by
 obtain⟨D,h,h2,h3⟩:=h
 obtain⟨w',hrun,ho,ht⟩:=h.store Xg underlying162 hn (Zcr hk) (ZcV (some r))
 have ti:=h.tidy Xg
 refine⟨w',hrun,⟨_,ho, ?_,fun q hq=> ?_⟩,ht⟩
 ·rw[size_put ti,(h3 k hk).2,h2]
 ·by_cases e:q=k
  ·subst e
   rw[atKey_put_same ti.isMap (kl_key hk),has_put_same ti.isMap (kl_key hk),Lz]
   exact⟨rfl,rfl⟩
  ·have ne:kl q≠kl k:=fun e'=>e (kl_inj hq hk e')
   rw[atKey_put_other ne,has_put_other ne,Kx e]
   exact h3 q hq
theorem MapIs.drop {w:World} {b n sz:Nat} {F:KK->Option Nat} (h:MapIs w b n sz F) {k:KK} (hk:OkK k) (ty:TypeId):
  ∃w',(Builtin.delete_ #[162,45] ty #[.map (some b),k.agg]).run prog w= .ok (.tuple #[]) w'/\MapIs w' b n (if (F k).isSome then sz - 1 else sz) (Oc F k none)/\w.mapTurned w' b:=by
 obtain⟨D,h,h2,h3⟩:=h
 obtain⟨w',hrun,ho,ht⟩:=h.drop Xg underlying162 (Zcr hk) ty
 have ti:=h.tidy Xg
 have hs:=size_del (k:=kl k) ti
 refine⟨w',hrun,⟨_,ho, ?_,fun q hq=> ?_⟩,ht⟩
 ·rw[(h3 k hk).2] at hs
  split at hs<;>rename_i hc<;>simp[hc]<;>omega
 ·by_cases e:q=k
  ·subst e
   rw[atKey_del_same,has_del_same,Lz]
   exact⟨rfl,rfl⟩
  ·have ne:kl q≠kl k:=fun e'=>e (kl_inj hq hk e')
   rw[atKey_del_other ne,has_del_other ne,Kx e]
   exact h3 q hq
end
section
open Go Go.Proofs Go.Maps Go.RowKit
def Holds (W:World) (B:Nat) (cs:List Value):Prop:=(∀j,W.frozen? ⟨B,j,none⟩=false)/\W.rangeAt B 0 cs
theorem Holds.block {W W1:World} {B:Nat} {cs:List Value} (h:Holds W B cs) (he:W1.heap[B]? =W.heap[B]?):Holds W1 B cs:=by
 have hc: ∀j,W1.cell? ⟨B,j,none⟩=W.cell? ⟨B,j,none⟩:=fun j=>World.cell?_of_block he
 have hf: ∀j,W1.frozen? ⟨B,j,none⟩=W.frozen? ⟨B,j,none⟩:=fun j=>World.frozen?_of_block he
 unfold Holds World.rangeAt at *
 simp only[hc,hf]
 exact h
theorem Holds.new (w:World) (cs:List Value) (t:TypeId):Holds (w.alloc (Obj.cells cs.toArray t)) w.heap.size cs:=by
 refine⟨fun j=> ?_,fun j v hv=> ?_⟩
 ·simp[go_sem]
 ·simp[go_sem]
  exact hv
theorem Holds.cell {W:World} {B:Nat} {cs:List Value} (h:Holds W B cs) (p:Nat) {v:Value} (hp:cs[p]? =some v):W.cell? ⟨B,p,none⟩=some v:=by
 have:=h.2 p v hp
 simpa using this
theorem Holds.mid {W:World} {B:Nat} {cs:List Value} (h:Holds W B cs) (p n:Nat):W.rangeAt B p ((cs.drop p).take n):=by
 intro j v hv
 rw[List.getElem?_take] at hv
 split at hv
 ·rw[List.getElem?_drop] at hv
  exact h.cell (p+j) hv
 ·cases hv
theorem Holds.there {W:World} {B:Nat} {cs:List Value} (h:Holds W B cs) (p n:Nat) (hp:p+n<=cs.length):W.there B p n:=by
 intro j hj
 refine⟨?_,h.1 _⟩
 rw[h.cell (p+j) (List.getElem?_eq_getElem (by omega))]
 rfl
theorem Holds.lt {W:World} {B:Nat} {cs:List Value} (h:Holds W B cs) (hc:0<cs.length):B<W.heap.size:=by
 have h0:=h.cell 0 (List.getElem?_eq_getElem hc)
 rcases Nat.lt_or_ge B W.heap.size with h1|h1
 ·exact h1
 ·exfalso
  have e:W.heap[B]? =none:=Array.getElem?_eq_none h1
  simp[World.cell?,e] at h0
def Bz (cs:List Value) (p:Nat) (vs:List Value):List Value:=cs.take p++vs++cs.drop (p+vs.length)
theorem Holds.put {W:World} {B:Nat} {cs:List Value} (h:Holds W B cs) (p:Nat) (vs:List Value) (hp:p+vs.length<=cs.length):Holds (W.setCells B p vs) B (Bz cs p vs):=by
 refine⟨fun j=>by rw[World.frozen?_setCells];exact h.1 j,fun j v hv=> ?_⟩
 unfold Bz at hv
 have hth:=h.there p vs.length hp
 have e0:(⟨B,0+j,none⟩:Addr)=⟨B,j,none⟩:=by simp
 rw[e0]
 by_cases h1:j<p
 ·rw[List.getElem?_append_left (by simp;omega),List.getElem?_append_left (by simp;omega),List.getElem?_take,if_pos h1] at hv
  rw[World.cell?_setCells_out B vs p W ⟨B,j,none⟩ (fun _ _=>Or.inl h1)]
  exact h.cell j hv
 ·by_cases h2:j<p+vs.length
  ·rw[List.getElem?_append_left (by simp;omega),List.getElem?_append_right (by simp;omega)] at hv
   have h3:=World.rangeAt_setCells_same W B p vs hth (j - p) v (by simpa [Nat.min_eq_left (by omega:p<=cs.length)] using hv)
   rwa [show p+(j - p)=j by omega] at h3
  ·rw[List.getElem?_append_right (by simp;omega),List.getElem?_drop] at hv
   rw[World.cell?_setCells_out B vs p W ⟨B,j,none⟩ (fun _ _=>Or.inr (by show p+vs.length<=j;omega))]
   refine h.cell j ?_
   rw[←hv]
   congr 1
   simp
   omega
section
variable {o : Oper} {a : Act} {W : World} {x : Operand} {B p : Nat} {cs : List Value}
theorem Ag {v:Value} (t:TypeId) (hna: ∀w,(isAgg t).run Tryz.prog w= .ok false w) (ho:o.op= .load t x) (hx:a.eval x= .pointer (some ⟨B,p,none⟩)) (hc:Holds W B cs) (hv:cs[p]? =some v):(execOp a.eval o).run Tryz.prog W= .ok (.value v) W:=by
 have h0:=hc.cell p hv
 unfold execOp
 simp only[ho,hx]
 simp[go_sem,h0,hna]
theorem Am {vs:List Value} (t:TypeId) (n:Nat) (hu: ∃d,Tryz.prog.underlying t=some d/\d.isRow=true) (hi:(Tryz.prog.info? t).map (·.size)=some n) (ho:o.op= .load t x) (hx:a.eval x= .pointer (some ⟨B,p,none⟩)) (hc:Holds W B cs) (hv:(cs.drop p).take n=vs) (hn:vs.length=n):(execOp a.eval o).run Tryz.prog W= .ok (.value (.agg vs.toArray)) W:=by
 obtain⟨d,hu,hd⟩:=hu
 have h0:=hc.mid p n
 rw[hv] at h0
 unfold execOp
 simp only[ho,hx,Instr.loadAt,Instr.sureAddr,Sem.run_bind,Sem.run_pure,Result.andThen_ok,run_loadVar_mid W B p t vs d h0 hu hd (by rw[hi,hn])]
end
end
section
open Go Go.Proofs Go.RowKit
def goodK (k:KK):Bool:=(Od k.s k.n).good
theorem ZbG (k:KK):goodK k=if k.n=0 then decide (k.s.size<=1048576) && vS k.s else decide (1<=k.n) && decide (k.n<=65536) && k.s.toList.isEmpty:=by
 unfold goodK Od
 by_cases h:k.n=0
 ·rw[if_pos h,if_pos h]
  simp[VV.good,Ke,inG,Vh,Up,vS]
 ·rw[if_neg h,if_neg h]
  simp[VV.good,Ke,inG,Vh]
  cases k.s.toList.isEmpty<;>simp
theorem Oy {k:KK} (h:goodK k=true):k.s.size<=1048576:=Zd0 h
theorem goodK_n {k:KK} (h:goodK k=true):0<=k.n/\k.n<=65536:=by
 rw[ZbG] at h
 by_cases hn:k.n=0
 ·omega
 ·rw[if_neg hn] at h
  simp at h
  omega
theorem subI (x y:Int) (hx: -1099511627776<=x/\x<=1099511627776) (hy: -1099511627776<=y/\y<=1099511627776) (w:World):(binOp .sub 3 (.int .i64 x) (.int .i64 y)).run Tryz.prog w= .ok (.int .i64 (x - y)) w:=by
 have e:IntKind.i64.wrap (x - y)=x - y:=by
  rw[IntKind.wrap_i64]
  omega
 simp[binOp,go_sem,e]
theorem kd_range (s:ByteArray) (n:Int):0<=Zc s n/\Zc s n<=2:=by
 unfold Zc
 split
 ·split<;>omega
 ·omega
theorem kn_le (s:ByteArray) (n:Int):ZaA s n<=4294967294:=by
 unfold ZaA
 split
 ·cases h:Nd (Dj s) with
  |none=>simp
  |some m=>simpa using Zc6 _ _ h
 ·omega
theorem all_take {l:List KK} {j:Nat} (h:j<l.length):(l.take (j+1)).all goodK=((l.take j).all goodK && goodK l[j]):=by
 rw[List.take_succ_eq_append_getElem h,List.all_append]
 simp
theorem all_not {l:List KK} {j:Nat} (h:j<l.length) (hg:goodK l[j]=false):l.all goodK=false:=by
 rw[List.all_eq_false]
 exact⟨l[j],List.getElem_mem h,by rw[hg];decide⟩
end
end Go.Proofs.YtieahhciibdnaaaGreatDoor
namespace Go.Proofs
open Go.Shelf
def Tryz.lays125_ren:Go.Shelf.Ren:=⟨fun|125=>86|128=>107|129=>108|n=>n,fun|46=>168|3=>3|51=>193|53=>105|4=>4|5=>5|9=>9|n=>n,fun|n=>n⟩
theorem Tryz.lays125:Go.Proofs.Lays.n125 Tryz.prog Tryz.lays125_ren:={
 mixed:=by kernel_rfl
 f125:=Tryz.func86.trans (congrArg some (by kernel_rfl))
 f128:=Tryz.func107.trans (congrArg some (by kernel_rfl))
 f129:=Tryz.func108.trans (congrArg some (by kernel_rfl))
 t3:=Tryz.underlying3
 a3:=Tryz.isAgg3
 z3:=Tryz.sizeOf3
 v3:=Tryz.zeroValue3
 t4:=Tryz.underlying4
 a4:=Tryz.isAgg4
 z4:=Tryz.sizeOf4
 v4:=Tryz.zeroValue4
 t5:=Tryz.underlying5
 a5:=Tryz.isAgg5
 z5:=Tryz.sizeOf5
 v5:=Tryz.zeroValue5
 t9:=Tryz.underlying9
 a9:=Tryz.isAgg9
 z9:=Tryz.sizeOf9
 v9:=Tryz.zeroValue9
 t46:=Tryz.underlying168
 a46:=Tryz.isAgg168
 z46:=Tryz.sizeOf168
 v46:=Tryz.zeroValue168
 t51:=Tryz.underlying193
 a51:=Tryz.isAgg193
 z51:=Tryz.sizeOf193
 v51:=Tryz.zeroValue193
 t53:=Tryz.underlying105
 a53:=Tryz.isAgg105
 z53:=Tryz.sizeOf105
 v53:=Tryz.zeroValue105}
/-- bits.Len: "Len returns the minimum number of bits required to represent x; the result is 0 for x == 0.": IT RETURNS 'Lib.bitLen x'; the world is as it was. (A uint has 64 bits in the model.) ITS CALLEE bits.Len64 IS MET BY ITS OWN CONTRACT OFF THE SHELF (lay that first). (LAID: no walk: one application.) -/
theorem Tryz.bits_Len (x:Int) (w:World) (h0:0<=x) (h1:x<=18446744073709551615):
  Calls Tryz.prog 86 #[.int .u64 x] w fun e w'=>e= .returned (.int .i64 (Lib.bitLen x.toNat))/\w'=w:=Any.bits_Len Tryz.lays125 x w h0 h1
def Tryz.lays283_ren:Go.Shelf.Ren:=⟨fun|283=>212|n=>n,fun|3=>3|9=>9|4=>4|n=>n,fun|n=>n⟩
theorem Tryz.lays283:Go.Proofs.Lays.n283 Tryz.prog Tryz.lays283_ren:={
 mixed:=by kernel_rfl
 f283:=Tryz.func212.trans (congrArg some (by kernel_rfl))
 t3:=Tryz.underlying3
 a3:=Tryz.isAgg3
 z3:=Tryz.sizeOf3
 v3:=Tryz.zeroValue3
 t4:=Tryz.underlying4
 a4:=Tryz.isAgg4
 z4:=Tryz.sizeOf4
 v4:=Tryz.zeroValue4
 t9:=Tryz.underlying9
 a9:=Tryz.isAgg9
 z9:=Tryz.sizeOf9
 v9:=Tryz.zeroValue9}
open Go.Lib in
/-- internal/strconv.small: "small returns the string for an i with 0 <= i < nSmalls.": i's decimal numeral. The world is as it was. (LAID: no walk: one application.) -/
theorem Tryz.internal_strconv_small (i:Nat) (h:i<100) (w:World):
  Calls Tryz.prog 212 #[.int .i64 i] w fun e w'=>e= .returned (.string ⟨(Lib.decDigits i).toArray⟩)/\w'=w:=Any.internal_strconv_small Tryz.lays283 i h w
def Tryz.laysM284_ren:Go.Shelf.Ren:=⟨fun|284=>213|129=>108|317=>217|318=>218|n=>n,fun|53=>105|3=>3|212=>293|0=>0|4=>4|46=>168|5=>5|9=>9|n=>n,fun|17=>3|n=>n⟩
theorem Tryz.laysM284:Go.Proofs.LaysM.n284 Tryz.prog Tryz.laysM284_ren:={
 mixed:=by kernel_rfl
 f129:=Tryz.func108.trans (congrArg some (by kernel_rfl))
 f284:=Tryz.func213.trans (congrArg some (by kernel_rfl))
 f317:=Tryz.func217.trans (congrArg some (by kernel_rfl))
 f318:=Tryz.func218.trans (congrArg some (by kernel_rfl))
 t0:=Tryz.underlying0
 a0:=Tryz.isAgg0
 z0:=Tryz.sizeOf0
 v0:=Tryz.zeroValue0
 t3:=Tryz.underlying3
 a3:=Tryz.isAgg3
 z3:=Tryz.sizeOf3
 v3:=Tryz.zeroValue3
 t4:=Tryz.underlying4
 a4:=Tryz.isAgg4
 z4:=Tryz.sizeOf4
 v4:=Tryz.zeroValue4
 t5:=Tryz.underlying5
 a5:=Tryz.isAgg5
 z5:=Tryz.sizeOf5
 v5:=Tryz.zeroValue5
 t9:=Tryz.underlying9
 a9:=Tryz.isAgg9
 z9:=Tryz.sizeOf9
 v9:=Tryz.zeroValue9
 t46:=Tryz.underlying168
 a46:=Tryz.isAgg168
 z46:=Tryz.sizeOf168
 v46:=Tryz.zeroValue168
 t53:=Tryz.underlying105
 a53:=Tryz.isAgg105
 z53:=Tryz.sizeOf105
 v53:=Tryz.zeroValue105
 t212:=Tryz.underlying293
 a212:=Tryz.isAgg293
 z212:=Tryz.sizeOf293
 v212:=Tryz.zeroValue293
 g17:=by kernel_rfl
 i0:=by kernel_rfl
 i3:=by kernel_rfl
 i4:=by kernel_rfl
 i5:=by kernel_rfl
 i9:=by kernel_rfl
 i46:=by kernel_rfl
 i53:=by kernel_rfl
 i212:=by kernel_rfl
 m17:=by kernel_rfl}
open Go.Lib in
theorem Tryz.internal_strconv_numDigits (u : Nat) (h1 : 1 ≤ u) (h2 : u < 18446744073709551616) (w : World) (htab : Lib.TabIs Tryz.prog w "internal/strconv.uint64pow10" .u64 Lib.pow10Tab) :
  Calls Tryz.prog 213 #[.int .u64 u] w fun e w'=>e= .returned (.int .i64 (Lib.nDigits u))/\w'=w:=Any.internal_strconv_numDigits Tryz.laysM284 u h1 h2 w htab
def Tryz.lays285_ren:Go.Shelf.Ren:=⟨fun|285=>214|n=>n,fun|37=>183|53=>105|3=>3|4=>4|51=>193|9=>9|5=>5|0=>0|n=>n,fun|n=>n⟩
theorem Tryz.lays285:Go.Proofs.Lays.n285 Tryz.prog Tryz.lays285_ren:={
 mixed:=by kernel_rfl
 f285:=Tryz.func214.trans (congrArg some (by kernel_rfl))
 t0:=Tryz.underlying0
 a0:=Tryz.isAgg0
 z0:=Tryz.sizeOf0
 v0:=Tryz.zeroValue0
 t3:=Tryz.underlying3
 a3:=Tryz.isAgg3
 z3:=Tryz.sizeOf3
 v3:=Tryz.zeroValue3
 t4:=Tryz.underlying4
 a4:=Tryz.isAgg4
 z4:=Tryz.sizeOf4
 v4:=Tryz.zeroValue4
 t5:=Tryz.underlying5
 a5:=Tryz.isAgg5
 z5:=Tryz.sizeOf5
 v5:=Tryz.zeroValue5
 t9:=Tryz.underlying9
 a9:=Tryz.isAgg9
 z9:=Tryz.sizeOf9
 v9:=Tryz.zeroValue9
 t37:=Tryz.underlying183
 a37:=Tryz.isAgg183
 z37:=Tryz.sizeOf183
 v37:=Tryz.zeroValue183
 t51:=Tryz.underlying193
 a51:=Tryz.isAgg193
 z51:=Tryz.sizeOf193
 v51:=Tryz.zeroValue193
 t53:=Tryz.underlying105
 a53:=Tryz.isAgg105
 z53:=Tryz.sizeOf105
 v53:=Tryz.zeroValue105}
open Go.RowKit Go.Sort Go.Lib in
/-- internal/strconv.formatBase10: "formatBase10 formats the decimal representation of u into a. The caller is responsible for ensuring that a is big enough to hold u. If a is too big, leading zeros will be filled in as needed.": THE ROW HOLDS u's DIGITS ('FmtInv .. 0 ..': every place t holds 'dg u (len - 1 - t)'); all else is as it was but for the count of draws. (LAID: no walk: one application.) -/
theorem Tryz.internal_strconv_formatBase10 (blk off cap:Nat) (u:Nat) (d:Array UInt8) (w:World) (hH:Holds (fun (b:UInt8)=>Value.int .u8 (b.toNat:Int)) w blk off d) (hu:u<10^d.size) (hu64:u<18446744073709551616) (hsz:d.size<4611686018427387904):
  Calls Tryz.prog 214 #[.slice (some ⟨blk,off,none⟩) d.size cap, .int .u64 u] w fun e w'=>
   e= .returned (.tuple #[])/\ ∃(n v':Nat) (dk:Array UInt8),w'=(putRow (fun (b:UInt8)=>Value.int .u8 (b.toNat:Int)) w blk off dk).drewN n/\FmtInv d.size u 0 v' dk:=Any.internal_strconv_formatBase10 Tryz.lays285 blk off cap u d w hH hu hu64 hsz
end Go.Proofs
namespace Go.Proofs.YtieahhciibdnaaaGreatDoor
set_option maxRecDepth 100000
set_option maxHeartbeats 0
section
open Go Go.Proofs Go.RowKit
theorem small72 (u:Nat) (h:u<100) (w:World):Calls Tryz.prog 207 #[.int .u64 (u:Nat), .int .i64 10] w fun e w'=>e= .returned (.string ⟨(Lib.decDigits u).toArray⟩)/\w'=w:=by
 have z:(u:Int)<100:=by omega
 have HS:=Ab (fun w=>Tryz.internal_strconv_small u h w)
 generalize Lib.decDigits u=d at *
 go_enter Tryz.func207,Tryz.ntmps207
 go_wp2_with fail
 refine(Aa HS _).mono ?_
 rintro e w1 ⟨rfl,rfl⟩
 go_wp2
 go_ret
 exact⟨rfl,rfl⟩
end
section
open Go Go.Proofs Go.RowKit Go.Sort Tryz
def TabP (w : World) : Prop := Lib.TabIs prog w "internal/strconv.uint64pow10" .u64 Lib.pow10Tab
theorem TabP.on {w w':World} (h:TabP w) (hb:Below w.heap.size w w'):TabP w':=by
 unfold TabP Lib.TabIs World.var? at *
 cases hg : prog.globalNamed "internal/strconv.uint64pow10" with
 |none=>simp[hg] at h
 |some g=>
  simp only[hg,Option.bind_some] at h ⊢
  have hlt:g<w.heap.size:=by
   rcases Nat.lt_or_ge g w.heap.size with h'|h'
   ·exact h'
   ·rw[Array.getElem?_eq_none h'] at h;simp at h
  rw[hb.block g hlt]
  exact h
theorem holds0 (w:World) (T:TypeId) (nd:Nat) (hs:nd<=24):Sort.Holds (fun (b:UInt8)=>Value.int .u8 (b.toNat:Int)) (w.alloc (.cells Lib.zeros24 T)) w.heap.size 0 (Array.replicate nd (0:UInt8)):=fun j hj=>by
 have hj':j<nd:=by simpa using hj
 refine⟨?_,World.frozen?_alloc_new _ _ _ _⟩
 rw[World.cell?_alloc_new,Lib.zeros24_at _ (by omega),getElem!_pos _ j hj]
 simp
theorem fin0 (w:World) (o:Obj) (dk:Array UInt8) (k:Nat): ∃os,(Sort.putRow (fun (b:UInt8)=>Value.int .u8 (b.toNat:Int)) (w.alloc o) w.heap.size 0 dk).drewN k=Sort.grow (w.drewN k) os:=by
 rw[Sort.alloc_eq_grow]
 obtain⟨os',_,e⟩:=Sort.putRow_grow_new (fun (b:UInt8)=>Value.int .u8 (b.toNat:Int)) w #[o] w.heap.size 0 dk (Nat.le_refl _)
 exact⟨os',by rw[e];rfl⟩
theorem fmt72 (u:Nat) (h100:100<=u) (hu64:u<18446744073709551616) (w:World) (htab:TabP w):Calls prog 207 #[.int .u64 (u:Nat), .int .i64 10] w fun e w'=>e= .returned (.string ⟨(Lib.decDigits u).toArray⟩)/\Below w.heap.size w w':=by
 have z: ¬(u:Int)<100:=by omega
 have hu1:1<=u:=by omega
 have hnd20:Lib.nDigits u<=20:=by have:=Lib.numDigits_eq u hu1 hu64;split at this<;>omega
 have hal:prog.arrayLen 286=24:=by kernel_rfl
 have hsl: ∀W,(Instr.sliceAt 286 (.pointer (some ⟨w.heap.size,0,none⟩)) none (some (.int .i64 (Lib.nDigits u:Int))) none).run prog W= .ok (.slice (some ⟨w.heap.size,0,none⟩) (Lib.nDigits u) 24) W:=fun W=>by
  rw[run_sliceAt_array_h W 286 ⟨w.heap.size,0,none⟩ (by kernel_rfl) .i64 (Lib.nDigits u:Int) (by omega) (by rw[hal];omega)]
  go_simp
 have hH0:=holds0 w 286 (Lib.nDigits u) (by omega)
 have hfmt:=Tryz.internal_strconv_formatBase10 w.heap.size 0 24 u (Array.replicate (Lib.nDigits u) 0) (w.alloc (.cells Lib.zeros24 286)) hH0 (by rw[Array.size_replicate];exact Lib.lt_pow_nDigits u) hu64 (by rw[Array.size_replicate];omega)
 rw[Array.size_replicate] at hfmt
 have HH0:=Ab hH0
 have HF0:=Ab hfmt
 have HT:=Ab htab
 clear hH0 hal htab hfmt
 go_enter func207,ntmps207
 go_wp2_with fail
 refine(Tryz.internal_strconv_numDigits u hu1 hu64 _ (Lib.tabIs_alloc (Aa HT) _)).mono ?_
 rintro e w' ⟨rfl,rfl⟩
 go_wp2_with fail
 refine(Aa HF0).mono ?_
 rintro e w' ⟨rfl,k,v',dk,rfl,hF⟩
 have hcv:(convert 183 9 (.slice (some ⟨w.heap.size,0,none⟩) (Lib.nDigits u) 24)).run prog ((putRow (fun (b:UInt8)=>Value.int .u8 (b.toNat:Int)) (w.alloc (.cells Lib.zeros24 286)) w.heap.size 0 dk).drewN k)= .ok (.string ⟨(Lib.decDigits u).toArray⟩) ((putRow (fun (b:UInt8)=>Value.int .u8 (b.toNat:Int)) (w.alloc (.cells Lib.zeros24 286)) w.heap.size 0 dk).drewN k):=by
  have h:=run_convert_bytes_back (P:=prog) ((putRow (fun (b:UInt8)=>Value.int .u8 (b.toNat:Int)) (w.alloc (.cells Lib.zeros24 286)) w.heap.size 0 dk).drewN k) 183 9 5 ⟨w.heap.size,0,none⟩ 24 (Lib.decDigits u) underlying183 underlying5 underlying9 (fun j hj=>by
   rw[Lib.row_is_numeral hF j hj,Lib.add_plain,World.cell?_drewN]
   exact cell?_putRow (fun (b:UInt8)=>Value.int .u8 (b.toNat:Int)) _ w.heap.size 0 _ dk (Aa HH0) (by rw[hF.size,Array.size_replicate]) j (by rw[hF.size];rw[Lib.decDigits_length] at hj;exact hj))
  rw[Lib.decDigits_length] at h
  exact h
 go_wp2
 go_ret
 obtain⟨os,eo⟩:=fin0 w (.cells Lib.zeros24 286) dk k
 refine⟨rfl, ?_⟩
 rw[eo]
 exact Lib.below_grow _ _ (Nat.le_refl _) _ _

def Qu (u:Nat):ByteArray:=⟨(Lib.decDigits u).toArray⟩
theorem fmt46 (u:Nat) (hu:u<18446744073709551616) (w:World) (htab:TabP w):Calls prog 195 #[.int .u64 (u:Nat), .int .i64 10] w fun e w'=>e= .returned (.string (Qu u))/\Below w.heap.size w w':=by
 have H72:Hid (∀w,TabP w->Calls prog 207 #[.int .u64 (u:Nat), .int .i64 10] w fun e w'=>e= .returned (.string (Qu u))/\Below w.heap.size w w'):=Ab (fun w hT=>by
  by_cases h:u<100
  ·exact(small72 u h w).mono (fun e w' h=>⟨h.1,h.2▸Below.refl _ _⟩)
  ·exact fmt72 u (by omega) hu w hT)
 have HT:=Ab htab
 clear htab
 generalize Qu u=s at *
 go_enter func195,ntmps195
 go_wp2_with fail
 refine(Aa H72 _ (Aa HT)).mono ?_
 rintro _ w1 ⟨rfl,hb⟩
 go_wp2
 go_ret
 exact⟨rfl,hb⟩
