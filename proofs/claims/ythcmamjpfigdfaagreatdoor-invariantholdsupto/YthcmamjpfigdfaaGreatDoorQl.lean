import Derived.Test.YthcmamjpfigdfaaGreatDoorQj
import Derived.Maps.OwnSet
import Derived.Maps.Own
import Derived.DeepKeys4
import Derived.Shelf.Strconv.Itoa0
import Derived.Shelf.Strconv.Itoa1
import Derived.Shelf.LaysM
import Derived.Shelf.Small.Bits
import Derived.Shelf.Strconv.Itoa2
import Derived.Sort.Lot0
set_option linter.all false
namespace Go.Proofs.YthcmamjpfigdfaaGreatDoor
set_option maxRecDepth 100000
set_option maxHeartbeats 0
section
open Go Go.Proofs Go.Maps Tryz
theorem Zcl:laidOutB prog=true:=by kernel_rfl
theorem row33:(37:TypeId)<prog.types.size:=of_decide_eq_true (by kernel_rfl)
theorem key33:prog.keyTypeAt 2 37=true:=by kernel_rfl
theorem Zay:Keyed prog 37:=Keyed.of_law (deep_law_laid Zcl (m:=2) (by omega) row33 key33 (by rw[underlying37]))
theorem keyT33:prog.keyType 37=true:=by kernel_rfl
theorem Zc0:decide ((1:Nat)<=prog.types.size)=true:=by kernel_rfl
theorem Zad: ∃n:Nat,prog.types.size+1=n+2:=by
 have h:(1:Nat)<=prog.types.size:=of_decide_eq_true Zc0
 generalize prog.types.size=m at h
 exact⟨m - 1,by omega⟩
def Zaz (s:ByteArray) (n:Int):Lit:= .string (keyBytes [.string s.data.toList, .int .i64 n])
theorem Zn (s:ByteArray) (n:Int) (hs:s.size<=maxLen) (hn:(Lit.int .i64 n).wf=true):keyOf prog 37 (.agg #[.string s, .int .i64 n])=some (Zaz s n):=by
 obtain⟨N,hN⟩:=Zad
 unfold keyOf
 rw[underlying37]
 simp only[]
 rw[hN]
 have c33:prog.cellsOf 37=2:=by kernel_rfl
 have hf:Value.formed prog 37 (.agg #[.string s, .int .i64 n])=true:=by
  simp[Value.formed,underlying37,underlying3,underlying9,c33]
 have c9:prog.cellsOf 9=1:=by kernel_rfl
 have c3:prog.cellsOf 3=1:=by kernel_rfl
 rw[hf,keyT33]
 simp[Program.keyLits,underlying37,underlying3,underlying9,c9,c3,c33,hs,hn,Value.cells,Zaz]
theorem klit_inj {s s':ByteArray} {n n':Int} (hs:s.size<=maxLen) (hn:(Lit.int .i64 n).wf=true) (hs':s'.size<=maxLen) (hn':(Lit.int .i64 n').wf=true) (h:Zaz s n=Zaz s' n'):s=s'/\n=n':=by
 have:=Zay.inj (Zn s n hs hn) (h▸Zn s' n' hs' hn')
 simpa using this
theorem klit_key {s:ByteArray} {n:Int} (hs:s.size<=maxLen) (hn:(Lit.int .i64 n).wf=true):WideAt.IsKeyLit (Zaz s n):=Zay.key (Zn s n hs hn)
end
end Go.Proofs.YthcmamjpfigdfaaGreatDoor
namespace Go.Proofs
open Go.Shelf
def Tryz.lays125_ren:Go.Shelf.Ren:=⟨fun|125=>231|128=>243|129=>244|n=>n,fun|46=>247|3=>3|51=>265|53=>114|4=>4|5=>5|9=>9|n=>n,fun|n=>n⟩
theorem Tryz.lays125:Go.Proofs.Lays.n125 Tryz.prog Tryz.lays125_ren:={
 mixed:=by kernel_rfl
 f125:=Tryz.func231.trans (congrArg some (by kernel_rfl))
 f128:=Tryz.func243.trans (congrArg some (by kernel_rfl))
 f129:=Tryz.func244.trans (congrArg some (by kernel_rfl))
 t3:=Tryz.underlying3
 a3:=Tryz.isAgg3
 z3:=Tryz.sizeOf3
 v3:=Tryz.zeroValue3
 t4:=Tryz.underlying4
 a4:=Tryz.isAgg4
 z4:=Tryz.sizeOf4
 v4:=Tryz.zeroValue4
 t5:=Tryz.underlying5
 a5:=Tryz.isAgg5
 z5:=Tryz.sizeOf5
 v5:=Tryz.zeroValue5
 t9:=Tryz.underlying9
 a9:=Tryz.isAgg9
 z9:=Tryz.sizeOf9
 v9:=Tryz.zeroValue9
 t46:=Tryz.underlying247
 a46:=Tryz.isAgg247
 z46:=Tryz.sizeOf247
 v46:=Tryz.zeroValue247
 t51:=Tryz.underlying265
 a51:=Tryz.isAgg265
 z51:=Tryz.sizeOf265
 v51:=Tryz.zeroValue265
 t53:=Tryz.underlying114
 a53:=Tryz.isAgg114
 z53:=Tryz.sizeOf114
 v53:=Tryz.zeroValue114}
/-- bits.Len: "Len returns the minimum number of bits required to represent x; the result is 0 for x == 0.": IT RETURNS 'Lib.bitLen x'; the world is as it was. (A uint has 64 bits in the model.) ITS CALLEE bits.Len64 IS MET BY ITS OWN CONTRACT OFF THE SHELF (lay that first). (LAID: no walk: one application.) -/
theorem Tryz.bits_Len (x:Int) (w:World) (h0:0<=x) (h1:x<=18446744073709551615):
  Calls Tryz.prog 231 #[.int .u64 x] w fun e w'=>e= .returned (.int .i64 (Lib.bitLen x.toNat))/\w'=w:=Any.bits_Len Tryz.lays125 x w h0 h1
def Tryz.lays129_ren:Go.Shelf.Ren:=⟨fun|129=>244|n=>n,fun|53=>114|3=>3|4=>4|46=>247|5=>5|9=>9|n=>n,fun|n=>n⟩
theorem Tryz.lays129:Go.Proofs.Lays.n129 Tryz.prog Tryz.lays129_ren:={
 mixed:=by kernel_rfl
 f129:=Tryz.func244.trans (congrArg some (by kernel_rfl))
 t3:=Tryz.underlying3
 a3:=Tryz.isAgg3
 z3:=Tryz.sizeOf3
 v3:=Tryz.zeroValue3
 t4:=Tryz.underlying4
 a4:=Tryz.isAgg4
 z4:=Tryz.sizeOf4
 v4:=Tryz.zeroValue4
 t5:=Tryz.underlying5
 a5:=Tryz.isAgg5
 z5:=Tryz.sizeOf5
 v5:=Tryz.zeroValue5
 t9:=Tryz.underlying9
 a9:=Tryz.isAgg9
 z9:=Tryz.sizeOf9
 v9:=Tryz.zeroValue9
 t46:=Tryz.underlying247
 a46:=Tryz.isAgg247
 z46:=Tryz.sizeOf247
 v46:=Tryz.zeroValue247
 t53:=Tryz.underlying114
 a53:=Tryz.isAgg114
 z53:=Tryz.sizeOf114
 v53:=Tryz.zeroValue114}
/-- bits.Len64: "Len64 returns the minimum number of bits required to represent x; the result is 0 for x == 0.": IT RETURNS 'Lib.bitLen x'; the world is as it was. ('h0', 'h1': x is a uint64.) (LAID: no walk: one application.) -/
theorem Tryz.bits_Len64 (x:Int) (w:World) (h0:0<=x) (h1:x<=18446744073709551615):
  Calls Tryz.prog 244 #[.int .u64 x] w fun e w'=>e= .returned (.int .i64 (Lib.bitLen x.toNat))/\w'=w:=Any.bits_Len64 Tryz.lays129 x w h0 h1
def Tryz.lays317_ren:Go.Shelf.Ren:=⟨fun|317=>257|n=>n,fun|3=>3|46=>247|n=>n,fun|n=>n⟩
theorem Tryz.lays317:Go.Proofs.Lays.n317 Tryz.prog Tryz.lays317_ren:={
 mixed:=by kernel_rfl
 f317:=Tryz.func257.trans (congrArg some (by kernel_rfl))
 t3:=Tryz.underlying3
 a3:=Tryz.isAgg3
 z3:=Tryz.sizeOf3
 v3:=Tryz.zeroValue3
 t46:=Tryz.underlying247
 a46:=Tryz.isAgg247
 z46:=Tryz.sizeOf247
 v46:=Tryz.zeroValue247}
open Go.Lib in
/-- internal/strconv.log10Pow2: "log10Pow2(x) returns ⌊log₁₀ 2**x⌋ = ⌊x * log₁₀ 2⌋.": '(x * 78913) >> 18', at an x up to 64 (a length in bits). The world is as it was. (LAID: no walk: one application.) -/
theorem Tryz.internal_strconv_log10Pow2 (x:Nat) (h:x<=64) (w:World):
  Calls Tryz.prog 257 #[.int .i64 x] w fun e w'=>e= .returned (.int .i64 (Lib.l10 x))/\w'=w:=Any.internal_strconv_log10Pow2 Tryz.lays317 x h w
def Tryz.lays318_ren:Go.Shelf.Ren:=⟨fun|318=>258|n=>n,fun|3=>3|4=>4|n=>n,fun|n=>n⟩
theorem Tryz.lays318:Go.Proofs.Lays.n318 Tryz.prog Tryz.lays318_ren:={
 mixed:=by kernel_rfl
 f318:=Tryz.func258.trans (congrArg some (by kernel_rfl))
 t3:=Tryz.underlying3
 a3:=Tryz.isAgg3
 z3:=Tryz.sizeOf3
 v3:=Tryz.zeroValue3
 t4:=Tryz.underlying4
 a4:=Tryz.isAgg4
 z4:=Tryz.sizeOf4
 v4:=Tryz.zeroValue4}
open Go.Lib in
/-- internal/strconv.bool2: "bool2 converts b to an integer: 1 for true, 0 for false." The world is as it was. (LAID: no walk: one application.) -/
theorem Tryz.internal_strconv_bool2_int (b:Bool) (w:World):
  Calls Tryz.prog 258 #[.bool b] w fun e w'=>e= .returned (.int .i64 (if b then 1 else 0))/\w'=w:=Any.internal_strconv_bool2_int Tryz.lays318 b w
def Tryz.lays283_ren:Go.Shelf.Ren:=⟨fun|283=>252|n=>n,fun|3=>3|9=>9|4=>4|n=>n,fun|n=>n⟩
theorem Tryz.lays283:Go.Proofs.Lays.n283 Tryz.prog Tryz.lays283_ren:={
 mixed:=by kernel_rfl
 f283:=Tryz.func252.trans (congrArg some (by kernel_rfl))
 t3:=Tryz.underlying3
 a3:=Tryz.isAgg3
 z3:=Tryz.sizeOf3
 v3:=Tryz.zeroValue3
 t4:=Tryz.underlying4
 a4:=Tryz.isAgg4
 z4:=Tryz.sizeOf4
 v4:=Tryz.zeroValue4
 t9:=Tryz.underlying9
 a9:=Tryz.isAgg9
 z9:=Tryz.sizeOf9
 v9:=Tryz.zeroValue9}
open Go.Lib in
/-- internal/strconv.small: "small returns the string for an i with 0 <= i < nSmalls.": i's decimal numeral. The world is as it was. (LAID: no walk: one application.) -/
theorem Tryz.internal_strconv_small (i:Nat) (h:i<100) (w:World):
  Calls Tryz.prog 252 #[.int .i64 i] w fun e w'=>e= .returned (.string ⟨(Lib.decDigits i).toArray⟩)/\w'=w:=Any.internal_strconv_small Tryz.lays283 i h w
def Tryz.lays285_ren:Go.Shelf.Ren:=⟨fun|285=>254|n=>n,fun|37=>53|53=>114|3=>3|4=>4|51=>265|9=>9|5=>5|0=>0|n=>n,fun|n=>n⟩
theorem Tryz.lays285:Go.Proofs.Lays.n285 Tryz.prog Tryz.lays285_ren:={
 mixed:=by kernel_rfl
 f285:=Tryz.func254.trans (congrArg some (by kernel_rfl))
 t0:=Tryz.underlying0
 a0:=Tryz.isAgg0
 z0:=Tryz.sizeOf0
 v0:=Tryz.zeroValue0
 t3:=Tryz.underlying3
 a3:=Tryz.isAgg3
 z3:=Tryz.sizeOf3
 v3:=Tryz.zeroValue3
 t4:=Tryz.underlying4
 a4:=Tryz.isAgg4
 z4:=Tryz.sizeOf4
 v4:=Tryz.zeroValue4
 t5:=Tryz.underlying5
 a5:=Tryz.isAgg5
 z5:=Tryz.sizeOf5
 v5:=Tryz.zeroValue5
 t9:=Tryz.underlying9
 a9:=Tryz.isAgg9
 z9:=Tryz.sizeOf9
 v9:=Tryz.zeroValue9
 t37:=Tryz.underlying53
 a37:=Tryz.isAgg53
 z37:=Tryz.sizeOf53
 v37:=Tryz.zeroValue53
 t51:=Tryz.underlying265
 a51:=Tryz.isAgg265
 z51:=Tryz.sizeOf265
 v51:=Tryz.zeroValue265
 t53:=Tryz.underlying114
 a53:=Tryz.isAgg114
 z53:=Tryz.sizeOf114
 v53:=Tryz.zeroValue114}
end Go.Proofs
namespace Go.Proofs.YthcmamjpfigdfaaGreatDoor
set_option maxRecDepth 100000
set_option maxHeartbeats 0
section
open Go Go.Proofs Go.RowKit Go.Sort
theorem Zb6 (hi first root:Nat) (d:Array Nat) (h:2 * root+1≥hi):siftDown ltN hi first root d=d:=by
 rw[siftDown,dif_pos h]
theorem Zd2 (hi first root:Nat) (d:Array Nat) (h: ¬2 * root+1≥hi) (h1: ¬(2 * root+1+1<hi/\ltN d[first+(2 * root+1)]! d[first+(2 * root+1)+1]! =true)):
  siftDown ltN hi first root d=if ltN d[first+root]! d[first+(2 * root+1)]! then siftDown ltN hi first (2 * root+1) (swp d (first+root) (first+(2 * root+1))) else d:=by
 rw[siftDown,dif_neg h,if_neg (by simpa using h1)]
 cases ltN d[first+root]! d[first+(2 * root+1)]! <;>simp
theorem sd_two (hi first root:Nat) (d:Array Nat) (h: ¬2 * root+1≥hi) (h1:2 * root+1+1<hi) (h2:ltN d[first+(2 * root+1)]! d[first+(2 * root+1)+1]! =true):
  siftDown ltN hi first root d=if ltN d[first+root]! d[first+(2 * root+2)]! then siftDown ltN hi first (2 * root+2) (swp d (first+root) (first+(2 * root+2))) else d:=by
 rw[siftDown,dif_neg h,if_pos (by simp[h1,h2])]
 cases ltN d[first+root]! d[first+(2 * root+2)]!
 ·simp
 ·simp only[Bool.not_true,Bool.false_eq_true,if_false,if_true]
  rw[dif_pos (by omega)]
theorem sift78 (blk cap lo hi first:Nat) (d:Array Nat) (w:World) (hL:LiesU w blk d) (hlo:lo<=d.size) (hfh:first+hi<=d.size) (hsz:d.size<=1500000):
  Calls Tryz.prog 246 #[.slice (some ⟨blk,0,none⟩) d.size cap, .int .i64 lo, .int .i64 hi, .int .i64 first] w fun e w'=>e= .returned (.tuple #[])/\LiesU w' blk (siftDown ltN hi first lo d)/\w.grownBy w' (some blk):=by
 have HL:=Ab hL
 clear hL
 go_enter Tryz.func246,Tryz.ntmps246
 go_wp2_with fail
 go_loopg [8] (d.size+1) (fun g s8 wr=> ∃(root:Nat) (dk:Array Nat),s8= .int .i64 root/\root<=d.size/\d.size+1 - root<=g/\Hid (dk.size=d.size)/\Hid (LiesU wr blk dk)/\Hid (w.grownBy wr (some blk))/\Hid (siftDown ltN hi first root dk=siftDown ltN hi first lo d))
 case atStart=>exact⟨lo,d,rfl,hlo,by omega,Ab rfl,HL,Ab (Kl _ _),Ab rfl⟩
 case round=>
  obtain⟨root,dk,rfl,hrs,hg,hsk,hLk,hGk,hOk⟩:=hrel
  obtain⟨c,hc⟩: ∃c,c=2 * root+1:=⟨_,rfl⟩
  have y1:IntKind.i64.wrap (2 * (root:Int))=2 * (root:Int):=by rw[IntKind.wrap_i64];omega
  have y2:IntKind.i64.wrap (2 * (root:Int)+1)=(c:Int):=by rw[IntKind.wrap_i64];omega
  have HCc:=Ab hc
  by_cases hst:2 * root+1≥hi
  ·have HE:=Ab (Zb6 hi first root dk hst)
   have z1:(hi:Int)<=c:=by omega
   clear hc
   go_wp2
   go_end0
   refine⟨rfl, ?_,Aa hGk⟩
   rw[←Aa hOk,Aa HE]
   exact Aa hLk
  ·have hds:=Aa hsk
   have z1: ¬(hi:Int)<=c:=by omega
   have y3:IntKind.i64.wrap ((c:Int)+1)=(c:Int)+1:=by rw[IntKind.wrap_i64];omega
   have y4:IntKind.i64.wrap ((first:Int)+(c:Int))=(first:Int)+(c:Int):=by rw[IntKind.wrap_i64];omega
   have y5:IntKind.i64.wrap ((first:Int)+(c:Int)+1)=(first:Int)+(c:Int)+1:=by rw[IntKind.wrap_i64];omega
   have y5':IntKind.i64.wrap ((first:Int)+((c:Int)+1))=(first:Int)+(c:Int)+1:=by rw[IntKind.wrap_i64];omega
   have y6:IntKind.i64.wrap ((first:Int)+(root:Int))=(first:Int)+(root:Int):=by rw[IntKind.wrap_i64];omega
   have y7:((first:Int)+(root:Int)).toNat=first+root:=by omega
   have y8:((first:Int)+(c:Int)).toNat=first+c:=by omega
   have y9:((first:Int)+(c:Int)+1).toNat=first+c+1:=by omega
   have x1:(0:Int)<=(first:Int)+(root:Int):=by omega
   have x2:(first:Int)+(root:Int)<d.size:=by omega
   have x3:(0:Int)<=(first:Int)+(c:Int):=by omega
   have x4:(first:Int)+(c:Int)<d.size:=by omega
   have x5:(0:Int)<=(first:Int)+(c:Int)+1:=by omega
   have n1: ¬c=root:=by omega
   have n2: ¬root=c:=by omega
   have n3: ¬first+c+1=first+root:=by omega
   have n4: ¬first+root=first+c+1:=by omega
   obtain⟨c0,f0⟩:=(Aa hLk).cell (first+root) (by omega)
   obtain⟨c1,f1⟩:=(Aa hLk).cell (first+c) (by omega)
   by_cases h1:2 * root+1+1<hi
   ·have z2:(c:Int)+1<hi:=by omega
    have x6:(first:Int)+(c:Int)+1<d.size:=by omega
    obtain⟨c2,f2⟩:=(Aa hLk).cell (first+c+1) (by omega)
    have HS1:=Ab (fun n=>((Aa hLk).drew n).swap (first+root) (first+c) (by omega) (by omega))
    have HS2:=Ab (fun n=>((Aa hLk).drew n).swap (first+root) (first+c+1) (by omega) (by omega))
    have HA:=Ab (fun (h:ltN dk[first+(2 * root+1)]! dk[first+(2 * root+1)+1]! =false)=>Zd2 hi first root dk hst (fun h'=>by rw[h] at h';cases h'.2))
    have HB:=Ab (sd_two hi first root dk hst h1)
    have eidx:first+(2 * root+2)=first+(2 * root+1)+1:=by omega
    have e2:2 * root+2=c+1:=by omega
    rw[eidx,e2] at HB
    rw[←hc] at HA HB
    clear eidx e2 hds hc
    generalize dk[first+root]! =v0 at *
    generalize dk[first+c]! =v1 at *
    generalize dk[first+c+1]! =v2 at *
    have HC:=Ab (Em v1 v2)
    have HC1:=Ab (Em v0 v1)
    have HC2:=Ab (Em v0 v2)
    generalize ltN v1 v2=r at *
    generalize ltN v0 v1=r1 at *
    generalize ltN v0 v2=r2 at *
    cases r
    ·have HE:=Ab (Aa HA rfl)
     clear HA HB HS2 HC2
     cases r1
     ·rw[if_neg (by simp)] at HE
      go_wp2_with fail
      go_quiet ((go_at_call 240;refine(Aa HC _).mono ?_;rintro e w9 ⟨rfl,rfl⟩;exact⟨rfl,_,rfl⟩))
      go_wp2_with fail
      go_quiet ((go_at_call 240;refine(Aa HC1 _).mono ?_;rintro e w9 ⟨rfl,rfl⟩;exact⟨rfl,_,rfl⟩))
      go_wp2
      (try simp only[Exit.inBlock,Exit.then])
      refine bodyPost_ret (results_none rfl _ _ _) rfl ?_
      refine⟨rfl, ?_,Dj (Dj (Aa hGk) _) _⟩
      rw[←Aa hOk,Aa HE]
      exact(Aa hLk).grown rfl
     ·rw[if_pos rfl] at HE
      go_wp2_with fail
      go_quiet ((go_at_call 240;refine(Aa HC _).mono ?_;rintro e w9 ⟨rfl,rfl⟩;exact⟨rfl,_,rfl⟩))
      go_wp2_with fail
      go_quiet ((go_at_call 240;refine(Aa HC1 _).mono ?_;rintro e w9 ⟨rfl,rfl⟩;exact⟨rfl,_,rfl⟩))
      go_wp2_with fail
      go_region
      all_goals go_wp2
      go_roundg (d.size+1 - (c))
      case measure=>(have:=Aa HCc;omega)
      case rel=>(have hcc:=Aa HCc;exact⟨c,swp dk (first+root) (first+c),by go_num,by omega,Nat.le_refl _,Ab (by rw[Dl];exact Aa hsk),Ab (Aa HS1 _),Ab (Bx (Dj (Aa hGk) _) (Dt _ _ _ _ _ _)),Ab (by rw[←Aa hOk,Aa HE])⟩)
    ·have HE:=Ab (Aa HB rfl)
     clear HA HB HS1 HC1
     cases r2
     ·rw[if_neg (by simp)] at HE
      go_wp2_with fail
      go_quiet ((go_at_call 240;refine(Aa HC _).mono ?_;rintro e w9 ⟨rfl,rfl⟩;exact⟨rfl,_,rfl⟩))
      go_wp2_with fail
      go_quiet ((go_at_call 240;refine(Aa HC2 _).mono ?_;rintro e w9 ⟨rfl,rfl⟩;exact⟨rfl,_,rfl⟩))
      go_wp2
      (try simp only[Exit.inBlock,Exit.then])
      refine bodyPost_ret (results_none rfl _ _ _) rfl ?_
      refine⟨rfl, ?_,Dj (Dj (Aa hGk) _) _⟩
      rw[←Aa hOk,Aa HE]
      exact(Aa hLk).grown rfl
     ·rw[if_pos rfl] at HE
      go_wp2_with fail
      go_quiet ((go_at_call 240;refine(Aa HC _).mono ?_;rintro e w9 ⟨rfl,rfl⟩;exact⟨rfl,_,rfl⟩))
      go_wp2_with fail
      go_quiet ((go_at_call 240;refine(Aa HC2 _).mono ?_;rintro e w9 ⟨rfl,rfl⟩;exact⟨rfl,_,rfl⟩))
      go_wp2_with fail
      go_region
      all_goals go_wp2
      go_roundg (d.size+1 - (c+1))
      case measure=>(have:=Aa HCc;omega)
      case rel=>(have hcc:=Aa HCc;exact⟨c+1,swp dk (first+root) (first+c+1),by go_num,by omega,Nat.le_refl _,Ab (by rw[Dl];exact Aa hsk),Ab (Aa HS2 _),Ab (Bx (Dj (Aa hGk) _) (Dt _ _ _ _ _ _)),Ab (by rw[←Aa hOk,Aa HE])⟩)
   ·have z2: ¬(c:Int)+1<hi:=by omega
    have HS1:=Ab (fun n=>((Aa hLk).drew n).swap (first+root) (first+c) (by omega) (by omega))
    have HE:=Ab (Zd2 hi first root dk hst (fun h'=>h1 h'.1))
    rw[←hc] at HE
    clear hds hc
    generalize dk[first+root]! =v0 at *
    generalize dk[first+c]! =v1 at *
    have HC1:=Ab (Em v0 v1)
    generalize ltN v0 v1=r1 at *
    cases r1
    ·rw[if_neg (by simp)] at HE
     go_wp2_with fail
     have z3:decide ((c:Int)+1<hi)=false:=decide_eq_false (by omega)
     go_quiet (fail)
     go_wp2_with fail
     go_quiet ((go_at_call 240;refine(Aa HC1 _).mono ?_;rintro e w9 ⟨rfl,rfl⟩;exact⟨rfl,_,rfl⟩))
     go_wp2
     (try simp only[Exit.inBlock,Exit.then])
     refine bodyPost_ret (results_none rfl _ _ _) rfl ?_
     refine⟨rfl, ?_,Dj (Dj (Aa hGk) _) _⟩
     rw[←Aa hOk,Aa HE]
     exact(Aa hLk).grown rfl
    ·rw[if_pos rfl] at HE
     go_wp2_with fail
     have z3:decide ((c:Int)+1<hi)=false:=decide_eq_false (by omega)
     go_quiet (fail)
     go_wp2_with fail
     go_quiet ((go_at_call 240;refine(Aa HC1 _).mono ?_;rintro e w9 ⟨rfl,rfl⟩;exact⟨rfl,_,rfl⟩))
     go_wp2_with fail
     go_region
     all_goals go_wp2
     go_roundg (d.size+1 - (c))
     case measure=>(have:=Aa HCc;omega)
     case rel=>(have hcc:=Aa HCc;exact⟨c,swp dk (first+root) (first+c),by go_num,by omega,Nat.le_refl _,Ab (by rw[Dl];exact Aa hsk),Ab (Aa HS1 _),Ab (Bx (Dj (Aa hGk) _) (Dt _ _ _ _ _ _)),Ab (by rw[←Aa hOk,Aa HE])⟩)
end
section
open Go Go.Proofs Go.RowKit Go.Sort Tryz
theorem LiesU.gb {w w':World} {blk:Nat} {d:Array Nat} {o:Option Nat} (h:LiesU w blk d) (hg:w.grownBy w' o) (hne:some blk≠o):LiesU w' blk d:=h.grown (hg.block blk h.lt hne)
theorem Zaw (blk cap a b c B s:Nat) (d:Array Nat) (w:World) (hL:LiesU w blk d) (hP:Pt w B s) (hB:blk≠B) (hs:s<=50) (ha:a<d.size) (hb:b<d.size) (hc:c<d.size) (hsz:d.size<=1500000):
  Calls prog 250 #[.slice (some ⟨blk,0,none⟩) d.size cap, .int .i64 a, .int .i64 b, .int .i64 c, .pointer (some ⟨B,0,none⟩)] w fun e w'=> ∃m s':Nat,e= .returned (.int .i64 m)/\(m=a∨m=b∨m=c)/\s'<=s+3/\Pt w' B s'/\w.grownBy w' (some B):=by
 have HL:=Ab hL
 have HP:=Ab hP
 have hBn:some blk≠some B:=fun e=>hB (Option.some.inj e)
 clear hL hP
 go_enter func250,ntmps250
 go_wp2_with fail
 refine(Zcf blk cap a b B s d w (Aa HL) (Aa HP) ha hb hsz).mono ?_
 rintro e w1 ⟨x1,y1,s1,rfl,h1,hs1,hP1,hG1⟩
 have HL1:=Ab ((Aa HL).gb hG1 hBn)
 have HP1:=Ab hP1
 have HG1:=Ab hG1
 clear hP1 hG1
 go_wp2_with fail
 refine(Zcf blk cap y1 c B s1 d w1 (Aa HL1) (Aa HP1) (by omega) hc hsz).mono ?_
 rintro e w2 ⟨x2,y2,s2,rfl,h2,hs2,hP2,hG2⟩
 have HL2:=Ab ((Aa HL1).gb hG2 hBn)
 have HP2:=Ab hP2
 have HG2:=Ab (Bx (Aa HG1) hG2)
 clear hP2 hG2
 go_wp2_with fail
 refine(Zcf blk cap x1 x2 B s2 d w2 (Aa HL2) (Aa HP2) (by omega) (by omega) hsz).mono ?_
 rintro e w3 ⟨x3,y3,s3,rfl,h3,hs3,hP3,hG3⟩
 have HF:=Ab (And.intro hP3 (Bx (Aa HG2) hG3))
 clear hP3 hG3
 go_wp2
 go_ret
 exact⟨y3,s3,rfl,by omega,by omega,(Aa HF).1,(Aa HF).2⟩
theorem Us (blk cap a B s:Nat) (d:Array Nat) (w:World) (hL:LiesU w blk d) (hP:Pt w B s) (hB:blk≠B)  (ha:0<a) (ha2:a+1<d.size) (hsz:d.size<=1500000) (hs:s<=50:=by omega):
  Calls prog 249 #[.slice (some ⟨blk,0,none⟩) d.size cap, .int .i64 a, .pointer (some ⟨B,0,none⟩)] w fun e w'=> ∃m s':Nat,e= .returned (.int .i64 m)/\(m=a - 1∨m=a∨m=a+1)/\s'<=s+3/\Pt w' B s'/\w.grownBy w' (some B):=by
 have HM:=Ab (Zaw blk cap (a - 1) a (a+1) B s d w hL hP hB hs (by omega) (by omega) ha2 hsz)
 clear hL hP
 have z1:IntKind.i64.wrap ((a:Int) - 1)=((a - 1:Nat):Int):=by rw[IntKind.wrap_i64];omega
 have z2:IntKind.i64.wrap ((a:Int)+1)=((a+1:Nat):Int):=by rw[IntKind.wrap_i64];omega
 go_enter func249,ntmps249
 go_wp2_with fail
 refine(Aa HM).mono ?_
 rintro e w1 ⟨m,s1,rfl,h1,hs1,hP1,hG1⟩
 have HF:=Ab (And.intro hP1 hG1)
 clear hP1 hG1
 go_wp2
 go_ret
 exact⟨m,s1,rfl,h1,hs1,(Aa HF).1,(Aa HF).2⟩
theorem pivot64 (blk cap a b:Nat) (d:Array Nat) (w:World) (hL:LiesU w blk d) (hab:a<b) (hb:b<=d.size) (hsz:d.size<=1500000):
  Calls prog 237 #[.slice (some ⟨blk,0,none⟩) d.size cap, .int .i64 a, .int .i64 b] w fun e w'=> ∃p h:Nat,e= .returned (.tuple #[.int .i64 p, .int .i64 h])/\a<=p/\p<b/\h<=2/\w.grownBy w' none:=by
 have HL:=Ab hL
 have hlt:=hL.lt
 clear hL
 obtain⟨l,hl⟩: ∃l,l=b - a:=⟨_,rfl⟩
 obtain⟨q,hq⟩: ∃q,q=l / 4:=⟨_,rfl⟩
 obtain⟨i,hi⟩: ∃i,i=a+q:=⟨_,rfl⟩
 obtain⟨j,hj⟩: ∃j,j=a+2 * q:=⟨_,rfl⟩
 obtain⟨k,hk⟩: ∃k,k=a+3 * q:=⟨_,rfl⟩
 have z1:IntKind.i64.wrap ((b:Int) - a)=(l:Int):=by rw[IntKind.wrap_i64];omega
 have z2:(l:Int).tdiv 4=(q:Int):=by rw[Int.tdiv_eq_ediv_of_nonneg (by omega)];omega
 have z2':(l:Int) / 4=(q:Int):=by omega
 have z3:IntKind.i64.wrap ((q:Int))=(q:Int):=by rw[IntKind.wrap_i64];omega
 have z4:IntKind.i64.wrap ((q:Int) * 2)=2 * (q:Int):=by rw[IntKind.wrap_i64];omega
 have z5:IntKind.i64.wrap ((q:Int) * 3)=3 * (q:Int):=by rw[IntKind.wrap_i64];omega
 have z6:IntKind.i64.wrap ((a:Int)+q)=(i:Int):=by rw[IntKind.wrap_i64];omega
 have z7:IntKind.i64.wrap ((a:Int)+2 * (q:Int))=(j:Int):=by rw[IntKind.wrap_i64];omega
 have z8:IntKind.i64.wrap ((a:Int)+3 * (q:Int))=(k:Int):=by rw[IntKind.wrap_i64];omega
 have HQ:=Ab (And.intro hl (And.intro hq (And.intro hi (And.intro hj hk))))
 clear hl hq hi hj hk
 have hP0:Pt (w.alloc (Obj.cells #[Value.int IntKind.i64 0] 3)) w.heap.size 0:=(show (w.heap.push _)[w.heap.size]? =_ from Array.getElem?_push_size)
 have HP0:=Ab hP0
 have hL0:=(Aa HL).grown (((Below.refl _ _).alloc (Nat.le_refl _) (Obj.cells #[Value.int IntKind.i64 0] 3)).block blk hlt)
 have HL0:=Ab hL0
 have HG0:Hid (∀X,(w.alloc (Obj.cells #[Value.int IntKind.i64 0] 3)).grownBy X (some w.heap.size)->w.grownBy X none):=Ab (fun X hX=>by
  have b0:=(Below.refl w.heap.size w).alloc (Nat.le_refl _) (Obj.cells #[Value.int IntKind.i64 0] 3)
  exact⟨hX.os.trans b0.os,hX.tape.trans b0.tape,hX.output.trans b0.output,Nat.le_trans b0.size hX.size,fun c hc _=>by
   rw[hX.block c (Nat.lt_of_lt_of_le hc b0.size) (fun e=>by cases e;omega)]
   exact b0.block c hc⟩)
 have hBB:blk≠w.heap.size:=by omega
 have hBn:some blk≠some w.heap.size:=fun e=>hBB (Option.some.inj e)
 clear hP0 hL0
 by_cases h50:50<=l
 ·have y1:(50:Int)<=l:=by omega
  have y2:(8:Int)<=l:=by omega
  go_enter func237,ntmps237
  go_wp2_with fail
  refine(Us blk cap i w.heap.size 0 d _ (Aa HL0) (Aa HP0) hBB (by have:=Aa HQ;omega) (by have:=Aa HQ;omega) hsz).mono ?_
  rintro e w1 ⟨i1,s1,rfl,h1,hs1,hP1,hG1⟩
  have HL1:=Ab ((Aa HL0).gb hG1 hBn)
  have HP1:=Ab hP1
  have HG1:=Ab hG1
  clear hP1 hG1
  go_wp2_with fail
  refine(Us blk cap j w.heap.size s1 d w1 (Aa HL1) (Aa HP1) hBB (by have:=Aa HQ;omega) (by have:=Aa HQ;omega) hsz).mono ?_
  rintro e w2 ⟨j1,s2,rfl,h2,hs2,hP2,hG2⟩
  have HL2:=Ab ((Aa HL1).gb hG2 hBn)
  have HP2:=Ab hP2
  have HG2:=Ab (Bx (Aa HG1) hG2)
  clear hP2 hG2
  go_wp2_with fail
  refine(Us blk cap k w.heap.size s2 d w2 (Aa HL2) (Aa HP2) hBB (by have:=Aa HQ;omega) (by have:=Aa HQ;omega) hsz).mono ?_
  rintro e w3 ⟨k1,s3,rfl,h3,hs3,hP3,hG3⟩
  have HL3:=Ab ((Aa HL2).gb hG3 hBn)
  have HP3:=Ab hP3
  have HG3:=Ab (Bx (Aa HG2) hG3)
  clear hP3 hG3
  go_wp2_with fail
  refine(Zaw blk cap i1 j1 k1 w.heap.size s3 d w3 (Aa HL3) (Aa HP3) hBB (by omega) (by have:=Aa HQ;omega) (by have:=Aa HQ;omega) (by have:=Aa HQ;omega) hsz).mono ?_
  rintro e w4 ⟨m,s4,rfl,h4,hs4,hP4,hG4⟩
  obtain⟨p1,p2,p3⟩:=hP4.cell
  have HF:=Ab (Aa HG0 _ (Bx (Aa HG3) hG4))
  have HR:=Ab (show a<=m/\m<b by have:=Aa HQ;omega)
  clear hP4 hG4 h1 h2 h3 h4
  go_wp2
  all_goals
   go_ret2
   first
    |exact⟨m,1,rfl,(Aa HR).1,(Aa HR).2,by omega,Aa HF⟩
    |exact⟨m,2,rfl,(Aa HR).1,(Aa HR).2,by omega,Aa HF⟩
    |exact⟨m,0,rfl,(Aa HR).1,(Aa HR).2,by omega,Aa HF⟩
 ·by_cases h8:8<=l
  ·have y1: ¬(50:Int)<=l:=by omega
   have y2:(8:Int)<=l:=by omega
   go_enter func237,ntmps237
   go_wp2_with fail
   refine(Zaw blk cap i j k w.heap.size 0 d _ (Aa HL0) (Aa HP0) hBB (by omega) (by have:=Aa HQ;omega) (by have:=Aa HQ;omega) (by have:=Aa HQ;omega) hsz).mono ?_
   rintro e w4 ⟨m,s4,rfl,h4,hs4,hP4,hG4⟩
   obtain⟨p1,p2,p3⟩:=hP4.cell
   have HF:=Ab (Aa HG0 _ hG4)
   have HR:=Ab (show a<=m/\m<b by have:=Aa HQ;omega)
   clear hP4 hG4 h4
   go_wp2
   all_goals
    go_ret2
    first
     |exact⟨m,1,rfl,(Aa HR).1,(Aa HR).2,by omega,Aa HF⟩
     |exact⟨m,2,rfl,(Aa HR).1,(Aa HR).2,by omega,Aa HF⟩
     |exact⟨m,0,rfl,(Aa HR).1,(Aa HR).2,by omega,Aa HF⟩
  ·have y1: ¬(50:Int)<=l:=by omega
   have y2: ¬(8:Int)<=l:=by omega
   have HF:=Ab (Aa HG0 _ (Kl _ _))
   have HR:=Ab (show a<=j/\j<b by have:=Aa HQ;omega)
   go_enter func237,ntmps237
   go_wp2
   go_ret2
   exact⟨j,1,rfl,(Aa HR).1,(Aa HR).2,by omega,Aa HF⟩
end
section
open Go Go.Proofs Go.RowKit Go.Sort
theorem Zb7 (hi first:Nat): ∀(n root:Nat) (d:Array Nat),hi - root<=n->(siftDown ltN hi first root d).size=d.size:=by
 intro n
 induction n with
 |zero=>
  intro root d h
  rw[Zb6 _ _ _ _ (by omega)]
 |succ n ih=>
  intro root d h
  by_cases hs:2 * root+1≥hi
  ·rw[Zb6 _ _ _ _ hs]
  ·by_cases h1:2 * root+1+1<hi/\ltN d[first+(2 * root+1)]! d[first+(2 * root+1)+1]! =true
   ·rw[sd_two _ _ _ _ hs h1.1 h1.2]
    split
    ·rw[ih _ _ (by omega),Dl]
    ·rfl
   ·rw[Zd2 _ _ _ _ hs h1]
    split
    ·rw[ih _ _ (by omega),Dl]
    ·rfl
theorem heap62 (blk cap a b:Nat) (d:Array Nat) (w:World) (hL:LiesU w blk d) (hab:a<b) (hb:b<=d.size) (hsz:d.size<=1500000):
  Calls Tryz.prog 235 #[.slice (some ⟨blk,0,none⟩) d.size cap, .int .i64 a, .int .i64 b] w fun e w'=>e= .returned (.tuple #[])/\LiesU w' blk (heapSort ltN d a b)/\w.grownBy w' (some blk):=by
 have HL:=Ab hL
 clear hL
 obtain⟨h,hh⟩: ∃h,h=b - a:=⟨_,rfl⟩
 have z1:IntKind.i64.wrap ((b:Int) - a)=(h:Int):=by rw[IntKind.wrap_i64];omega
 obtain⟨u,hu⟩: ∃u,u=h - 1:=⟨_,rfl⟩
 obtain⟨v,hv⟩: ∃v,v=u / 2:=⟨_,rfl⟩
 have z2:IntKind.i64.wrap ((h:Int) - 1)=(u:Int):=by rw[IntKind.wrap_i64];omega
 have z3:(u:Int).tdiv 2=(v:Int):=by rw[Int.tdiv_eq_ediv_of_nonneg (by omega)];omega
 have z3':(u:Int) / 2=(v:Int):=by omega
 have z4:IntKind.i64.wrap (v:Int)=(v:Int):=by rw[IntKind.wrap_i64];omega
 have hdef:heapSort ltN d a b=heapPop ltN a h (heapBuild ltN h a (v+1) d):=by unfold heapSort;rw[←hh,hv,hu]
 have HD:=Ab hdef
 have HH:=Ab (And.intro hh (And.intro hu hv))
 clear hdef hh hu hv
 go_enter Tryz.func235,Tryz.ntmps235
 go_wp2_with fail
 go_loopg [9] (v+1) (fun g s9 wr=> ∃(k:Nat) (dk:Array Nat),s9= .int .i64 ((k:Int) - 1)/\k<=v+1/\k<=g/\Hid (dk.size=d.size)/\Hid (LiesU wr blk dk)/\Hid (w.grownBy wr (some blk))/\Hid (heapBuild ltN h a k dk=heapBuild ltN h a (v+1) d))
 case atStart=>exact⟨v+1,d,by congr 1;omega,Nat.le_refl _,Nat.le_refl _,Ab rfl,HL,Ab (Kl _ _),Ab rfl⟩
 case round=>
  obtain⟨k,dk,hs9,hkv,hg,hsk,hLk,hGk,hOk⟩:=hrel
  cases k with
  |succ m=>
   have e9:(((m+1:Nat):Int) - 1)=(m:Int):=by omega
   rw[e9] at hs9
   subst hs9
   clear e9
   have HC:=Ab (sift78 blk cap m h a dk wr (Aa hLk) (by have:=Aa HH;have:=Aa hsk;omega) (by have:=Aa HH;have:=Aa hsk;omega) (by have:=Aa hsk;omega))
   rw[Aa hsk] at HC
   have y1:IntKind.i64.wrap ((m:Int) - 1)=(m:Int) - 1:=by have:=Aa HH;rw[IntKind.wrap_i64];omega
   have y2:(0:Int)<=m:=by omega
   go_wp2_with fail
   refine(Aa HC).mono ?_
   rintro e w1 ⟨rfl,hL1,hG1⟩
   have HL1:=Ab hL1
   have HG1:=Ab (Bx (Aa hGk) hG1)
   clear hL1 hG1
   go_wp2
   go_roundg m
   case measure=>omega
   case rel=>exact⟨m,siftDown ltN h a m dk,rfl,by omega,Nat.le_refl _,Ab (by rw[Zb7 h a _ _ _ (Nat.le_refl _)];exact Aa hsk),HL1,HG1,Ab (by rw[←Aa hOk];rfl)⟩
  |zero=>
   have e9:(((0:Nat):Int) - 1)= -1:=by omega
   rw[e9] at hs9
   subst hs9
   clear e9
   have HOk:=Ab (show dk=heapBuild ltN h a (v+1) d from Aa hOk)
   clear hOk
   go_wp2_with fail
   go_loopg [10] h (fun g s10 wr=> ∃(k:Nat) (dj:Array Nat),s10= .int .i64 ((k:Int) - 1)/\k<=h/\k<=g/\Hid (dj.size=d.size)/\Hid (LiesU wr blk dj)/\Hid (w.grownBy wr (some blk))/\Hid (heapPop ltN a k dj=heapPop ltN a h dk))
   case atStart=>exact⟨h,dk,by have:=Aa HH;congr 1;omega,Nat.le_refl _,Nat.le_refl _,hsk,hLk,hGk,Ab rfl⟩
   case round=>
    obtain⟨k,dj,hs9,hkv,hg,hsj,hLj,hGj,hOj⟩:=hrel
    cases k with
    |succ m=>
     have e9:(((m+1:Nat):Int) - 1)=(m:Int):=by omega
     rw[e9] at hs9
     subst hs9
     clear e9
     have hds:=Aa hsj
     have hhh:=Aa HH
     have hlt1:a<dj.size:=by omega
     have hlt2:a+m<dj.size:=by omega
     have HC:=Ab (fun X hX=>sift78 blk cap 0 m a (swp dj a (a+m)) X hX (by omega) (by rw[Dl];omega) (by rw[Dl];omega))
     rw[Dl,hds] at HC
     obtain⟨c1,f1⟩:=(Aa hLj).cell a hlt1
     obtain⟨c2,f2⟩:=(Aa hLj).cell (a+m) hlt2
     have HSw:=Ab (fun n=>((Aa hLj).drew n).swap a (a+m) hlt1 hlt2)
     have y1:IntKind.i64.wrap ((m:Int) - 1)=(m:Int) - 1:=by rw[IntKind.wrap_i64];omega
     have y2:(0:Int)<=m:=by omega
     have y3:IntKind.i64.wrap ((a:Int)+m)=(a:Int)+m:=by rw[IntKind.wrap_i64];omega
     have y4:((a:Int)+m).toNat=a+m:=by omega
     have y5:(a:Int)+m<d.size:=by omega
     have y6:(0:Int)<=(a:Int)+m:=by omega
     have y7:(a:Int)<d.size:=by omega
     clear hds hhh hlt1 hlt2
     by_cases hm0:m=0
     ·subst hm0
      simp only[Nat.add_zero] at c2 f2 HSw
      generalize dj[a]! =x at *
      go_wp2_with fail
      go_region
      all_goals go_wp2_with fail
      refine(Aa HC (((wr.setCell ⟨blk,a,none⟩ (.int .u32 (x:Nat))).setCell ⟨blk,a,none⟩ (.int .u32 (x:Nat))).drew) (LiesU.grown (Aa HSw 0) rfl)).mono ?_
      rintro e w1 ⟨rfl,hL1,hG1⟩
      have HL1:=Ab hL1
      have g0:=Bx (Aa hGj) (Dt wr blk a a (.int .u32 (x:Nat)) (.int .u32 (x:Nat)))
      have HG1:=Ab (Bx g0 ⟨hG1.os,hG1.tape,hG1.output,hG1.size,hG1.block⟩)
      clear hL1 hG1 g0
      go_wp2
      go_roundg 0
      case measure=>omega
      case rel=>exact⟨0,siftDown ltN 0 a 0 (swp dj a (a+0)),rfl,by omega,Nat.le_refl _,Ab (by rw[Zb7 0 a _ _ _ (Nat.le_refl _),Dl];exact Aa hsj),HL1,HG1,Ab (by rw[←Aa hOj];rfl)⟩
     ·have n1: ¬a+m=a:=by omega
      have n2: ¬a=a+m:=by omega
      generalize dj[a]! =x at *
      generalize dj[a+m]! =y at *
      go_wp2_with fail
      go_region
      all_goals go_wp2_with fail
      refine(Aa HC _ (Aa HSw _)).mono ?_
      rintro e w1 ⟨rfl,hL1,hG1⟩
      have HL1:=Ab hL1
      have HG1:=Ab (Bx (Bx (Dj (Aa hGj) _) (Dt _ _ _ _ _ _)) hG1)
      clear hL1 hG1
      go_wp2
      go_roundg m
      case measure=>omega
      case rel=>exact⟨m,siftDown ltN m a 0 (swp dj a (a+m)),rfl,by omega,Nat.le_refl _,Ab (by rw[Zb7 m a _ _ _ (Nat.le_refl _),Dl];exact Aa hsj),HL1,HG1,Ab (by rw[←Aa hOj];rfl)⟩
    |zero=>
     have e9:(((0:Nat):Int) - 1)= -1:=by omega
     rw[e9] at hs9
     subst hs9
     clear e9
     go_wp2
     go_end0
     refine⟨rfl, ?_,Aa hGj⟩
     rw[Aa HD,←Aa HOk,←Aa hOj]
     exact Aa hLj
def Rn (w:World) (B:Nat) (n:Nat):Prop:=w.heap[B]? =some (.cells #[.int .u64 (n:Int)] 308 (0,0))
theorem Rn.cell {w:World} {B n:Nat} (h:Rn w B n):w.cell? ⟨B,0,none⟩=some (.int .u64 (n:Int))/\w.frozen? ⟨B,0,none⟩=false/\B<w.heap.size:=by
 unfold Rn at h
 exact⟨by simp[go_sem,World.cell?,h],by simp[go_sem,World.frozen?,h],(Array.getElem?_eq_some_iff.1 h).1⟩
theorem next80 (B r:Nat) (w:World) (h:Rn w B r) (hr:r<2^64):
  Calls Tryz.prog 248 #[.pointer (some ⟨B,0,none⟩)] w fun e w'=> ∃r':Nat,r'<2^64/\e= .returned (.int .u64 r')/\Rn w' B r'/\w.grownBy w' (some B):=by
 obtain⟨c,f,hl⟩:=h.cell
 obtain⟨s1,hs1⟩: ∃s1,s1=r * 8192 % 18446744073709551616:=⟨_,rfl⟩
 have a1:IntKind.u64.wrap ((r:Int) * 8192)=(s1:Int):=by simp[IntKind.wrap,IntKind.bits,IntKind.signed];omega
 obtain⟨r1,hr1⟩: ∃r1,r1=r^^^s1:=⟨_,rfl⟩
 have l1:r1<2^64:=by rw[hr1];exact Nat.xor_lt_two_pow hr (by omega)
 have b1:bits .xor .u64 (r:Int) (s1:Int)=(r1:Int):=by rw[hr1];exact u64_xor_nat r s1 hr (by omega)
 obtain⟨s2,hs2⟩: ∃s2,s2=r1 / 128:=⟨_,rfl⟩
 have a2:(r1:Int) / 128=(s2:Int):=by omega
 obtain⟨r2,hr2⟩: ∃r2,r2=r1^^^s2:=⟨_,rfl⟩
 have l2:r2<2^64:=by rw[hr2];exact Nat.xor_lt_two_pow l1 (by omega)
 have b2:bits .xor .u64 (r1:Int) (s2:Int)=(r2:Int):=by rw[hr2];exact u64_xor_nat r1 s2 l1 (by omega)
 obtain⟨s3,hs3⟩: ∃s3,s3=r2 * 131072 % 18446744073709551616:=⟨_,rfl⟩
 have a3:IntKind.u64.wrap ((r2:Int) * 131072)=(s3:Int):=by simp[IntKind.wrap,IntKind.bits,IntKind.signed];omega
 obtain⟨r3,hr3⟩: ∃r3,r3=r2^^^s3:=⟨_,rfl⟩
 have l3:r3<2^64:=by rw[hr3];exact Nat.xor_lt_two_pow l2 (by omega)
 have b3:bits .xor .u64 (r2:Int) (s3:Int)=(r3:Int):=by rw[hr3];exact u64_xor_nat r2 s3 l2 (by omega)
 have HL:=Ab (And.intro l3 h)
 clear l1 l2 l3 hr h hs1 hr1 hs2 hr2 hs3 hr3
 go_enter Tryz.func248,Tryz.ntmps248
 go_wp2_with fail
 go_region
 all_goals go_wp2_with fail
 go_region
 all_goals go_wp2_with fail
 go_region
 obtain⟨X,hX⟩: ∃X,X=(((w.setCell ⟨B,0,none⟩ (.int .u64 (r1:Nat))).setCell ⟨B,0,none⟩ (.int .u64 (r2:Nat))).setCell ⟨B,0,none⟩ (.int .u64 (r3:Nat))).drew.drew.drew:=⟨_,rfl⟩
 have hR:Rn X B r3:=by
  have h:=(Aa HL).2
  unfold Rn at *
  rw[hX]
  show ((((w.setCell ⟨B,0,none⟩ (.int .u64 (r1:Nat))).setCell ⟨B,0,none⟩ (.int .u64 (r2:Nat))).setCell ⟨B,0,none⟩ (.int .u64 (r3:Nat)))).heap[B]? =_
  simp[World.setCell,Array.getElem?_modify,h]
 have hG:w.grownBy X (some B):=by
  rw[hX]
  have g0:=Bx (Bx (Xu w B 0 (.int .u64 (r1:Nat))) (Xu _ B 0 (.int .u64 (r2:Nat)))) (Xu _ B 0 (.int .u64 (r3:Nat)))
  exact⟨g0.os,g0.tape,g0.output,g0.size,g0.block⟩
 rw[←hX]
 have HF:=Ab (And.intro hR hG)
 obtain⟨c',f',hl'⟩:=hR.cell
 clear hX hR hG
 go_wp2
 go_ret
 exact⟨r3,(Aa HL).1,rfl,(Aa HF).1,(Aa HF).2⟩
theorem bl_all: ∀(f x:Nat),x<=f->1<=x->x<18446744073709551616->x<2^Lib.bitLen x/\2^Lib.bitLen x<=2 * x:=by
 intro f
 induction f with
 |zero=>intro x h1 h2;omega
 |succ f ih=>
  intro x h1 h2 h3
  rw[Lib.bitLen_half x (by omega) h3,Nat.pow_add,Nat.pow_one]
  by_cases h:x / 2=0
  ·rw[h,show Lib.bitLen 0=0 by decide+kernel]
   omega
  ·have:=ih (x / 2) (by omega) (by omega) (by omega)
   omega
theorem bl_le (n:Nat) (h0:8<=n) (h1:n<=1500000):n<2^Lib.bitLen n/\2^Lib.bitLen n<=2 * n/\Lib.bitLen n<=21:=by
 have h:=bl_all n n (Nat.le_refl _) (by omega) (by omega)
 refine⟨h.1,h.2, ?_⟩
 rcases Nat.lt_or_ge 21 (Lib.bitLen n) with hk|hk
 ·have:=Nat.pow_le_pow_right (n:=2) (by omega) hk
  simp at this
  omega
 ·exact hk
theorem pow79 (n:Nat) (h0:8<=n) (h1:n<=1500000) (w:World):Calls Tryz.prog 247 #[.int .i64 (n:Nat)] w fun e w'=>(∃m k:Nat,e= .returned (.int .u64 m)/\m=2^k/\n<m/\m<=2 * n)/\w'=w:=by
 have hb:=bl_le n h0 h1
 have HC:=Ab (Tryz.bits_Len (n:Int) w (by omega) (by omega))
 rw[Int.toNat_natCast] at HC
 have HB:=Ab hb
 obtain⟨k,hk⟩: ∃k,k=Lib.bitLen n:=⟨_,rfl⟩
 rw[←hk] at HC HB hb
 have hk12:=hb.2.2
 clear hk hb
 have z1:IntKind.u64.wrap (n:Int)=(n:Int):=by simp[IntKind.wrap,IntKind.bits,IntKind.signed];omega
 go_enter Tryz.func247,Tryz.ntmps247
 go_wp2_with fail
 refine(Aa HC).mono ?_
 rintro e w' ⟨rfl,rfl⟩
 have hcases:k=0∨k=1∨k=2∨k=3∨k=4∨k=5∨k=6∨k=7∨k=8∨k=9∨k=10∨k=11∨k=12∨k=13∨k=14∨k=15∨k=16∨k=17∨k=18∨k=19∨k=20∨k=21:=by omega
 rcases hcases with rfl|rfl|rfl|rfl|rfl|rfl|rfl|rfl|rfl|rfl|rfl|rfl|rfl|rfl|rfl|rfl|rfl|rfl|rfl|rfl|rfl|rfl
 all_goals
  go_wp2
  go_ret
  first
   |exact⟨⟨1,0,rfl,rfl,(Aa HB).1,(Aa HB).2.1⟩,rfl⟩
   |exact⟨⟨2,1,rfl,rfl,(Aa HB).1,(Aa HB).2.1⟩,rfl⟩
   |exact⟨⟨4,2,rfl,rfl,(Aa HB).1,(Aa HB).2.1⟩,rfl⟩
   |exact⟨⟨8,3,rfl,rfl,(Aa HB).1,(Aa HB).2.1⟩,rfl⟩
   |exact⟨⟨16,4,rfl,rfl,(Aa HB).1,(Aa HB).2.1⟩,rfl⟩
   |exact⟨⟨32,5,rfl,rfl,(Aa HB).1,(Aa HB).2.1⟩,rfl⟩
   |exact⟨⟨64,6,rfl,rfl,(Aa HB).1,(Aa HB).2.1⟩,rfl⟩
   |exact⟨⟨128,7,rfl,rfl,(Aa HB).1,(Aa HB).2.1⟩,rfl⟩
   |exact⟨⟨256,8,rfl,rfl,(Aa HB).1,(Aa HB).2.1⟩,rfl⟩
   |exact⟨⟨512,9,rfl,rfl,(Aa HB).1,(Aa HB).2.1⟩,rfl⟩
   |exact⟨⟨1024,10,rfl,rfl,(Aa HB).1,(Aa HB).2.1⟩,rfl⟩
   |exact⟨⟨2048,11,rfl,rfl,(Aa HB).1,(Aa HB).2.1⟩,rfl⟩
   |exact⟨⟨4096,12,rfl,rfl,(Aa HB).1,(Aa HB).2.1⟩,rfl⟩
   |exact⟨⟨8192,13,rfl,rfl,(Aa HB).1,(Aa HB).2.1⟩,rfl⟩
   |exact⟨⟨16384,14,rfl,rfl,(Aa HB).1,(Aa HB).2.1⟩,rfl⟩
   |exact⟨⟨32768,15,rfl,rfl,(Aa HB).1,(Aa HB).2.1⟩,rfl⟩
   |exact⟨⟨65536,16,rfl,rfl,(Aa HB).1,(Aa HB).2.1⟩,rfl⟩
   |exact⟨⟨131072,17,rfl,rfl,(Aa HB).1,(Aa HB).2.1⟩,rfl⟩
   |exact⟨⟨262144,18,rfl,rfl,(Aa HB).1,(Aa HB).2.1⟩,rfl⟩
   |exact⟨⟨524288,19,rfl,rfl,(Aa HB).1,(Aa HB).2.1⟩,rfl⟩
   |exact⟨⟨1048576,20,rfl,rfl,(Aa HB).1,(Aa HB).2.1⟩,rfl⟩
   |exact⟨⟨2097152,21,rfl,rfl,(Aa HB).1,(Aa HB).2.1⟩,rfl⟩
theorem and_lt (r k:Nat) (hk:k<=21) (hr:r<2^64): ∃o:Nat,o<2^k/\bits .and .u64 (r:Int) ((2^k - 1:Nat):Int)=(o:Int):=by
 have hp:2^k<=2097152:=Nat.pow_le_pow_right (n:=2) (by omega) hk
 have h0:0<2^k:=Nat.two_pow_pos k
 refine⟨r &&& (2^k - 1), ?_,u64_and_nat r _ hr (by omega)⟩
 rw[Nat.and_two_pow_sub_one_eq_mod]
 exact Nat.mod_lt _ h0
theorem break63 (blk cap a b:Nat) (d:Array Nat) (w:World) (hL:LiesU w blk d) (hab:a+8<=b) (hb:b<=d.size) (hsz:d.size<=1500000):
  Calls Tryz.prog 236 #[.slice (some ⟨blk,0,none⟩) d.size cap, .int .i64 a, .int .i64 b] w fun e w'=>e= .returned (.tuple #[])/\ ∃d',PermIn a b d d'/\LiesU w' blk d'/\w.grownBy w' (some blk):=by
 have HL:=Ab hL
 have hlt:=hL.lt
 clear hL
 obtain⟨l,hl⟩: ∃l,l=b - a:=⟨_,rfl⟩
 obtain⟨q,hq⟩: ∃q,q=l / 4:=⟨_,rfl⟩
 obtain⟨t0,ht0⟩: ∃t,t=a+2 * q - 1:=⟨_,rfl⟩
 obtain⟨t1,ht1⟩: ∃t,t=a+2 * q+1:=⟨_,rfl⟩
 obtain⟨t2,ht2⟩: ∃t,t=a+2 * q:=⟨_,rfl⟩
 have z1:IntKind.i64.wrap ((b:Int) - a)=(l:Int):=by rw[IntKind.wrap_i64];omega
 have z2:(l:Int).tdiv 4=(q:Int):=by rw[Int.tdiv_eq_ediv_of_nonneg (by omega)];omega
 have z2':(l:Int) / 4=(q:Int):=by omega
 have z3:IntKind.i64.wrap ((q:Int))=(q:Int):=by rw[IntKind.wrap_i64];omega
 have z4:IntKind.i64.wrap ((q:Int) * 2)=2 * (q:Int):=by rw[IntKind.wrap_i64];omega
 have z5:IntKind.i64.wrap ((a:Int)+2 * (q:Int))=(t2:Int):=by rw[IntKind.wrap_i64];omega
 have z6:IntKind.i64.wrap ((t2:Int) - 1)=(t0:Int):=by rw[IntKind.wrap_i64];omega
 have z7:IntKind.i64.wrap ((t2:Int)+1)=(t1:Int):=by rw[IntKind.wrap_i64];omega
 have z8:IntKind.u64.wrap (l:Int)=(l:Int):=by simp[IntKind.wrap,IntKind.bits,IntKind.signed];omega
 have z9:(8:Int)<=l:=by omega
 have HM:=Ab (pow79 l (by omega) (by omega))
 have HQ:=Ab (And.intro hl (And.intro hq (And.intro ht0 (And.intro ht1 ht2))))
 clear hl hq ht0 ht1 ht2
 go_enter Tryz.func236,Tryz.ntmps236
 go_wp2_with fail
 refine(Aa HM _).mono ?_
 rintro e w1 ⟨⟨m,k,rfl,hm,hm1,hm2⟩,rfl⟩
 have hk12:k<=21:=by
  rcases Nat.lt_or_ge 21 k with hk|hk
  ·have:=Nat.pow_le_pow_right (n:=2) (by omega) hk
   have:=Aa HQ
   simp at *
   omega
  ·exact hk
 have HMK:=Ab hm
 clear hm
 obtain⟨m1,hm1'⟩: ∃m1,m1=m - 1:=⟨_,rfl⟩
 have y0:IntKind.u64.wrap ((m:Int) - 1)=(m1:Int):=by have:=Aa HQ;simp[IntKind.wrap,IntKind.bits,IntKind.signed];omega
 have HAnd:Hid (∀r:Nat,r<2^64-> ∃o:Nat,o<m/\bits .and .u64 (r:Int) (m1:Int)=(o:Int)):=Ab (fun r hr=>by
  obtain⟨o,h1,h2⟩:=and_lt r k hk12 hr
  rw[←Aa HMK] at h1 h2
  rw[←hm1'] at h2
  exact⟨o,h1,h2⟩)
 clear hm1'
 have hR0:Rn (w.alloc (Obj.cells #[Value.int IntKind.u64 (l:Nat)] 308)) w.heap.size l:=(show (w.heap.push _)[w.heap.size]? =_ from Array.getElem?_push_size)
 have HR0:=Ab hR0
 have b0:=(Below.refl w.heap.size w).alloc (Nat.le_refl _) (Obj.cells #[Value.int IntKind.u64 (l:Nat)] 308)
 have HL0:=Ab ((Aa HL).grown (b0.block blk hlt))
 have HG0:Hid (w.grownBy (w.alloc (Obj.cells #[Value.int IntKind.u64 (l:Nat)] 308)) (some blk)):=Ab ⟨b0.os,b0.tape,b0.output,b0.size,fun c hc _=>b0.block c hc⟩
 have hBB:some blk≠some w.heap.size:=fun e=>by have:=Option.some.inj e;omega
 clear hR0 b0
 go_wp2_with fail
 go_loopg [9] (d.size+2) (fun g s9 wr=> ∃(x r:Nat) (dk:Array Nat),s9= .int .i64 x/\t0<=x/\x<=t1+1/\d.size+2 - x<=g/\Hid (dk.size=d.size)/\Hid (LiesU wr blk dk)/\Hid (Rn wr w.heap.size r)/\r<2^64/\Hid (w.grownBy wr (some blk))/\Hid (PermIn a b d dk))
 case atStart=>exact⟨t0,l,d,rfl,Nat.le_refl _,by have:=Aa HQ;omega,by have:=Aa HQ;omega,Ab rfl,HL0,HR0,by have:=Aa HQ;omega,HG0,Ab (permIn_refl d a b)⟩
 case round=>
  obtain⟨x,r,dk,rfl,hx1,hx2,hg,hsk,hLk,hRk,hr64,hGk,hPk⟩:=hrel
  by_cases hxt:x<=t1
  ·have y1:(x:Int)<=t1:=by omega
   have HN:=Ab (next80 w.heap.size r wr (Aa hRk) hr64)
   clear hr64
   go_wp2_with fail
   refine(Aa HN).mono ?_
   rintro e w1 ⟨r',hr',rfl,hR1,hG1⟩
   obtain⟨o,ho1,ho2⟩:=Aa HAnd r' hr'
   have HL1:=Ab ((Aa hLk).gb hG1 hBB)
   have HG1:Hid (w.grownBy w1 (some blk)):=Ab ⟨hG1.os.trans (Aa hGk).os,hG1.tape.trans (Aa hGk).tape,hG1.output.trans (Aa hGk).output,Nat.le_trans (Aa hGk).size hG1.size,fun c hc hne=>(hG1.block c (Nat.lt_of_lt_of_le hc (Aa hGk).size) (fun e=>by have:=Option.some.inj e;omega)).trans ((Aa hGk).block c hc hne)⟩
   have HR1:=Ab hR1
   have hlq:=Aa HQ
   have y2:IntKind.i64.wrap (o:Int)=(o:Int):=by rw[IntKind.wrap_i64];omega
   have hds:=Aa hsk
   obtain⟨o2,ho3⟩: ∃o2,o2=if l<=o then o - l else o:=⟨_,rfl⟩
   have ho4:o2<l:=by rw[ho3];split<;>omega
   have y4:IntKind.i64.wrap ((a:Int)+o2)=(a:Int)+o2:=by rw[IntKind.wrap_i64];omega
   have y5:((a:Int)+o2).toNat=a+o2:=by omega
   have y6:(0:Int)<=(a:Int)+o2:=by omega
   have y7:(a:Int)+o2<d.size:=by omega
   have y8:(x:Int)<d.size:=by omega
   have y9:IntKind.i64.wrap ((x:Int)+1)=((x+1:Nat):Int):=by rw[IntKind.wrap_i64];omega
   obtain⟨c1,f1⟩:=(Aa HL1).cell x (by omega)
   obtain⟨c2,f2⟩:=(Aa HL1).cell (a+o2) (by omega)
   have HSw:=Ab (fun n=>((Aa HL1).drew n).swap x (a+o2) (by omega) (by omega))
   have HP1:=Ab (permIn_trans d dk (swp dk x (a+o2)) a b (Aa hPk) (swp_permIn dk a b x (a+o2) (by omega) (by omega) (by omega) (by omega) (by omega)))
   have HRn:Hid (∀(X:World),w1.grownBy X (some blk)->Rn X w.heap.size r'):=Ab (fun X hX=>by
    unfold Rn
    rw[hX.block _ (Aa HR1).cell.2.2 (fun e=>hBB e.symm)]
    exact Aa HR1)
   have hoo:=Classical.em (l<=o)
   clear hR1 hG1 hlq hds hRk hLk hGk
   rcases hoo with hoo|hoo
   all_goals
    first
    |(have x1:(l:Int)<=o:=(by omega)
      rw[if_pos hoo] at ho3
      have x2:IntKind.i64.wrap ((o:Int) - l)=(o2:Int):=(by rw[IntKind.wrap_i64];omega)
      have HO3:=Ab ho3
      clear ho3
      go_wp2_with fail)
    |(have x1: ¬(l:Int)<=o:=(by omega)
      rw[if_neg hoo] at ho3
      subst ho3
      go_wp2_with fail)
    have hxx:=Classical.em (x=a+o2)
    rcases hxx with hxx|hxx
    all_goals
     first
     |(subst hxx
       generalize dk[a+o2]! =xv at *
       go_region
       all_goals go_wp2
       go_roundg (d.size+2 - (a+o2+1))
       case measure=>omega
       case rel=>
        have g0:=Dt w1 blk (a+o2) (a+o2) (.int .u32 (xv:Nat)) (.int .u32 (xv:Nat))
        exact⟨a+o2+1,r',swp dk (a+o2) (a+o2),by go_num,by omega,by omega,Nat.le_refl _,Ab (by rw[Dl];exact Aa hsk),Ab (LiesU.grown (Aa HSw 0) rfl),Ab (Aa HRn _ ⟨g0.os,g0.tape,g0.output,g0.size,g0.block⟩),hr',Ab (Bx (Aa HG1) ⟨g0.os,g0.tape,g0.output,g0.size,g0.block⟩),HP1⟩)
     |(have n1: ¬a+o2=x:=(fun e=>hxx e.symm)
       generalize dk[x]! =xv at *
       generalize dk[a+o2]! =yv at *
       go_region
       all_goals go_wp2
       go_roundg (d.size+2 - (x+1))
       case measure=>omega
       case rel=>
        have g0:=Dt w1 blk x (a+o2) (.int .u32 (yv:Nat)) (.int .u32 (xv:Nat))
        exact⟨x+1,r',swp dk x (a+o2),by go_num,by omega,by omega,Nat.le_refl _,Ab (by rw[Dl];exact Aa hsk),Ab (LiesU.grown (Aa HSw 0) rfl),Ab (Aa HRn _ ⟨g0.os,g0.tape,g0.output,g0.size,g0.block⟩),hr',Ab (Bx (Aa HG1) ⟨g0.os,g0.tape,g0.output,g0.size,g0.block⟩),HP1⟩)
  ·have y1: ¬(x:Int)<=t1:=by omega
   go_wp2
   go_end0
   exact⟨rfl,dk,Aa hPk,Aa hLk,Aa hGk⟩
