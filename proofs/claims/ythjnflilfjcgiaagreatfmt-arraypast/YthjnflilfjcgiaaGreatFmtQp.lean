import Derived.Test.YthjnflilfjcgiaaGreatFmtQf
import Derived.Maps.OwnSet
import Derived.Maps.Own
import Derived.DeepKeys4
import Derived.Shelf.Strconv.Itoa0
import Derived.Shelf.Strconv.Itoa1
import Derived.Shelf.LaysM
import Derived.Shelf.Small.Bits
import Derived.Shelf.Strconv.Itoa2
import Derived.Sort.Lot0
set_option linter.all false
namespace Go.Proofs.YthjnflilfjcgiaaGreatFmt
set_option maxRecDepth 100000
set_option maxHeartbeats 0
section
open Go Go.Proofs Go.Maps Tryz
theorem laidOut:laidOutB prog=true:=by kernel_rfl
theorem row33:(42:TypeId)<prog.types.size:=of_decide_eq_true (by kernel_rfl)
theorem key33:prog.keyTypeAt 2 42=true:=by kernel_rfl
theorem Us:Keyed prog 42:=Keyed.of_law (deep_law_laid laidOut (m:=2) (by omega) row33 key33 (by rw[underlying42]))
theorem keyT33:prog.keyType 42=true:=by kernel_rfl
theorem ZaA:decide ((1:Nat)<=prog.types.size)=true:=by kernel_rfl
theorem Zbx: ∃n:Nat,prog.types.size+1=n+2:=by
 have h:(1:Nat)<=prog.types.size:=of_decide_eq_true ZaA
 generalize prog.types.size=m at h
 exact⟨m - 1,by omega⟩
def Zc4 (s:ByteArray) (n:Int):Lit:= .string (keyBytes [.string s.data.toList, .int .i64 n])
theorem Rw (s:ByteArray) (n:Int) (hs:s.size<=maxLen) (hn:(Lit.int .i64 n).wf=true):keyOf prog 42 (.agg #[.string s, .int .i64 n])=some (Zc4 s n):=by
 obtain⟨N,hN⟩:=Zbx
 unfold keyOf
 rw[underlying42]
 simp only[]
 rw[hN]
 have c33:prog.cellsOf 42=2:=by kernel_rfl
 have hf:Value.formed prog 42 (.agg #[.string s, .int .i64 n])=true:=by
  simp[Value.formed,underlying42,underlying3,underlying9,c33]
 have c9:prog.cellsOf 9=1:=by kernel_rfl
 have c3:prog.cellsOf 3=1:=by kernel_rfl
 rw[hf,keyT33]
 simp[Program.keyLits,underlying42,underlying3,underlying9,c9,c3,c33,hs,hn,Value.cells,Zc4]
theorem klit_inj {s s':ByteArray} {n n':Int} (hs:s.size<=maxLen) (hn:(Lit.int .i64 n).wf=true) (hs':s'.size<=maxLen) (hn':(Lit.int .i64 n').wf=true) (h:Zc4 s n=Zc4 s' n'):s=s'/\n=n':=by
 have:=Us.inj (Rw s n hs hn) (h▸Rw s' n' hs' hn')
 simpa using this
theorem klit_key {s:ByteArray} {n:Int} (hs:s.size<=maxLen) (hn:(Lit.int .i64 n).wf=true):WideAt.IsKeyLit (Zc4 s n):=Us.key (Rw s n hs hn)
end
section
open Go Go.Proofs Go.RowKit Go.Sort
theorem rv_go (i j:Nat) (d:Array Nat) (h:i<j):reverseLoop i j d=reverseLoop (i+1) (j - 1) (swp d i j):=by rw[reverseLoop,if_pos h]
theorem rv_stop (i j:Nat) (d:Array Nat) (h: ¬i<j):reverseLoop i j d=d:=by rw[reverseLoop,if_neg h]
theorem ZcR (blk cap a b:Nat) (d:Array Nat) (w:World) (hL:LiesU w blk d) (hab:a<b) (hb:b<=d.size) (hsz:d.size<=1500000):
  Calls Tryz.prog 170 #[.slice (some ⟨blk,0,none⟩) d.size cap, .int .i64 a, .int .i64 b] w fun e w'=>e= .returned (.tuple #[])/\LiesU w' blk (reverseRange d a b)/\w.grownBy w' (some blk):=by
 have HL:=Ab hL
 clear hL
 have zb:IntKind.i64.wrap ((b:Int) - 1)=((b - 1:Nat):Int):=by rw[IntKind.wrap_i64];omega
 go_enter Tryz.func170,Tryz.ntmps170
 go_wp2_with fail
 go_loopg [6,7] (b+1) (fun g s6 s7 wr=> ∃(i j:Nat) (dk:Array Nat),s6= .int .i64 i/\s7= .int .i64 j/\a<=i/\i<=b/\j<b/\b+1 - i<=g/\Hid (dk.size=d.size)/\Hid (LiesU wr blk dk)/\Hid (w.grownBy wr (some blk))/\Hid (reverseLoop i j dk=reverseRange d a b))
 case atStart=>exact⟨a,b - 1,d,rfl,rfl,Nat.le_refl _,by omega,by omega,by omega,Ab rfl,HL,Ab (Jr _ _),Ab rfl⟩
 case round=>
  obtain⟨i,j,dk,rfl,rfl,hai,hib,hjb,hg,hsk,hLk,hGk,hOk⟩:=hrel
  have hds:=Aa hsk
  by_cases hlt:i<j
  ·have hiz:(i:Int)<j:=by omega
   obtain⟨c1,f1⟩:=(Aa hLk).cell i (by omega)
   obtain⟨c2,f2⟩:=(Aa hLk).cell j (by omega)
   have HGo:=Ab (rv_go i j dk hlt)
   have HSw:=Ab (fun n=>((Aa hLk).drew n).swap i j (by omega) (by omega))
   have z2:(j:Int)<d.size:=by omega
   have z3:(i:Int)<d.size:=by omega
   have z4:IntKind.i64.wrap ((j:Int) - 1)=((j - 1:Nat):Int):=by rw[IntKind.wrap_i64];omega
   have z5:IntKind.i64.wrap ((i:Int)+1)=((i+1:Nat):Int):=by rw[IntKind.wrap_i64];omega
   have n1: ¬i=j:=by omega
   have n2: ¬j=i:=by omega
   clear hds
   generalize dk[i]! =x at *
   generalize dk[j]! =y at *
   go_wp2_with fail
   go_region
   all_goals go_wp2
   go_roundg (b+1 - (i+1))
   case measure=>omega
   case rel=>exact⟨i+1,j - 1,swp dk i j,by go_num,by go_num,by omega,by omega,by omega,Nat.le_refl _,Ab (by rw[Dm];exact Aa hsk),Ab (Aa HSw _),Ab (Bw (Dj (Aa hGk) _) (Dt _ _ _ _ _ _)),Ab (by rw[←Aa HGo];exact Aa hOk)⟩
  ·have hiz: ¬(i:Int)<j:=by omega
   go_wp2
   go_end0
   refine⟨rfl, ?_,Aa hGk⟩
   rw[←Aa hOk,rv_stop _ _ _ hlt]
   exact Aa hLk
def Pt (w:World) (B:Nat) (n:Nat):Prop:=w.heap[B]? =some (.cells #[.int .i64 (n:Int)] 3 (0,0))
theorem Pt.cell {w:World} {B n:Nat} (h:Pt w B n):w.cell? ⟨B,0,none⟩=some (.int .i64 (n:Int))/\w.frozen? ⟨B,0,none⟩=false/\B<w.heap.size:=by
 unfold Pt at h
 exact⟨by simp[go_sem,World.cell?,h],by simp[go_sem,World.frozen?,h],(Array.getElem?_eq_some_iff.1 h).1⟩
theorem Pt.set {w:World} {B n:Nat} (h:Pt w B n) (m:Nat):Pt (w.setCell ⟨B,0,none⟩ (.int .i64 (m:Int))) B m:=by
 unfold Pt at *
 simp[World.setCell,Array.getElem?_modify,h]
theorem Zk (blk cap a b B s:Nat) (d:Array Nat) (w:World) (hL:LiesU w blk d) (hP:Pt w B s) (hs:s<=100) (ha:a<d.size) (hb:b<d.size) (hsz:d.size<=1500000):
  Calls Tryz.prog 182 #[.slice (some ⟨blk,0,none⟩) d.size cap, .int .i64 a, .int .i64 b, .pointer (some ⟨B,0,none⟩)] w fun e w'=> ∃x y s':Nat,e= .returned (.tuple #[.int .i64 x, .int .i64 y])/\(x=a/\y=b∨x=b/\y=a)/\s'<=s+1/\Pt w' B s'/\w.grownBy w' (some B):=by
 obtain⟨c1,f1⟩:=hL.cell a ha
 obtain⟨c2,f2⟩:=hL.cell b hb
 obtain⟨p1,p2,p3⟩:=hP.cell
 have HP:=Ab hP
 have z1:(a:Int)<d.size:=by omega
 have z2:(b:Int)<d.size:=by omega
 have z3:IntKind.i64.wrap ((s:Int)+1)=((s+1:Nat):Int):=by rw[IntKind.wrap_i64];omega
 clear hL hP
 generalize d[a]! =x at *
 generalize d[b]! =y at *
 have HC:=Ab (Ek y x)
 generalize ltN y x=r at *
 cases r
 ·go_enter Tryz.func182,Tryz.ntmps182
  go_wp2_with fail
  go_quiet ((go_at_call 172;refine Calls.quiet_of_same (Aa HC _)))
  go_wp2
  go_ret2
  exact⟨a,b,s,rfl, .inl ⟨rfl,rfl⟩,by omega,Aa HP,Dj (Jr _ _) _⟩
 ·go_enter Tryz.func182,Tryz.ntmps182
  go_wp2_with fail
  go_quiet ((go_at_call 172;refine Calls.quiet_of_same (Aa HC _)))
  go_wp2
  go_ret2
  exact⟨b,a,s+1,rfl, .inr ⟨rfl,rfl⟩,by omega,Pt.set (w:=w.drewN _) (Aa HP) (s+1),Bw (Dj (Jr _ _) _) (Qk _ _ _ _)⟩
end
end Go.Proofs.YthjnflilfjcgiaaGreatFmt
namespace Go.Proofs
open Go.Shelf
def Tryz.lays125_ren:Go.Shelf.Ren:=⟨fun|125=>165|128=>175|129=>98|n=>n,fun|46=>184|3=>3|51=>44|53=>46|4=>4|5=>5|9=>9|n=>n,fun|n=>n⟩
theorem Tryz.lays125:Go.Proofs.Lays.n125 Tryz.prog Tryz.lays125_ren:={
 mixed:=by kernel_rfl
 f125:=Tryz.func165.trans (congrArg some (by kernel_rfl))
 f128:=Tryz.func175.trans (congrArg some (by kernel_rfl))
 f129:=Tryz.func98.trans (congrArg some (by kernel_rfl))
 t3:=Tryz.underlying3
 a3:=Tryz.isAgg3
 z3:=Tryz.sizeOf3
 v3:=Tryz.zeroValue3
 t4:=Tryz.underlying4
 a4:=Tryz.isAgg4
 z4:=Tryz.sizeOf4
 v4:=Tryz.zeroValue4
 t5:=Tryz.underlying5
 a5:=Tryz.isAgg5
 z5:=Tryz.sizeOf5
 v5:=Tryz.zeroValue5
 t9:=Tryz.underlying9
 a9:=Tryz.isAgg9
 z9:=Tryz.sizeOf9
 v9:=Tryz.zeroValue9
 t46:=Tryz.underlying184
 a46:=Tryz.isAgg184
 z46:=Tryz.sizeOf184
 v46:=Tryz.zeroValue184
 t51:=Tryz.underlying44
 a51:=Tryz.isAgg44
 z51:=Tryz.sizeOf44
 v51:=Tryz.zeroValue44
 t53:=Tryz.underlying46
 a53:=Tryz.isAgg46
 z53:=Tryz.sizeOf46
 v53:=Tryz.zeroValue46}
/-- bits.Len: "Len returns the minimum number of bits required to represent x; the result is 0 for x == 0.": IT RETURNS 'Lib.bitLen x'; the world is as it was. (A uint has 64 bits in the model.) ITS CALLEE bits.Len64 IS MET BY ITS OWN CONTRACT OFF THE SHELF (lay that first). (LAID: no walk: one application.) -/
theorem Tryz.bits_Len (x:Int) (w:World) (h0:0<=x) (h1:x<=18446744073709551615):
  Calls Tryz.prog 165 #[.int .u64 x] w fun e w'=>e= .returned (.int .i64 (Lib.bitLen x.toNat))/\w'=w:=Any.bits_Len Tryz.lays125 x w h0 h1
def Tryz.lays283_ren:Go.Shelf.Ren:=⟨fun|283=>80|n=>n,fun|3=>3|9=>9|4=>4|n=>n,fun|n=>n⟩
theorem Tryz.lays283:Go.Proofs.Lays.n283 Tryz.prog Tryz.lays283_ren:={
 mixed:=by kernel_rfl
 f283:=Tryz.func80.trans (congrArg some (by kernel_rfl))
 t3:=Tryz.underlying3
 a3:=Tryz.isAgg3
 z3:=Tryz.sizeOf3
 v3:=Tryz.zeroValue3
 t4:=Tryz.underlying4
 a4:=Tryz.isAgg4
 z4:=Tryz.sizeOf4
 v4:=Tryz.zeroValue4
 t9:=Tryz.underlying9
 a9:=Tryz.isAgg9
 z9:=Tryz.sizeOf9
 v9:=Tryz.zeroValue9}
open Go.Lib in
/-- internal/strconv.small: "small returns the string for an i with 0 <= i < nSmalls.": i's decimal numeral. The world is as it was. (LAID: no walk: one application.) -/
theorem Tryz.internal_strconv_small (i:Nat) (h:i<100) (w:World):
  Calls Tryz.prog 80 #[.int .i64 i] w fun e w'=>e= .returned (.string ⟨(Lib.decDigits i).toArray⟩)/\w'=w:=Any.internal_strconv_small Tryz.lays283 i h w
def Tryz.laysM284_ren:Go.Shelf.Ren:=⟨fun|284=>81|129=>98|317=>97|318=>99|n=>n,fun|53=>46|3=>3|212=>182|0=>0|4=>4|46=>184|5=>5|9=>9|n=>n,fun|17=>1|n=>n⟩
theorem Tryz.laysM284:Go.Proofs.LaysM.n284 Tryz.prog Tryz.laysM284_ren:={
 mixed:=by kernel_rfl
 f129:=Tryz.func98.trans (congrArg some (by kernel_rfl))
 f284:=Tryz.func81.trans (congrArg some (by kernel_rfl))
 f317:=Tryz.func97.trans (congrArg some (by kernel_rfl))
 f318:=Tryz.func99.trans (congrArg some (by kernel_rfl))
 t0:=Tryz.underlying0
 a0:=Tryz.isAgg0
 z0:=Tryz.sizeOf0
 v0:=Tryz.zeroValue0
 t3:=Tryz.underlying3
 a3:=Tryz.isAgg3
 z3:=Tryz.sizeOf3
 v3:=Tryz.zeroValue3
 t4:=Tryz.underlying4
 a4:=Tryz.isAgg4
 z4:=Tryz.sizeOf4
 v4:=Tryz.zeroValue4
 t5:=Tryz.underlying5
 a5:=Tryz.isAgg5
 z5:=Tryz.sizeOf5
 v5:=Tryz.zeroValue5
 t9:=Tryz.underlying9
 a9:=Tryz.isAgg9
 z9:=Tryz.sizeOf9
 v9:=Tryz.zeroValue9
 t46:=Tryz.underlying184
 a46:=Tryz.isAgg184
 z46:=Tryz.sizeOf184
 v46:=Tryz.zeroValue184
 t53:=Tryz.underlying46
 a53:=Tryz.isAgg46
 z53:=Tryz.sizeOf46
 v53:=Tryz.zeroValue46
 t212:=Tryz.underlying182
 a212:=Tryz.isAgg182
 z212:=Tryz.sizeOf182
 v212:=Tryz.zeroValue182
 g17:=by kernel_rfl
 i0:=by kernel_rfl
 i3:=by kernel_rfl
 i4:=by kernel_rfl
 i5:=by kernel_rfl
 i9:=by kernel_rfl
 i46:=by kernel_rfl
 i53:=by kernel_rfl
 i212:=by kernel_rfl
 m17:=by kernel_rfl}
open Go.Lib in
theorem Tryz.internal_strconv_numDigits (u : Nat) (h1 : 1 ≤ u) (h2 : u < 18446744073709551616) (w : World) (htab : Lib.TabIs Tryz.prog w "internal/strconv.uint64pow10" .u64 Lib.pow10Tab) :
  Calls Tryz.prog 81 #[.int .u64 u] w fun e w'=>e= .returned (.int .i64 (Lib.nDigits u))/\w'=w:=Any.internal_strconv_numDigits Tryz.laysM284 u h1 h2 w htab
def Tryz.lays285_ren:Go.Shelf.Ren:=⟨fun|285=>82|n=>n,fun|37=>156|53=>46|3=>3|4=>4|51=>44|9=>9|5=>5|0=>0|n=>n,fun|n=>n⟩
theorem Tryz.lays285:Go.Proofs.Lays.n285 Tryz.prog Tryz.lays285_ren:={
 mixed:=by kernel_rfl
 f285:=Tryz.func82.trans (congrArg some (by kernel_rfl))
 t0:=Tryz.underlying0
 a0:=Tryz.isAgg0
 z0:=Tryz.sizeOf0
 v0:=Tryz.zeroValue0
 t3:=Tryz.underlying3
 a3:=Tryz.isAgg3
 z3:=Tryz.sizeOf3
 v3:=Tryz.zeroValue3
 t4:=Tryz.underlying4
 a4:=Tryz.isAgg4
 z4:=Tryz.sizeOf4
 v4:=Tryz.zeroValue4
 t5:=Tryz.underlying5
 a5:=Tryz.isAgg5
 z5:=Tryz.sizeOf5
 v5:=Tryz.zeroValue5
 t9:=Tryz.underlying9
 a9:=Tryz.isAgg9
 z9:=Tryz.sizeOf9
 v9:=Tryz.zeroValue9
 t37:=Tryz.underlying156
 a37:=Tryz.isAgg156
 z37:=Tryz.sizeOf156
 v37:=Tryz.zeroValue156
 t51:=Tryz.underlying44
 a51:=Tryz.isAgg44
 z51:=Tryz.sizeOf44
 v51:=Tryz.zeroValue44
 t53:=Tryz.underlying46
 a53:=Tryz.isAgg46
 z53:=Tryz.sizeOf46
 v53:=Tryz.zeroValue46}
open Go.RowKit Go.Sort Go.Lib in
/-- internal/strconv.formatBase10: "formatBase10 formats the decimal representation of u into a. The caller is responsible for ensuring that a is big enough to hold u. If a is too big, leading zeros will be filled in as needed.": THE ROW HOLDS u's DIGITS ('FmtInv .. 0 ..': every place t holds 'dg u (len - 1 - t)'); all else is as it was but for the count of draws. (LAID: no walk: one application.) -/
theorem Tryz.internal_strconv_formatBase10 (blk off cap:Nat) (u:Nat) (d:Array UInt8) (w:World) (hH:Holds (fun (b:UInt8)=>Value.int .u8 (b.toNat:Int)) w blk off d) (hu:u<10^d.size) (hu64:u<18446744073709551616) (hsz:d.size<4611686018427387904):
  Calls Tryz.prog 82 #[.slice (some ⟨blk,off,none⟩) d.size cap, .int .u64 u] w fun e w'=>
   e= .returned (.tuple #[])/\ ∃(n v':Nat) (dk:Array UInt8),w'=(putRow (fun (b:UInt8)=>Value.int .u8 (b.toNat:Int)) w blk off dk).drewN n/\FmtInv d.size u 0 v' dk:=Any.internal_strconv_formatBase10 Tryz.lays285 blk off cap u d w hH hu hu64 hsz
end Go.Proofs
namespace Go.Proofs.YthjnflilfjcgiaaGreatFmt
set_option maxRecDepth 100000
set_option maxHeartbeats 0
section
open Go Go.Proofs Go.RowKit Go.Sort Tryz
theorem LiesU.gb {w w':World} {blk:Nat} {d:Array Nat} {o:Option Nat} (h:LiesU w blk d) (hg:w.grownBy w' o) (hne:some blk≠o):LiesU w' blk d:=h.grown (hg.block blk h.lt hne)
theorem Uq (blk cap a b c B s:Nat) (d:Array Nat) (w:World) (hL:LiesU w blk d) (hP:Pt w B s) (hB:blk≠B) (hs:s<=50) (ha:a<d.size) (hb:b<d.size) (hc:c<d.size) (hsz:d.size<=1500000):
  Calls prog 180 #[.slice (some ⟨blk,0,none⟩) d.size cap, .int .i64 a, .int .i64 b, .int .i64 c, .pointer (some ⟨B,0,none⟩)] w fun e w'=> ∃m s':Nat,e= .returned (.int .i64 m)/\(m=a∨m=b∨m=c)/\s'<=s+3/\Pt w' B s'/\w.grownBy w' (some B):=by
 have HL:=Ab hL
 have HP:=Ab hP
 have hBn:some blk≠some B:=fun e=>hB (Option.some.inj e)
 clear hL hP
 go_enter func180,ntmps180
 go_wp2_with fail
 refine(Zk blk cap a b B s d w (Aa HL) (Aa HP) (by omega) ha hb hsz).mono ?_
 rintro e w1 ⟨x1,y1,s1,rfl,h1,hs1,hP1,hG1⟩
 have HL1:=Ab ((Aa HL).gb hG1 hBn)
 have HP1:=Ab hP1
 have HG1:=Ab hG1
 clear hP1 hG1
 go_wp2_with fail
 refine(Zk blk cap y1 c B s1 d w1 (Aa HL1) (Aa HP1) (by omega) (by omega) hc hsz).mono ?_
 rintro e w2 ⟨x2,y2,s2,rfl,h2,hs2,hP2,hG2⟩
 have HL2:=Ab ((Aa HL1).gb hG2 hBn)
 have HP2:=Ab hP2
 have HG2:=Ab (Bw (Aa HG1) hG2)
 clear hP2 hG2
 go_wp2_with fail
 refine(Zk blk cap x1 x2 B s2 d w2 (Aa HL2) (Aa HP2) (by omega) (by omega) (by omega) hsz).mono ?_
 rintro e w3 ⟨x3,y3,s3,rfl,h3,hs3,hP3,hG3⟩
 have HF:=Ab (And.intro hP3 (Bw (Aa HG2) hG3))
 clear hP3 hG3
 go_wp2
 go_ret
 exact⟨y3,s3,rfl,by omega,by omega,(Aa HF).1,(Aa HF).2⟩
theorem Pb (blk cap a B s:Nat) (d:Array Nat) (w:World) (hL:LiesU w blk d) (hP:Pt w B s) (hB:blk≠B) (hs:s<=50) (ha:0<a) (ha2:a+1<d.size) (hsz:d.size<=1500000):
  Calls prog 179 #[.slice (some ⟨blk,0,none⟩) d.size cap, .int .i64 a, .pointer (some ⟨B,0,none⟩)] w fun e w'=> ∃m s':Nat,e= .returned (.int .i64 m)/\(m=a - 1∨m=a∨m=a+1)/\s'<=s+3/\Pt w' B s'/\w.grownBy w' (some B):=by
 have HM:=Ab (Uq blk cap (a - 1) a (a+1) B s d w hL hP hB hs (by omega) (by omega) ha2 hsz)
 clear hL hP
 have z1:IntKind.i64.wrap ((a:Int) - 1)=((a - 1:Nat):Int):=by rw[IntKind.wrap_i64];omega
 have z2:IntKind.i64.wrap ((a:Int)+1)=((a+1:Nat):Int):=by rw[IntKind.wrap_i64];omega
 go_enter func179,ntmps179
 go_wp2_with fail
 refine(Aa HM).mono ?_
 rintro e w1 ⟨m,s1,rfl,h1,hs1,hP1,hG1⟩
 have HF:=Ab (And.intro hP1 hG1)
 clear hP1 hG1
 go_wp2
 go_ret
 exact⟨m,s1,rfl,h1,hs1,(Aa HF).1,(Aa HF).2⟩
theorem pivot64 (blk cap a b:Nat) (d:Array Nat) (w:World) (hL:LiesU w blk d) (hab:a<b) (hb:b<=d.size) (hsz:d.size<=1500000):
  Calls prog 169 #[.slice (some ⟨blk,0,none⟩) d.size cap, .int .i64 a, .int .i64 b] w fun e w'=> ∃p h:Nat,e= .returned (.tuple #[.int .i64 p, .int .i64 h])/\a<=p/\p<b/\h<=2/\w.grownBy w' none:=by
 have HL:=Ab hL
 have hlt:=hL.lt
 clear hL
 obtain⟨l,hl⟩: ∃l,l=b - a:=⟨_,rfl⟩
 obtain⟨q,hq⟩: ∃q,q=l / 4:=⟨_,rfl⟩
 obtain⟨i,hi⟩: ∃i,i=a+q:=⟨_,rfl⟩
 obtain⟨j,hj⟩: ∃j,j=a+2 * q:=⟨_,rfl⟩
 obtain⟨k,hk⟩: ∃k,k=a+3 * q:=⟨_,rfl⟩
 have z1:IntKind.i64.wrap ((b:Int) - a)=(l:Int):=by rw[IntKind.wrap_i64];omega
 have z2:(l:Int).tdiv 4=(q:Int):=by rw[Int.tdiv_eq_ediv_of_nonneg (by omega)];omega
 have z2':(l:Int) / 4=(q:Int):=by omega
 have z3:IntKind.i64.wrap ((q:Int))=(q:Int):=by rw[IntKind.wrap_i64];omega
 have z4:IntKind.i64.wrap ((q:Int) * 2)=2 * (q:Int):=by rw[IntKind.wrap_i64];omega
 have z5:IntKind.i64.wrap ((q:Int) * 3)=3 * (q:Int):=by rw[IntKind.wrap_i64];omega
 have z6:IntKind.i64.wrap ((a:Int)+q)=(i:Int):=by rw[IntKind.wrap_i64];omega
 have z7:IntKind.i64.wrap ((a:Int)+2 * (q:Int))=(j:Int):=by rw[IntKind.wrap_i64];omega
 have z8:IntKind.i64.wrap ((a:Int)+3 * (q:Int))=(k:Int):=by rw[IntKind.wrap_i64];omega
 have HQ:=Ab (And.intro hl (And.intro hq (And.intro hi (And.intro hj hk))))
 clear hl hq hi hj hk
 have hP0:Pt (w.alloc (Obj.cells #[Value.int IntKind.i64 0] 3)) w.heap.size 0:=(show (w.heap.push _)[w.heap.size]? =_ from Array.getElem?_push_size)
 have HP0:=Ab hP0
 have hL0:=(Aa HL).grown (((Below.refl _ _).alloc (Nat.le_refl _) (Obj.cells #[Value.int IntKind.i64 0] 3)).block blk hlt)
 have HL0:=Ab hL0
 have HG0:Hid (∀X,(w.alloc (Obj.cells #[Value.int IntKind.i64 0] 3)).grownBy X (some w.heap.size)->w.grownBy X none):=Ab (fun X hX=>by
  have b0:=(Below.refl w.heap.size w).alloc (Nat.le_refl _) (Obj.cells #[Value.int IntKind.i64 0] 3)
  exact⟨hX.os.trans b0.os,hX.tape.trans b0.tape,hX.output.trans b0.output,Nat.le_trans b0.size hX.size,fun c hc _=>by
   rw[hX.block c (Nat.lt_of_lt_of_le hc b0.size) (fun e=>by cases e;omega)]
   exact b0.block c hc⟩)
 have hBB:blk≠w.heap.size:=by omega
 have hBn:some blk≠some w.heap.size:=fun e=>hBB (Option.some.inj e)
 clear hP0 hL0
 by_cases h50:50<=l
 ·have y1:(50:Int)<=l:=by omega
  have y2:(8:Int)<=l:=by omega
  go_enter func169,ntmps169
  go_wp2_with fail
  refine(Pb blk cap i w.heap.size 0 d _ (Aa HL0) (Aa HP0) hBB (by omega) (by have:=Aa HQ;omega) (by have:=Aa HQ;omega) hsz).mono ?_
  rintro e w1 ⟨i1,s1,rfl,h1,hs1,hP1,hG1⟩
  have HL1:=Ab ((Aa HL0).gb hG1 hBn)
  have HP1:=Ab hP1
  have HG1:=Ab hG1
  clear hP1 hG1
  go_wp2_with fail
  refine(Pb blk cap j w.heap.size s1 d w1 (Aa HL1) (Aa HP1) hBB (by omega) (by have:=Aa HQ;omega) (by have:=Aa HQ;omega) hsz).mono ?_
  rintro e w2 ⟨j1,s2,rfl,h2,hs2,hP2,hG2⟩
  have HL2:=Ab ((Aa HL1).gb hG2 hBn)
  have HP2:=Ab hP2
  have HG2:=Ab (Bw (Aa HG1) hG2)
  clear hP2 hG2
  go_wp2_with fail
  refine(Pb blk cap k w.heap.size s2 d w2 (Aa HL2) (Aa HP2) hBB (by omega) (by have:=Aa HQ;omega) (by have:=Aa HQ;omega) hsz).mono ?_
  rintro e w3 ⟨k1,s3,rfl,h3,hs3,hP3,hG3⟩
  have HL3:=Ab ((Aa HL2).gb hG3 hBn)
  have HP3:=Ab hP3
  have HG3:=Ab (Bw (Aa HG2) hG3)
  clear hP3 hG3
  go_wp2_with fail
  refine(Uq blk cap i1 j1 k1 w.heap.size s3 d w3 (Aa HL3) (Aa HP3) hBB (by omega) (by have:=Aa HQ;omega) (by have:=Aa HQ;omega) (by have:=Aa HQ;omega) hsz).mono ?_
  rintro e w4 ⟨m,s4,rfl,h4,hs4,hP4,hG4⟩
  obtain⟨p1,p2,p3⟩:=hP4.cell
  have HF:=Ab (Aa HG0 _ (Bw (Aa HG3) hG4))
  have HR:=Ab (show a<=m/\m<b by have:=Aa HQ;omega)
  clear hP4 hG4 h1 h2 h3 h4
  go_wp2
  all_goals
   go_ret2
   first
    |exact⟨m,1,rfl,(Aa HR).1,(Aa HR).2,by omega,Aa HF⟩
    |exact⟨m,2,rfl,(Aa HR).1,(Aa HR).2,by omega,Aa HF⟩
    |exact⟨m,0,rfl,(Aa HR).1,(Aa HR).2,by omega,Aa HF⟩
 ·by_cases h8:8<=l
  ·have y1: ¬(50:Int)<=l:=by omega
   have y2:(8:Int)<=l:=by omega
   go_enter func169,ntmps169
   go_wp2_with fail
   refine(Uq blk cap i j k w.heap.size 0 d _ (Aa HL0) (Aa HP0) hBB (by omega) (by have:=Aa HQ;omega) (by have:=Aa HQ;omega) (by have:=Aa HQ;omega) hsz).mono ?_
   rintro e w4 ⟨m,s4,rfl,h4,hs4,hP4,hG4⟩
   obtain⟨p1,p2,p3⟩:=hP4.cell
   have HF:=Ab (Aa HG0 _ hG4)
   have HR:=Ab (show a<=m/\m<b by have:=Aa HQ;omega)
   clear hP4 hG4 h4
   go_wp2
   all_goals
    go_ret2
    first
     |exact⟨m,1,rfl,(Aa HR).1,(Aa HR).2,by omega,Aa HF⟩
     |exact⟨m,2,rfl,(Aa HR).1,(Aa HR).2,by omega,Aa HF⟩
     |exact⟨m,0,rfl,(Aa HR).1,(Aa HR).2,by omega,Aa HF⟩
  ·have y1: ¬(50:Int)<=l:=by omega
   have y2: ¬(8:Int)<=l:=by omega
   have HF:=Ab (Aa HG0 _ (Jr _ _))
   have HR:=Ab (show a<=j/\j<b by have:=Aa HQ;omega)
   go_enter func169,ntmps169
   go_wp2
   go_ret2
   exact⟨j,1,rfl,(Aa HR).1,(Aa HR).2,by omega,Aa HF⟩
end
section
open Go Go.Proofs Go.RowKit Go.Sort
def Rn (w:World) (B:Nat) (n:Nat):Prop:=w.heap[B]? =some (.cells #[.int .u64 (n:Int)] 250 (0,0))
theorem Rn.cell {w:World} {B n:Nat} (h:Rn w B n):w.cell? ⟨B,0,none⟩=some (.int .u64 (n:Int))/\w.frozen? ⟨B,0,none⟩=false/\B<w.heap.size:=by
 unfold Rn at h
 exact⟨by simp[go_sem,World.cell?,h],by simp[go_sem,World.frozen?,h],(Array.getElem?_eq_some_iff.1 h).1⟩
theorem next80 (B r:Nat) (w:World) (h:Rn w B r) (hr:r<2^64):
  Calls Tryz.prog 178 #[.pointer (some ⟨B,0,none⟩)] w fun e w'=> ∃r':Nat,r'<2^64/\e= .returned (.int .u64 r')/\Rn w' B r'/\w.grownBy w' (some B):=by
 obtain⟨c,f,hl⟩:=h.cell
 obtain⟨s1,hs1⟩: ∃s1,s1=r * 8192 % 18446744073709551616:=⟨_,rfl⟩
 have a1:IntKind.u64.wrap ((r:Int) * 8192)=(s1:Int):=by simp[IntKind.wrap,IntKind.bits,IntKind.signed];omega
 obtain⟨r1,hr1⟩: ∃r1,r1=r^^^s1:=⟨_,rfl⟩
 have l1:r1<2^64:=by rw[hr1];exact Nat.xor_lt_two_pow hr (by omega)
 have b1:bits .xor .u64 (r:Int) (s1:Int)=(r1:Int):=by rw[hr1];exact u64_xor_nat r s1 hr (by omega)
 obtain⟨s2,hs2⟩: ∃s2,s2=r1 / 128:=⟨_,rfl⟩
 have a2:(r1:Int) / 128=(s2:Int):=by omega
 obtain⟨r2,hr2⟩: ∃r2,r2=r1^^^s2:=⟨_,rfl⟩
 have l2:r2<2^64:=by rw[hr2];exact Nat.xor_lt_two_pow l1 (by omega)
 have b2:bits .xor .u64 (r1:Int) (s2:Int)=(r2:Int):=by rw[hr2];exact u64_xor_nat r1 s2 l1 (by omega)
 obtain⟨s3,hs3⟩: ∃s3,s3=r2 * 131072 % 18446744073709551616:=⟨_,rfl⟩
 have a3:IntKind.u64.wrap ((r2:Int) * 131072)=(s3:Int):=by simp[IntKind.wrap,IntKind.bits,IntKind.signed];omega
 obtain⟨r3,hr3⟩: ∃r3,r3=r2^^^s3:=⟨_,rfl⟩
 have l3:r3<2^64:=by rw[hr3];exact Nat.xor_lt_two_pow l2 (by omega)
 have b3:bits .xor .u64 (r2:Int) (s3:Int)=(r3:Int):=by rw[hr3];exact u64_xor_nat r2 s3 l2 (by omega)
 have HL:=Ab (And.intro l3 h)
 clear l1 l2 l3 hr h hs1 hr1 hs2 hr2 hs3 hr3
 go_enter Tryz.func178,Tryz.ntmps178
 go_wp2_with fail
 go_region
 all_goals go_wp2_with fail
 go_region
 all_goals go_wp2_with fail
 go_region
 obtain⟨X,hX⟩: ∃X,X=(((w.setCell ⟨B,0,none⟩ (.int .u64 (r1:Nat))).setCell ⟨B,0,none⟩ (.int .u64 (r2:Nat))).setCell ⟨B,0,none⟩ (.int .u64 (r3:Nat))).drew.drew.drew:=⟨_,rfl⟩
 have hR:Rn X B r3:=by
  have h:=(Aa HL).2
  unfold Rn at *
  rw[hX]
  show ((((w.setCell ⟨B,0,none⟩ (.int .u64 (r1:Nat))).setCell ⟨B,0,none⟩ (.int .u64 (r2:Nat))).setCell ⟨B,0,none⟩ (.int .u64 (r3:Nat)))).heap[B]? =_
  simp[World.setCell,Array.getElem?_modify,h]
 have hG:w.grownBy X (some B):=by
  rw[hX]
  have g0:=Bw (Bw (Qk w B 0 (.int .u64 (r1:Nat))) (Qk _ B 0 (.int .u64 (r2:Nat)))) (Qk _ B 0 (.int .u64 (r3:Nat)))
  exact⟨g0.os,g0.tape,g0.output,g0.size,g0.block⟩
 rw[←hX]
 have HF:=Ab (And.intro hR hG)
 obtain⟨c',f',hl'⟩:=hR.cell
 clear hX hR hG
 go_wp2
 go_ret
 exact⟨r3,(Aa HL).1,rfl,(Aa HF).1,(Aa HF).2⟩
theorem bl_all: ∀(f x:Nat),x<=f->1<=x->x<18446744073709551616->x<2^Lib.bitLen x/\2^Lib.bitLen x<=2 * x:=by
 intro f
 induction f with
 |zero=>intro x h1 h2;omega
 |succ f ih=>
  intro x h1 h2 h3
  rw[Lib.bitLen_half x (by omega) h3,Nat.pow_add,Nat.pow_one]
  by_cases h:x / 2=0
  ·rw[h,show Lib.bitLen 0=0 by decide+kernel]
   omega
  ·have:=ih (x / 2) (by omega) (by omega) (by omega)
   omega
theorem bl_le (n:Nat) (h0:8<=n) (h1:n<=1500000):n<2^Lib.bitLen n/\2^Lib.bitLen n<=2 * n/\Lib.bitLen n<=21:=by
 have h:=bl_all n n (Nat.le_refl _) (by omega) (by omega)
 refine⟨h.1,h.2, ?_⟩
 rcases Nat.lt_or_ge 21 (Lib.bitLen n) with hk|hk
 ·have:=Nat.pow_le_pow_right (n:=2) (by omega) hk
  simp at this
  omega
 ·exact hk
theorem pow79 (n:Nat) (h0:8<=n) (h1:n<=1500000) (w:World):Calls Tryz.prog 177 #[.int .i64 (n:Nat)] w fun e w'=>(∃m k:Nat,e= .returned (.int .u64 m)/\m=2^k/\n<m/\m<=2 * n)/\w'=w:=by
 have hb:=bl_le n h0 h1
 have HC:=Ab (Tryz.bits_Len (n:Int) w (by omega) (by omega))
 rw[Int.toNat_natCast] at HC
 have HB:=Ab hb
 obtain⟨k,hk⟩: ∃k,k=Lib.bitLen n:=⟨_,rfl⟩
 rw[←hk] at HC HB hb
 have hk12:=hb.2.2
 clear hk hb
 have z1:IntKind.u64.wrap (n:Int)=(n:Int):=by simp[IntKind.wrap,IntKind.bits,IntKind.signed];omega
 go_enter Tryz.func177,Tryz.ntmps177
 go_wp2_with fail
 refine(Aa HC).mono ?_
 rintro e w' ⟨rfl,rfl⟩
 have hcases:k=0∨k=1∨k=2∨k=3∨k=4∨k=5∨k=6∨k=7∨k=8∨k=9∨k=10∨k=11∨k=12∨k=13∨k=14∨k=15∨k=16∨k=17∨k=18∨k=19∨k=20∨k=21:=by omega
 rcases hcases with rfl|rfl|rfl|rfl|rfl|rfl|rfl|rfl|rfl|rfl|rfl|rfl|rfl|rfl|rfl|rfl|rfl|rfl|rfl|rfl|rfl|rfl
 all_goals
  go_wp2
  go_ret
  first
   |exact⟨⟨1,0,rfl,rfl,(Aa HB).1,(Aa HB).2.1⟩,rfl⟩
   |exact⟨⟨2,1,rfl,rfl,(Aa HB).1,(Aa HB).2.1⟩,rfl⟩
   |exact⟨⟨4,2,rfl,rfl,(Aa HB).1,(Aa HB).2.1⟩,rfl⟩
   |exact⟨⟨8,3,rfl,rfl,(Aa HB).1,(Aa HB).2.1⟩,rfl⟩
   |exact⟨⟨16,4,rfl,rfl,(Aa HB).1,(Aa HB).2.1⟩,rfl⟩
   |exact⟨⟨32,5,rfl,rfl,(Aa HB).1,(Aa HB).2.1⟩,rfl⟩
   |exact⟨⟨64,6,rfl,rfl,(Aa HB).1,(Aa HB).2.1⟩,rfl⟩
   |exact⟨⟨128,7,rfl,rfl,(Aa HB).1,(Aa HB).2.1⟩,rfl⟩
   |exact⟨⟨256,8,rfl,rfl,(Aa HB).1,(Aa HB).2.1⟩,rfl⟩
   |exact⟨⟨512,9,rfl,rfl,(Aa HB).1,(Aa HB).2.1⟩,rfl⟩
   |exact⟨⟨1024,10,rfl,rfl,(Aa HB).1,(Aa HB).2.1⟩,rfl⟩
   |exact⟨⟨2048,11,rfl,rfl,(Aa HB).1,(Aa HB).2.1⟩,rfl⟩
   |exact⟨⟨4096,12,rfl,rfl,(Aa HB).1,(Aa HB).2.1⟩,rfl⟩
   |exact⟨⟨8192,13,rfl,rfl,(Aa HB).1,(Aa HB).2.1⟩,rfl⟩
   |exact⟨⟨16384,14,rfl,rfl,(Aa HB).1,(Aa HB).2.1⟩,rfl⟩
   |exact⟨⟨32768,15,rfl,rfl,(Aa HB).1,(Aa HB).2.1⟩,rfl⟩
   |exact⟨⟨65536,16,rfl,rfl,(Aa HB).1,(Aa HB).2.1⟩,rfl⟩
   |exact⟨⟨131072,17,rfl,rfl,(Aa HB).1,(Aa HB).2.1⟩,rfl⟩
   |exact⟨⟨262144,18,rfl,rfl,(Aa HB).1,(Aa HB).2.1⟩,rfl⟩
   |exact⟨⟨524288,19,rfl,rfl,(Aa HB).1,(Aa HB).2.1⟩,rfl⟩
   |exact⟨⟨1048576,20,rfl,rfl,(Aa HB).1,(Aa HB).2.1⟩,rfl⟩
   |exact⟨⟨2097152,21,rfl,rfl,(Aa HB).1,(Aa HB).2.1⟩,rfl⟩
theorem and_lt (r k:Nat) (hk:k<=21) (hr:r<2^64): ∃o:Nat,o<2^k/\bits .and .u64 (r:Int) ((2^k - 1:Nat):Int)=(o:Int):=by
 have hp:2^k<=2097152:=Nat.pow_le_pow_right (n:=2) (by omega) hk
 have h0:0<2^k:=Nat.two_pow_pos k
 refine⟨r &&& (2^k - 1), ?_,u64_and_nat r _ hr (by omega)⟩
 rw[Nat.and_two_pow_sub_one_eq_mod]
 exact Nat.mod_lt _ h0
theorem break63 (blk cap a b:Nat) (d:Array Nat) (w:World) (hL:LiesU w blk d) (hab:a+8<=b) (hb:b<=d.size) (hsz:d.size<=1500000):
  Calls Tryz.prog 168 #[.slice (some ⟨blk,0,none⟩) d.size cap, .int .i64 a, .int .i64 b] w fun e w'=>e= .returned (.tuple #[])/\ ∃d',PermIn a b d d'/\LiesU w' blk d'/\w.grownBy w' (some blk):=by
 have HL:=Ab hL
 have hlt:=hL.lt
 clear hL
 obtain⟨l,hl⟩: ∃l,l=b - a:=⟨_,rfl⟩
 obtain⟨q,hq⟩: ∃q,q=l / 4:=⟨_,rfl⟩
 obtain⟨t0,ht0⟩: ∃t,t=a+2 * q - 1:=⟨_,rfl⟩
 obtain⟨t1,ht1⟩: ∃t,t=a+2 * q+1:=⟨_,rfl⟩
 obtain⟨t2,ht2⟩: ∃t,t=a+2 * q:=⟨_,rfl⟩
 have z1:IntKind.i64.wrap ((b:Int) - a)=(l:Int):=by rw[IntKind.wrap_i64];omega
 have z2:(l:Int).tdiv 4=(q:Int):=by rw[Int.tdiv_eq_ediv_of_nonneg (by omega)];omega
 have z2':(l:Int) / 4=(q:Int):=by omega
 have z3:IntKind.i64.wrap ((q:Int))=(q:Int):=by rw[IntKind.wrap_i64];omega
 have z4:IntKind.i64.wrap ((q:Int) * 2)=2 * (q:Int):=by rw[IntKind.wrap_i64];omega
 have z5:IntKind.i64.wrap ((a:Int)+2 * (q:Int))=(t2:Int):=by rw[IntKind.wrap_i64];omega
 have z6:IntKind.i64.wrap ((t2:Int) - 1)=(t0:Int):=by rw[IntKind.wrap_i64];omega
 have z7:IntKind.i64.wrap ((t2:Int)+1)=(t1:Int):=by rw[IntKind.wrap_i64];omega
 have z8:IntKind.u64.wrap (l:Int)=(l:Int):=by simp[IntKind.wrap,IntKind.bits,IntKind.signed];omega
 have z9:(8:Int)<=l:=by omega
 have HM:=Ab (pow79 l (by omega) (by omega))
 have HQ:=Ab (And.intro hl (And.intro hq (And.intro ht0 (And.intro ht1 ht2))))
 clear hl hq ht0 ht1 ht2
 go_enter Tryz.func168,Tryz.ntmps168
 go_wp2_with fail
 refine(Aa HM _).mono ?_
 rintro e w1 ⟨⟨m,k,rfl,hm,hm1,hm2⟩,rfl⟩
 have hk12:k<=21:=by
  rcases Nat.lt_or_ge 21 k with hk|hk
  ·have:=Nat.pow_le_pow_right (n:=2) (by omega) hk
   have:=Aa HQ
   simp at *
   omega
  ·exact hk
 have HMK:=Ab hm
 clear hm
 obtain⟨m1,hm1'⟩: ∃m1,m1=m - 1:=⟨_,rfl⟩
 have y0:IntKind.u64.wrap ((m:Int) - 1)=(m1:Int):=by have:=Aa HQ;simp[IntKind.wrap,IntKind.bits,IntKind.signed];omega
 have HAnd:Hid (∀r:Nat,r<2^64-> ∃o:Nat,o<m/\bits .and .u64 (r:Int) (m1:Int)=(o:Int)):=Ab (fun r hr=>by
  obtain⟨o,h1,h2⟩:=and_lt r k hk12 hr
  rw[←Aa HMK] at h1 h2
  rw[←hm1'] at h2
  exact⟨o,h1,h2⟩)
 clear hm1'
 have hR0:Rn (w.alloc (Obj.cells #[Value.int IntKind.u64 (l:Nat)] 250)) w.heap.size l:=(show (w.heap.push _)[w.heap.size]? =_ from Array.getElem?_push_size)
 have HR0:=Ab hR0
 have b0:=(Below.refl w.heap.size w).alloc (Nat.le_refl _) (Obj.cells #[Value.int IntKind.u64 (l:Nat)] 250)
 have HL0:=Ab ((Aa HL).grown (b0.block blk hlt))
 have HG0:Hid (w.grownBy (w.alloc (Obj.cells #[Value.int IntKind.u64 (l:Nat)] 250)) (some blk)):=Ab ⟨b0.os,b0.tape,b0.output,b0.size,fun c hc _=>b0.block c hc⟩
 have hBB:some blk≠some w.heap.size:=fun e=>by have:=Option.some.inj e;omega
 clear hR0 b0
 go_wp2_with fail
 go_loopg [9] (d.size+2) (fun g s9 wr=> ∃(x r:Nat) (dk:Array Nat),s9= .int .i64 x/\t0<=x/\x<=t1+1/\d.size+2 - x<=g/\Hid (dk.size=d.size)/\Hid (LiesU wr blk dk)/\Hid (Rn wr w.heap.size r)/\r<2^64/\Hid (w.grownBy wr (some blk))/\Hid (PermIn a b d dk))
 case atStart=>exact⟨t0,l,d,rfl,Nat.le_refl _,by have:=Aa HQ;omega,by have:=Aa HQ;omega,Ab rfl,HL0,HR0,by have:=Aa HQ;omega,HG0,Ab (permIn_refl d a b)⟩
 case round=>
  obtain⟨x,r,dk,rfl,hx1,hx2,hg,hsk,hLk,hRk,hr64,hGk,hPk⟩:=hrel
  by_cases hxt:x<=t1
  ·have y1:(x:Int)<=t1:=by omega
   have HN:=Ab (next80 w.heap.size r wr (Aa hRk) hr64)
   clear hr64
   go_wp2_with fail
   refine(Aa HN).mono ?_
   rintro e w1 ⟨r',hr',rfl,hR1,hG1⟩
   obtain⟨o,ho1,ho2⟩:=Aa HAnd r' hr'
   have HL1:=Ab ((Aa hLk).gb hG1 hBB)
   have HG1:Hid (w.grownBy w1 (some blk)):=Ab ⟨hG1.os.trans (Aa hGk).os,hG1.tape.trans (Aa hGk).tape,hG1.output.trans (Aa hGk).output,Nat.le_trans (Aa hGk).size hG1.size,fun c hc hne=>(hG1.block c (Nat.lt_of_lt_of_le hc (Aa hGk).size) (fun e=>by have:=Option.some.inj e;omega)).trans ((Aa hGk).block c hc hne)⟩
   have HR1:=Ab hR1
   have hlq:=Aa HQ
   have y2:IntKind.i64.wrap (o:Int)=(o:Int):=by rw[IntKind.wrap_i64];omega
   have hds:=Aa hsk
   obtain⟨o2,ho3⟩: ∃o2,o2=if l<=o then o - l else o:=⟨_,rfl⟩
   have ho4:o2<l:=by rw[ho3];split<;>omega
   have y4:IntKind.i64.wrap ((a:Int)+o2)=(a:Int)+o2:=by rw[IntKind.wrap_i64];omega
   have y5:((a:Int)+o2).toNat=a+o2:=by omega
   have y6:(0:Int)<=(a:Int)+o2:=by omega
   have y7:(a:Int)+o2<d.size:=by omega
   have y8:(x:Int)<d.size:=by omega
   have y9:IntKind.i64.wrap ((x:Int)+1)=((x+1:Nat):Int):=by rw[IntKind.wrap_i64];omega
   obtain⟨c1,f1⟩:=(Aa HL1).cell x (by omega)
   obtain⟨c2,f2⟩:=(Aa HL1).cell (a+o2) (by omega)
   have HSw:=Ab (fun n=>((Aa HL1).drew n).swap x (a+o2) (by omega) (by omega))
   have HP1:=Ab (permIn_trans d dk (swp dk x (a+o2)) a b (Aa hPk) (swp_permIn dk a b x (a+o2) (by omega) (by omega) (by omega) (by omega) (by omega)))
   have HRn:Hid (∀(X:World),w1.grownBy X (some blk)->Rn X w.heap.size r'):=Ab (fun X hX=>by
    unfold Rn
    rw[hX.block _ (Aa HR1).cell.2.2 (fun e=>hBB e.symm)]
    exact Aa HR1)
   have hoo:=Classical.em (l<=o)
   clear hR1 hG1 hlq hds hRk hLk hGk
   rcases hoo with hoo|hoo
   all_goals
    first
    |(have x1:(l:Int)<=o:=(by omega)
      rw[if_pos hoo] at ho3
      have x2:IntKind.i64.wrap ((o:Int) - l)=(o2:Int):=(by rw[IntKind.wrap_i64];omega)
      have HO3:=Ab ho3
      clear ho3
      go_wp2_with fail)
    |(have x1: ¬(l:Int)<=o:=(by omega)
      rw[if_neg hoo] at ho3
      subst ho3
      go_wp2_with fail)
    have hxx:=Classical.em (x=a+o2)
    rcases hxx with hxx|hxx
    all_goals
     first
     |(subst hxx
       generalize dk[a+o2]! =xv at *
       go_region
       all_goals go_wp2
       go_roundg (d.size+2 - (a+o2+1))
       case measure=>omega
       case rel=>
        have g0:=Dt w1 blk (a+o2) (a+o2) (.int .u32 (xv:Nat)) (.int .u32 (xv:Nat))
        exact⟨a+o2+1,r',swp dk (a+o2) (a+o2),by go_num,by omega,by omega,Nat.le_refl _,Ab (by rw[Dm];exact Aa hsk),Ab (LiesU.grown (Aa HSw 0) rfl),Ab (Aa HRn _ ⟨g0.os,g0.tape,g0.output,g0.size,g0.block⟩),hr',Ab (Bw (Aa HG1) ⟨g0.os,g0.tape,g0.output,g0.size,g0.block⟩),HP1⟩)
     |(have n1: ¬a+o2=x:=(fun e=>hxx e.symm)
       generalize dk[x]! =xv at *
       generalize dk[a+o2]! =yv at *
       go_region
       all_goals go_wp2
       go_roundg (d.size+2 - (x+1))
       case measure=>omega
       case rel=>
        have g0:=Dt w1 blk x (a+o2) (.int .u32 (yv:Nat)) (.int .u32 (xv:Nat))
        exact⟨x+1,r',swp dk x (a+o2),by go_num,by omega,by omega,Nat.le_refl _,Ab (by rw[Dm];exact Aa hsk),Ab (LiesU.grown (Aa HSw 0) rfl),Ab (Aa HRn _ ⟨g0.os,g0.tape,g0.output,g0.size,g0.block⟩),hr',Ab (Bw (Aa HG1) ⟨g0.os,g0.tape,g0.output,g0.size,g0.block⟩),HP1⟩)
  ·have y1: ¬(x:Int)<=t1:=by omega
   go_wp2
   go_end0
   exact⟨rfl,dk,Aa hPk,Aa hLk,Aa hGk⟩
