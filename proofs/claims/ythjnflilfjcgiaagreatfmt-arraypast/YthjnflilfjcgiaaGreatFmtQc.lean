import Derived.Test.YthjnflilfjcgiaaGreatFmtQa
import Derived.Test.YthjnflilfjcgiaaGreatFmtQb
import Derived.WalkKit
import Derived.Below
import Derived.Deep.QuietTactic
import Derived.BigQuiet
import Derived.Laws.BitsLemmas
import Derived.WalkSmall
set_option linter.all false
namespace Go.Proofs.YthjnflilfjcgiaaGreatFmt
set_option maxRecDepth 100000
set_option maxHeartbeats 0
section
open Go.RowKit Go.Shelf
def hiZ (c:Int):Bool:=decide (55296<=c) && decide (c<56320)
def loZ (c:Int):Bool:=decide (56320<=c) && decide (c<=57343)
theorem hiZ_nat (c:Nat):hiZ c=M.isHi c:=by
 unfold hiZ M.isHi
 rw[show decide ((55296:Int)<=(c:Int))=decide (55296<=c) from decide_eq_decide.2 (by omega),show decide ((c:Int)<56320)=decide (c<56320) from decide_eq_decide.2 (by omega)]
theorem loZ_nat (c:Nat):loZ c=M.isLo c:=by
 unfold loZ M.isLo
 rw[show decide ((56320:Int)<=(c:Int))=decide (56320<=c) from decide_eq_decide.2 (by omega),show decide ((c:Int)<=57343)=decide (c<=57343) from decide_eq_decide.2 (by omega)]

theorem Uy (c:Int) (w:World):Calls Tryz.prog 108 #[.int .i32 c] w fun e w'=>e= .returned (.bool (hiZ c))/\w'=w:=by
 unfold hiZ
 by_cases h1:55296<=c<;>by_cases h2:c<56320
 all_goals
  go_enter Tryz.func108,Tryz.ntmps108
  go_wp2
  go_ret
  simp[h1,h2]
theorem Zc6 (c:Int) (w:World):Calls Tryz.prog 107 #[.int .i32 c] w fun e w'=>e= .returned (.bool (loZ c))/\w'=w:=by
 unfold loZ
 by_cases h1:56320<=c<;>by_cases h2:c<=57343
 all_goals
  go_enter Tryz.func107,Tryz.ntmps107
  go_wp2
  go_ret
  simp[h1,h2]
def Dn (s:ByteArray):List Nat:=s.data.toList.map UInt8.toNat
theorem Gm (s:ByteArray):(Dn s).length=s.size:=by unfold Dn;rw[List.length_map];rfl
theorem Zcd (s:ByteArray): ∀x∈Dn s,x<256:=by
 intro x hx;unfold Dn at hx;rw[List.mem_map] at hx;obtain⟨y,_,rfl⟩:=hx;exact y.toNat_lt
theorem Pn (s:ByteArray) (k:Nat) (h:k<s.size):(Dn s).getD k 0=(s[k]'h).toNat:=by
 have h':k<s.data.toList.length:=h
 unfold Dn
 rw[List.getD_eq_getElem?_getD,List.getElem?_map,List.getElem?_eq_getElem h']
 rfl

theorem u8_224: ∀n:Fin 256,bits .and .u8 (n.val:Int) 224=(n.val:Int) / 32 * 32:=by decide+kernel
theorem u8_192: ∀n:Fin 256,bits .and .u8 (n.val:Int) 192=(n.val:Int) / 64 * 64:=by decide+kernel

theorem surr_any (s:ByteArray) (w:World):Calls Tryz.prog 121 #[.string s] w fun e w'=>e= .returned (.tuple #[.int .i32 ((M.surr (Dn s)).1:Nat), .int .i64 ((M.surr (Dn s)).2:Nat)])/\ ∃n,w'=w.drewN n:=by
 by_cases h:s.size<3
 ·have e:M.surr (Dn s)=(0,0):=by unfold M.surr;rw[Gm,if_pos (Or.inl h)]
  rw[e]
  have h':(s.size:Int)<3:=by omega
  go_enter Tryz.func121,Tryz.ntmps121
  go_wp2
  go_ret2
  exact⟨rfl,0,rfl⟩
 ·have hz0:(0:Int)<(s.size:Int):=by omega
  have hz1:(1:Int)<(s.size:Int):=by omega
  have hz2:(2:Int)<(s.size:Int):=by omega
  have h': ¬((s.size:Int)<3):=by omega
  obtain⟨x0,hx0⟩: ∃x0,s[0]'(by omega)=x0:=⟨_,rfl⟩
  obtain⟨x1,hx1⟩: ∃x1,s[1]'(by omega)=x1:=⟨_,rfl⟩
  obtain⟨x2,hx2⟩: ∃x2,s[2]'(by omega)=x2:=⟨_,rfl⟩
  have g0:(Dn s).getD 0 0=x0.toNat:=by rw[Pn s 0 (by omega),hx0]
  have g1:(Dn s).getD 1 0=x1.toNat:=by rw[Pn s 1 (by omega),hx1]
  have g2:(Dn s).getD 2 0=x2.toNat:=by rw[Pn s 2 (by omega),hx2]
  have hS:M.surr (Dn s)=if x0.toNat≠237∨x1.toNat / 32≠5∨x2.toNat / 64≠2 then (0,0) else (55296+x1.toNat % 32 * 64+x2.toNat % 64,3):=by
   unfold M.surr;rw[Gm,g0,g1,g2];simp[h]
  clear g0 g1 g2
  rw[hS];clear hS
  have l0:=x0.toNat_lt;have l1:=x1.toNat_lt;have l2:=x2.toNat_lt
  obtain⟨n0,hn0⟩: ∃n0,x0.toNat=n0:=⟨_,rfl⟩
  obtain⟨n1,hn1⟩: ∃n1,x1.toNat=n1:=⟨_,rfl⟩
  obtain⟨n2,hn2⟩: ∃n2,x2.toNat=n2:=⟨_,rfl⟩
  rw[hn0] at l0;rw[hn1] at l1;rw[hn2] at l2
  rw[hn0,hn1,hn2]
  have q1:bits .and .u8 (n1:Int) 224=(n1:Int) / 32 * 32:=u8_224 ⟨n1,l1⟩
  have q2:bits .and .u8 (n2:Int) 192=(n2:Int) / 64 * 64:=u8_192 ⟨n2,l2⟩
  have q3:bits .and .u8 (n1:Int) 31=(n1:Int) % 32:=u8_and31 _ (by omega) (by omega)
  have q4:bits .and .u8 (n2:Int) 63=(n2:Int) % 64:=u8_and63 _ (by omega) (by omega)
  by_cases c0:n0=237
  case neg=>
   rw[if_pos (Or.inl c0)]
   have c0':((n0:Int) !=237)=true:=by rw[bne_iff_ne];omega
   go_enter Tryz.func121,Tryz.ntmps121
   go_wp2
   go_ret2
   exact⟨rfl,0,rfl⟩
  by_cases c1:n1 / 32=5
  case neg=>
   rw[if_pos (Or.inr (Or.inl c1))]
   have c1':((n1:Int) / 32 * 32 !=160)=true:=by rw[bne_iff_ne];omega
   have c0':((n0:Int) !=237)=false:=by rw[bne_eq_false_iff_eq];omega
   go_enter Tryz.func121,Tryz.ntmps121
   go_wp2
   go_ret2
   exact⟨rfl,0,rfl⟩
  have c0':((n0:Int) !=237)=false:=by rw[bne_eq_false_iff_eq];omega
  have c1':((n1:Int) / 32 * 32 !=160)=false:=by rw[bne_eq_false_iff_eq];omega
  by_cases c2:n2 / 64=2
  case neg=>
   rw[if_pos (Or.inr (Or.inr c2))]
   have c2':((n2:Int) / 64 * 64 !=128)=true:=by rw[bne_iff_ne];omega
   go_enter Tryz.func121,Tryz.ntmps121
   go_wp2
   go_ret2
   exact⟨rfl,0,rfl⟩
  rw[if_neg (by omega)]
  have c2':((n2:Int) / 64 * 64 !=128)=false:=by rw[bne_eq_false_iff_eq];omega
  have b1:0<=(n1:Int) % 32:=by omega
  have b2:(n1:Int) % 32<32:=by omega
  have b3:0<=(n2:Int) % 64:=by omega
  have b4:(n2:Int) % 64<64:=by omega
  clear c0 c1 c2
  go_enter Tryz.func121,Tryz.ntmps121
  go_wp2
  go_quiet (fail)
  go_wp2
  go_ret2
  exact⟨rfl,nq,rfl⟩

