import Derived.Test.YthcmamjpfigdfaaGreatDoorQa
import Derived.Test.YthcmamjpfigdfaaGreatDoorQb
import Derived.WalkKit
import Derived.Below
import Derived.Deep.QuietTactic
import Derived.BigQuiet
import Derived.Laws.BitsLemmas
import Derived.WalkSmall
import Derived.OrdersHeld
import Derived.KernelRfl
set_option linter.all false
namespace Go.Proofs.YthcmamjpfigdfaaGreatDoor
set_option maxRecDepth 100000
set_option maxHeartbeats 0
section
open Go.RowKit Go.Shelf
def hiZ (c:Int):Bool:=decide (55296<=c) && decide (c<56320)
def loZ (c:Int):Bool:=decide (56320<=c) && decide (c<=57343)
theorem hiZ_nat (c:Nat):hiZ c=M.isHi c:=by
 unfold hiZ M.isHi
 rw[show decide ((55296:Int)<=(c:Int))=decide (55296<=c) from decide_eq_decide.2 (by omega),show decide ((c:Int)<56320)=decide (c<56320) from decide_eq_decide.2 (by omega)]
theorem loZ_nat (c:Nat):loZ c=M.isLo c:=by
 unfold loZ M.isLo
 rw[show decide ((56320:Int)<=(c:Int))=decide (56320<=c) from decide_eq_decide.2 (by omega),show decide ((c:Int)<=57343)=decide (c<=57343) from decide_eq_decide.2 (by omega)]

theorem ZaC (c:Int) (w:World):Calls Tryz.prog 175 #[.int .i32 c] w fun e w'=>e= .returned (.bool (hiZ c))/\w'=w:=by
 unfold hiZ
 by_cases h1:55296<=c<;>by_cases h2:c<56320
 all_goals
  go_enter Tryz.func175,Tryz.ntmps175
  go_wp2
  go_ret
  simp[h1,h2]
theorem Zge (c:Int) (w:World):Calls Tryz.prog 174 #[.int .i32 c] w fun e w'=>e= .returned (.bool (loZ c))/\w'=w:=by
 unfold loZ
 by_cases h1:56320<=c<;>by_cases h2:c<=57343
 all_goals
  go_enter Tryz.func174,Tryz.ntmps174
  go_wp2
  go_ret
  simp[h1,h2]
def Dq (s:ByteArray):List Nat:=s.data.toList.map UInt8.toNat
theorem Jc (s:ByteArray):(Dq s).length=s.size:=by unfold Dq;rw[List.length_map];rfl
theorem Zfd (s:ByteArray): ∀x∈Dq s,x<256:=by
 intro x hx;unfold Dq at hx;rw[List.mem_map] at hx;obtain⟨y,_,rfl⟩:=hx;exact y.toNat_lt
theorem Uz (s:ByteArray) (k:Nat) (h:k<s.size):(Dq s).getD k 0=(s[k]'h).toNat:=by
 have h':k<s.data.toList.length:=h
 unfold Dq
 rw[List.getD_eq_getElem?_getD,List.getElem?_map,List.getElem?_eq_getElem h']
 rfl

theorem u8_224: ∀n:Fin 256,bits .and .u8 (n.val:Int) 224=(n.val:Int) / 32 * 32:=by decide+kernel
theorem u8_192: ∀n:Fin 256,bits .and .u8 (n.val:Int) 192=(n.val:Int) / 64 * 64:=by decide+kernel

theorem surr_any (s:ByteArray) (w:World):Calls Tryz.prog 180 #[.string s] w fun e w'=>e= .returned (.tuple #[.int .i32 ((M.surr (Dq s)).1:Nat), .int .i64 ((M.surr (Dq s)).2:Nat)])/\ ∃n,w'=w.drewN n:=by
 by_cases h:s.size<3
 ·have e:M.surr (Dq s)=(0,0):=by unfold M.surr;rw[Jc,if_pos (Or.inl h)]
  rw[e]
  have h':(s.size:Int)<3:=by omega
  go_enter Tryz.func180,Tryz.ntmps180
  go_wp2
  go_ret2
  exact⟨rfl,0,rfl⟩
 ·have hz0:(0:Int)<(s.size:Int):=by omega
  have hz1:(1:Int)<(s.size:Int):=by omega
  have hz2:(2:Int)<(s.size:Int):=by omega
  have h': ¬((s.size:Int)<3):=by omega
  obtain⟨x0,hx0⟩: ∃x0,s[0]'(by omega)=x0:=⟨_,rfl⟩
  obtain⟨x1,hx1⟩: ∃x1,s[1]'(by omega)=x1:=⟨_,rfl⟩
  obtain⟨x2,hx2⟩: ∃x2,s[2]'(by omega)=x2:=⟨_,rfl⟩
  have g0:(Dq s).getD 0 0=x0.toNat:=by rw[Uz s 0 (by omega),hx0]
  have g1:(Dq s).getD 1 0=x1.toNat:=by rw[Uz s 1 (by omega),hx1]
  have g2:(Dq s).getD 2 0=x2.toNat:=by rw[Uz s 2 (by omega),hx2]
  have hS:M.surr (Dq s)=if x0.toNat≠237∨x1.toNat / 32≠5∨x2.toNat / 64≠2 then (0,0) else (55296+x1.toNat % 32 * 64+x2.toNat % 64,3):=by
   unfold M.surr;rw[Jc,g0,g1,g2];simp[h]
  clear g0 g1 g2
  rw[hS];clear hS
  have l0:=x0.toNat_lt;have l1:=x1.toNat_lt;have l2:=x2.toNat_lt
  obtain⟨n0,hn0⟩: ∃n0,x0.toNat=n0:=⟨_,rfl⟩
  obtain⟨n1,hn1⟩: ∃n1,x1.toNat=n1:=⟨_,rfl⟩
  obtain⟨n2,hn2⟩: ∃n2,x2.toNat=n2:=⟨_,rfl⟩
  rw[hn0] at l0;rw[hn1] at l1;rw[hn2] at l2
  rw[hn0,hn1,hn2]
  have q1:bits .and .u8 (n1:Int) 224=(n1:Int) / 32 * 32:=u8_224 ⟨n1,l1⟩
  have q2:bits .and .u8 (n2:Int) 192=(n2:Int) / 64 * 64:=u8_192 ⟨n2,l2⟩
  have q3:bits .and .u8 (n1:Int) 31=(n1:Int) % 32:=u8_and31 _ (by omega) (by omega)
  have q4:bits .and .u8 (n2:Int) 63=(n2:Int) % 64:=u8_and63 _ (by omega) (by omega)
  by_cases c0:n0=237
  case neg=>
   rw[if_pos (Or.inl c0)]
   have c0':((n0:Int) !=237)=true:=by rw[bne_iff_ne];omega
   go_enter Tryz.func180,Tryz.ntmps180
   go_wp2
   go_ret2
   exact⟨rfl,0,rfl⟩
  by_cases c1:n1 / 32=5
  case neg=>
   rw[if_pos (Or.inr (Or.inl c1))]
   have c1':((n1:Int) / 32 * 32 !=160)=true:=by rw[bne_iff_ne];omega
   have c0':((n0:Int) !=237)=false:=by rw[bne_eq_false_iff_eq];omega
   go_enter Tryz.func180,Tryz.ntmps180
   go_wp2
   go_ret2
   exact⟨rfl,0,rfl⟩
  have c0':((n0:Int) !=237)=false:=by rw[bne_eq_false_iff_eq];omega
  have c1':((n1:Int) / 32 * 32 !=160)=false:=by rw[bne_eq_false_iff_eq];omega
  by_cases c2:n2 / 64=2
  case neg=>
   rw[if_pos (Or.inr (Or.inr c2))]
   have c2':((n2:Int) / 64 * 64 !=128)=true:=by rw[bne_iff_ne];omega
   go_enter Tryz.func180,Tryz.ntmps180
   go_wp2
   go_ret2
   exact⟨rfl,0,rfl⟩
  rw[if_neg (by omega)]
  have c2':((n2:Int) / 64 * 64 !=128)=false:=by rw[bne_eq_false_iff_eq];omega
  have b1:0<=(n1:Int) % 32:=by omega
  have b2:(n1:Int) % 32<32:=by omega
  have b3:0<=(n2:Int) % 64:=by omega
  have b4:(n2:Int) % 64<64:=by omega
  clear c0 c1 c2
  go_enter Tryz.func180,Tryz.ntmps180
  go_wp2
  go_quiet (fail)
  go_wp2
  go_ret2
  exact⟨rfl,nq,rfl⟩

theorem ZaI (s:ByteArray) (k:Nat):(s.get! k).toNat=(Dq s).getD k 0:=by
 by_cases h:k<s.size
 ·rw[Uz s k h]
  have:s.get! k=s[k]'h:=by
   cases s with
   |mk d=>exact getElem!_pos d k h
  rw[this]
 ·have e1:s.get! k=0:=by
   cases s with
   |mk d=>exact getElem!_neg d k h
  rw[e1,List.getD_eq_getElem?_getD,List.getElem?_eq_none (by rw[Jc];omega)]
  rfl
theorem ZfL (c:Nat):Utf8.valid (c:Int)=M.okc c:=by
 unfold Utf8.valid M.okc
 rw[Bool.eq_iff_iff]
 simp
 omega
theorem Zbp (s:ByteArray):Lib.decodeGo s=M.goD (Dq s):=by
 unfold Lib.decodeGo M.goD Utf8.decode
 simp only[Jc,ZaI,Nat.zero_add,Bool.and_eq_true,beq_iff_eq,decide_eq_true_eq,ZfL,ge_iff_le,Utf8.runeError,and_assoc]

theorem Kt (B:Nat) (w:World) (n:Nat):Below B w (w.drewN n):=by
 exact below_drewN (Below.refl _ _) n
theorem Ab {p:Prop} (h:p):Hid p:=h
theorem Aa {p:Prop} (h:Hid p):p:=h
theorem nn:(∀(a:Act) (t:Tmp) (v:Value),a.put (some t) v={a with tmps:=a.tmps.setIfInBounds t v})/\(∀(a:Act) (v:Value),a.put none v=a)/\(∀(l:List Value) (i:Nat) (a:Value),l.toArray.setIfInBounds i a=(l.set i a).toArray)/\(∀(x:Value) (l:List Value) (i:Nat) (a:Value),(x::l).set (i+1) a=x::l.set i a)/\(∀(x:Value) (l:List Value) (a:Value),(x::l).set 0 a=a::l):=⟨fun _ _ _=>rfl,fun _ _=>rfl,fun l i a=>by simp,fun _ _ _ _=>rfl,fun _ _ _=>rfl⟩
theorem dn {P:Program} {md:Region.Mode} {ops:Array Oper} {Q:Exit→Act→World→Prop} {S:World→Prop} {fuel:Nat} {listed:Array Bool} {a:Act} {w:World} (h:Q .normal a w) (hr:Region.ready md ops listed=[]:=by kernel_rfl):wpAnyH P md ops Q S fuel listed a w:=wpAnyH_done hr h fuel
theorem goD_le (l:List Nat) (hb: ∀x∈l,x<256):(M.goD l).1<=1114111/\(M.goD l).2<=4:=by
 rcases M.goD_cases l hb with h|⟨b0,t,hl,h1,hv⟩|⟨b0,b1,t,hl,h1,h2,h3,hv⟩|⟨b0,b1,b2,t,hl,h1,h2,h3,h4,hv⟩|⟨b0,b1,b2,b3,t,hl,h1,h2,h3,h4,h5,h6,hv⟩
 ·omega
 all_goals (rw[hv];dsimp only;omega)
theorem ZeH (s:ByteArray) (w:World) (hT:Lib.Utf8Tabs 1 2 w):Calls Tryz.prog 173 #[.string s] w fun e w'=>e= .returned (.tuple #[.int .i32 ((M.dec (Dq s)).1:Nat), .int .i64 ((M.dec (Dq s)).2:Nat)])/\Below w.heap.size w w':=by
 have hD:=Tryz.utf8_DecodeRuneInString s w hT
 have hle:=goD_le (Dq s) (Zfd s)
 have hS:=fun w=>surr_any s w
 unfold M.dec
 rw[Zbp] at hD
 generalize M.goD (Dq s)=p at *
 generalize M.surr (Dq s)=q at *
 obtain⟨c,n⟩:=p
 obtain⟨c',n'⟩:=q
 dsimp only at *
 by_cases h1:c=65533
 ·by_cases h2:n<=1
  ·rw[if_pos ⟨h1,h2⟩]
   have h1':((c:Int)==65533)=true:=by rw[beq_iff_eq];omega
   have h2':(n:Int)<=1:=by omega
   clear h1 h2
   have HS:=Ab hS;clear hS
   have HD:=Ab hD;clear hD
   go_enter Tryz.func173,Tryz.ntmps173
   go_wp2_with fail
   refine(Aa HD).mono ?_
   rintro e w1 ⟨rfl,hb⟩
   go_wp2_with fail
   refine(Aa HS _).mono ?_
   rintro e w2 ⟨rfl,m,rfl⟩
   go_wp2
   go_ret2
   exact⟨rfl,hb.trans (Kt _ _ _)⟩
  ·rw[if_neg (by omega)]
   have h1':((c:Int)==65533)=true:=by rw[beq_iff_eq];omega
   have h2': ¬(n:Int)<=1:=by omega
   clear h1 h2 hS
   have HD:=Ab hD;clear hD
   go_enter Tryz.func173,Tryz.ntmps173
   go_wp2_with fail
   refine(Aa HD).mono ?_
   rintro e w1 ⟨rfl,hb⟩
   go_wp2
   go_ret2
   exact⟨rfl,hb⟩
 ·rw[if_neg (by omega)]
  have h1':((c:Int)==65533)=false:=by rw[beq_eq_false_iff_ne];omega
  clear h1 hS
  have HD:=Ab hD;clear hD
  go_enter Tryz.func173,Tryz.ntmps173
  go_wp2_with fail
  refine(Aa HD).mono ?_
  rintro e w1 ⟨rfl,hb⟩
  go_wp2
  go_ret2
  exact⟨rfl,hb⟩
