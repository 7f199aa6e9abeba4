import Derived.Test.YthjnflilfjcgiaaGreatFmtQc
set_option linter.all false
namespace Go.Proofs.YthjnflilfjcgiaaGreatFmt
set_option maxRecDepth 100000
set_option maxHeartbeats 0
section
open Go.RowKit Go.Shelf
theorem Vc (s:ByteArray) (k:Nat):(s.get! k).toNat=(Dn s).getD k 0:=by
 by_cases h:k<s.size
 ·rw[Pn s k h]
  have:s.get! k=s[k]'h:=by
   cases s with
   |mk d=>exact getElem!_pos d k h
  rw[this]
 ·have e1:s.get! k=0:=by
   cases s with
   |mk d=>exact getElem!_neg d k h
  rw[e1,List.getD_eq_getElem?_getD,List.getElem?_eq_none (by rw[Gm];omega)]
  rfl
theorem ZcH (c:Nat):Utf8.valid (c:Int)=M.okc c:=by
 unfold Utf8.valid M.okc
 rw[Bool.eq_iff_iff]
 simp
 omega
theorem Xp (s:ByteArray):Lib.decodeGo s=M.goD (Dn s):=by
 unfold Lib.decodeGo M.goD Utf8.decode
 simp only[Gm,Vc,Nat.zero_add,Bool.and_eq_true,beq_iff_eq,decide_eq_true_eq,ZcH,ge_iff_le,Utf8.runeError,and_assoc]

theorem Zak (B:Nat) (w:World) (n:Nat):Below B w (w.drewN n):=by
 exact below_drewN (Below.refl _ _) n
theorem Ab {p:Prop} (h:p):Hid p:=h
theorem Aa {p:Prop} (h:Hid p):p:=h
theorem nn:(∀(a:Act) (t:Tmp) (v:Value),a.put (some t) v={a with tmps:=a.tmps.setIfInBounds t v})/\(∀(a:Act) (v:Value),a.put none v=a)/\(∀(l:List Value) (i:Nat) (a:Value),l.toArray.setIfInBounds i a=(l.set i a).toArray)/\(∀(x:Value) (l:List Value) (i:Nat) (a:Value),(x::l).set (i+1) a=x::l.set i a)/\(∀(x:Value) (l:List Value) (a:Value),(x::l).set 0 a=a::l):=⟨fun _ _ _=>rfl,fun _ _=>rfl,fun l i a=>by simp,fun _ _ _ _=>rfl,fun _ _ _=>rfl⟩
theorem goD_le (l:List Nat) (hb: ∀x∈l,x<256):(M.goD l).1<=1114111/\(M.goD l).2<=4:=by
 rcases M.goD_cases l hb with h|⟨b0,t,hl,h1,hv⟩|⟨b0,b1,t,hl,h1,h2,h3,hv⟩|⟨b0,b1,b2,t,hl,h1,h2,h3,h4,hv⟩|⟨b0,b1,b2,b3,t,hl,h1,h2,h3,h4,h5,h6,hv⟩
 ·omega
 all_goals (rw[hv];dsimp only;omega)
theorem ZbW (s:ByteArray) (w:World) (hT:Lib.Utf8Tabs 4 5 w):Calls Tryz.prog 106 #[.string s] w fun e w'=>e= .returned (.tuple #[.int .i32 ((M.dec (Dn s)).1:Nat), .int .i64 ((M.dec (Dn s)).2:Nat)])/\Below w.heap.size w w':=by
 have hD:=Tryz.utf8_DecodeRuneInString s w hT
 have hle:=goD_le (Dn s) (Zcd s)
 have hS:=fun w=>surr_any s w
 unfold M.dec
 rw[Xp] at hD
 generalize M.goD (Dn s)=p at *
 generalize M.surr (Dn s)=q at *
 obtain⟨c,n⟩:=p
 obtain⟨c',n'⟩:=q
 dsimp only at *
 by_cases h1:c=65533
 ·by_cases h2:n<=1
  ·rw[if_pos ⟨h1,h2⟩]
   have h1':((c:Int)==65533)=true:=by rw[beq_iff_eq];omega
   have h2':(n:Int)<=1:=by omega
   clear h1 h2
   have HS:=Ab hS;clear hS
   have HD:=Ab hD;clear hD
   go_enter Tryz.func106,Tryz.ntmps106
   go_wp2_with fail
   refine(Aa HD).mono ?_
   rintro e w1 ⟨rfl,hb⟩
   go_wp2_with fail
   refine(Aa HS _).mono ?_
   rintro e w2 ⟨rfl,m,rfl⟩
   go_wp2
   go_ret2
   exact⟨rfl,hb.trans (Zak _ _ _)⟩
  ·rw[if_neg (by omega)]
   have h1':((c:Int)==65533)=true:=by rw[beq_iff_eq];omega
   have h2': ¬(n:Int)<=1:=by omega
   clear h1 h2 hS
   have HD:=Ab hD;clear hD
   go_enter Tryz.func106,Tryz.ntmps106
   go_wp2_with fail
   refine(Aa HD).mono ?_
   rintro e w1 ⟨rfl,hb⟩
   go_wp2
   go_ret2
   exact⟨rfl,hb⟩
 ·rw[if_neg (by omega)]
  have h1':((c:Int)==65533)=false:=by rw[beq_eq_false_iff_ne];omega
  clear h1 hS
  have HD:=Ab hD;clear hD
  go_enter Tryz.func106,Tryz.ntmps106
  go_wp2_with fail
  refine(Aa HD).mono ?_
  rintro e w1 ⟨rfl,hb⟩
  go_wp2
  go_ret2
  exact⟨rfl,hb⟩
