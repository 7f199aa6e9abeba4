import Derived.Test.YthcmamjpfigdfaaGreatDoorQz
import Derived.Lib.ItoaWalk
import Derived.Lib.Walk
import Derived.Lib.Hide
set_option linter.all false
namespace Go.Proofs.YthcmamjpfigdfaaGreatDoor
set_option maxRecDepth 100000
set_option maxHeartbeats 0
section
open Go Go.Proofs Go.RowKit FM Tryz
def Ej (x:Bool) (n d:DD):DD:=if Eo d==0|| !stV n then zeroD else if noV n then (if x then Jy d else zeroD) else if n.c==1 && Rr n d then n else Ke n d
def Pi (x:Bool) (n d:DD):Bool:=if Eo d==0|| !stV n then false else if noV n then x else !(n.c==1 && Rr n d)
def Jt (n d:DD):Int:=if Eo d==0|| !stV n then 5 else 0
theorem no_str {n:DD} (h:noV n=true):n.v.s.size<=1048576:=by
 refine Zdh ?_
 unfold noV Az at h
 cases ht:thV n.v
 ·rfl
 ·rw[ht] at h
  simp at h
  split at h<;>simp_all
theorem st_str {n:DD} (h:stV n=true):n.v.s.size<=1048576:=by
 unfold stV at h
 simp only[Bool.or_eq_true] at h
 rcases h with h|h
 ·exact no_str h
 ·exact Vy (Ub (ZdS h))
theorem bec_str {n d:DD} (h1:n.v.s.size<=1048576) (h2:d.v.s.size<=1048576):(Ke n d).v.s.size<=1048576:=by
 unfold Ke
 cases turnV n d
 ·show (orV d.v n.v).s.size<=1048576
  unfold orV
  cases thV d.v
  ·exact h1
  ·exact h2
 ·exact ZdA h2
theorem ZgN (x:Bool) (n d:DD) (hn:FD n) (hd:FD d) (w:World) (hT:Lib.Utf8Tabs 1 2 w):Calls prog 107 #[.bool x,n.agg,d.agg] w fun e w'=>e= .returned (.tuple #[(Ej x n d).agg, .bool (Pi x n d), .int .i64 (Jt n d)])/\Below w.heap.size w w':=by
 have HT:=Ab hT
 clear hT
 have HC:=Ab (fun w hT=>ZdF d hd w hT)
 have HSt:=Ab (fun w hT=>Rv n hn w hT)
 have HNo:=Ab (Pu n hn)
 have HFi:=Ab (ZaN d hd)
 have HFb:=Ab (fun w hT=>Zbl n d hn hd w hT)
 have HBe:=Ab (ZeO n d hn hd)
 have HAf:=Ab (fun (h: ¬Eo d=0) w=>Za9 (Jy d) (ZdA (Vy (Ub h))) w)
 have HAn:=Ab (fun (h:stV n=true) w=>Za9 n (st_str h) w)
 have HAb:=Ab (fun (h: ¬Eo d=0) (h2:stV n=true) w=>Za9 (Ke n d) (bec_str (st_str h2) (Vy (Ub h))) w)
 clear hn hd
 have LL:=Ab (Lie.new3 w (.D n) (.D d) (.D zeroD))
 unfold Ej Pi Jt
 unfold Mt at HC
 generalize Eo d=k at *
 generalize stV n=st at *
 generalize noV n=no at *
 generalize Jy d=fd at *
 generalize Rr n d=fb at *
 generalize Ke n d=be at *
 generalize hq:(n.c==1)=q at *
 have hq0:=Gk n
 have hq1:=Gk d
 rw[hq0,hq1]
 clear hq0 hq1
 by_cases hk:k=0
 ·clear HAf HAb HAn
  subst hk
  go_enter func107,ntmps107
  go_wp2_with (first|go_skip|((with_reducible apply Bu);(case ho|hw|hx=>rfl);(case hc=>first|exact(Aa LL).one|exact(Aa LL).two);simp only[nn]))
  refine(Aa HC _ (Ao (Aa HT) (Aa LL).below)).mono ?_
  rintro _ w11 ⟨rfl,hb⟩
  replace LL:=Ab ((Aa LL).on hb)
  clear hb
  go_wp2_with (first|go_skip|((with_reducible apply Kg (u:=zeroD) 2);(case ho|hw=>rfl);(case hL=>exact Aa LL);(case hi|hx|hy=>rfl);(intro X LX;simp only[nn];replace LL:=Ab LX;clear LX)))
  refine Oi rfl rfl rfl rfl rfl (Aa LL).three ?_
  exact⟨rfl,(Aa LL).below⟩
 ·have e0:(k==0)=false:=by simp[hk]
  simp only[e0] at HC ⊢
  replace HAf:=Ab (Aa HAf hk)
  replace HAb:=Ab (Aa HAb hk)
  clear hk e0
  cases st
  ·clear HAn HAb
   go_enter func107,ntmps107
   go_wp2_with (first|go_skip|((with_reducible apply Bu);(case ho|hw|hx=>rfl);(case hc=>first|exact(Aa LL).one|exact(Aa LL).two);simp only[nn]))
   refine(Aa HC _ (Ao (Aa HT) (Aa LL).below)).mono ?_
   rintro _ w12 ⟨rfl,hb⟩
   replace LL:=Ab ((Aa LL).on hb)
   clear hb
   go_wp2_with (first|go_skip|((with_reducible apply Bu);(case ho|hw|hx=>rfl);(case hc=>first|exact(Aa LL).one|exact(Aa LL).two);simp only[nn]))
   refine(Aa HSt _ (Ao (Aa HT) (Aa LL).below)).mono ?_
   rintro _ w13 ⟨rfl,hb⟩
   replace LL:=Ab ((Aa LL).on hb)
   clear hb
   go_wp2_with (first|go_skip|((with_reducible apply Kg (u:=zeroD) 2);(case ho|hw=>rfl);(case hL=>exact Aa LL);(case hi|hx|hy=>rfl);(intro X LX;simp only[nn];replace LL:=Ab LX;clear LX)))
   refine Oi rfl rfl rfl rfl rfl (Aa LL).three ?_
   exact⟨rfl,(Aa LL).below⟩
  ·replace HAn:=Ab (Aa HAn rfl)
   replace HAb:=Ab (Aa HAb rfl)
   cases no
   ·go_enter func107,ntmps107
    go_wp2_with (first|go_skip|((with_reducible apply Bu);(case ho|hw|hx=>rfl);(case hc=>first|exact(Aa LL).one|exact(Aa LL).two);simp only[nn]))
    refine(Aa HC _ (Ao (Aa HT) (Aa LL).below)).mono ?_
    rintro _ w17 ⟨rfl,hb⟩
    replace LL:=Ab ((Aa LL).on hb)
    clear hb
    go_wp2_with (first|go_skip|((with_reducible apply Bu);(case ho|hw|hx=>rfl);(case hc=>first|exact(Aa LL).one|exact(Aa LL).two);simp only[nn]))
    refine(Aa HSt _ (Ao (Aa HT) (Aa LL).below)).mono ?_
    rintro _ w18 ⟨rfl,hb⟩
    replace LL:=Ab ((Aa LL).on hb)
    clear hb
    go_wp2_with (first|go_skip|((with_reducible apply Bu);(case ho|hw|hx=>rfl);(case hc=>first|exact(Aa LL).one|exact(Aa LL).two);simp only[nn]))
    refine(Aa HNo _).mono ?_
    rintro _ w19 ⟨rfl,hb⟩
    replace LL:=Ab ((Aa LL).on hb)
    clear hb
    go_wp2_with (first|go_skip|((with_reducible apply Bu);(case ho|hw|hx=>rfl);(case hc=>first|exact(Aa LL).one|exact(Aa LL).two);simp only[nn]))
    refine(Aa HNo _).mono ?_
    rintro _ w20 ⟨rfl,hb⟩
    replace LL:=Ab ((Aa LL).on hb)
    clear hb
    cases q
    ·go_wp2_with (first|go_skip|((with_reducible apply Bu);(case ho|hw|hx=>rfl);(case hc=>first|exact(Aa LL).one|exact(Aa LL).two);simp only[nn])|((with_reducible apply Ds);(case ho|hw|hx=>rfl);(case hc=>first|exact(Aa LL).one|exact(Aa LL).two);simp only[nn]))
     refine(Aa HBe _).mono ?_
     rintro _ w21 ⟨rfl,hb⟩
     replace LL:=Ab ((Aa LL).on hb)
     clear hb
     go_wp2_with (go_skip)
     refine(Aa HAb _).mono ?_
     rintro _ w22 ⟨rfl,hb⟩
     replace LL:=Ab ((Aa LL).on hb)
     clear hb
     go_wp2_with (first|go_skip|((with_reducible apply Kg 2);(case ho|hw=>rfl);(case hL=>exact Aa LL);(case hi|hx|hy=>rfl);(intro X LX;simp only[nn];replace LL:=Ab LX;clear LX)))
     refine Oi rfl rfl rfl rfl rfl (Aa LL).three ?_
     exact⟨rfl,(Aa LL).below⟩
    ·go_wp2_with (first|go_skip|((with_reducible apply Bu);(case ho|hw|hx=>rfl);(case hc=>first|exact(Aa LL).one|exact(Aa LL).two);simp only[nn])|((with_reducible apply Ds);(case ho|hw|hx=>rfl);(case hc=>first|exact(Aa LL).one|exact(Aa LL).two);simp only[nn]))
     refine(Aa HFb _ (Ao (Aa HT) (Aa LL).below)).mono ?_
     rintro _ w23 ⟨rfl,hb⟩
     replace LL:=Ab ((Aa LL).on hb)
     clear hb
     cases fb
     ·go_wp2_with (first|go_skip|((with_reducible apply Bu);(case ho|hw|hx=>rfl);(case hc=>first|exact(Aa LL).one|exact(Aa LL).two);simp only[nn]))
      refine(Aa HBe _).mono ?_
      rintro _ w24 ⟨rfl,hb⟩
      replace LL:=Ab ((Aa LL).on hb)
      clear hb
      go_wp2_with (go_skip)
      refine(Aa HAb _).mono ?_
      rintro _ w25 ⟨rfl,hb⟩
      replace LL:=Ab ((Aa LL).on hb)
      clear hb
      go_wp2_with (first|go_skip|((with_reducible apply Kg 2);(case ho|hw=>rfl);(case hL=>exact Aa LL);(case hi|hx|hy=>rfl);(intro X LX;simp only[nn];replace LL:=Ab LX;clear LX)))
      refine Oi rfl rfl rfl rfl rfl (Aa LL).three ?_
      exact⟨rfl,(Aa LL).below⟩
     ·go_wp2_with (first|go_skip|((with_reducible apply Bu);(case ho|hw|hx=>rfl);(case hc=>first|exact(Aa LL).one|exact(Aa LL).two);simp only[nn]))
      refine(Aa HAn _).mono ?_
      rintro _ w26 ⟨rfl,hb⟩
      replace LL:=Ab ((Aa LL).on hb)
      clear hb
      go_wp2_with (first|go_skip|((with_reducible apply Kg 2);(case ho|hw=>rfl);(case hL=>exact Aa LL);(case hi|hx|hy=>rfl);(intro X LX;simp only[nn];replace LL:=Ab LX;clear LX)))
      refine Oi rfl rfl rfl rfl rfl (Aa LL).three ?_
      exact⟨rfl,(Aa LL).below⟩
   ·cases x
    ·go_enter func107,ntmps107
     go_wp2_with (first|go_skip|((with_reducible apply Bu);(case ho|hw|hx=>rfl);(case hc=>first|exact(Aa LL).one|exact(Aa LL).two);simp only[nn]))
     refine(Aa HC _ (Ao (Aa HT) (Aa LL).below)).mono ?_
     rintro _ w14 ⟨rfl,hb⟩
     replace LL:=Ab ((Aa LL).on hb)
     clear hb
     go_wp2_with (first|go_skip|((with_reducible apply Bu);(case ho|hw|hx=>rfl);(case hc=>first|exact(Aa LL).one|exact(Aa LL).two);simp only[nn]))
     refine(Aa HSt _ (Ao (Aa HT) (Aa LL).below)).mono ?_
     rintro _ w15 ⟨rfl,hb⟩
     replace LL:=Ab ((Aa LL).on hb)
     clear hb
     go_wp2_with (first|go_skip|((with_reducible apply Bu);(case ho|hw|hx=>rfl);(case hc=>first|exact(Aa LL).one|exact(Aa LL).two);simp only[nn]))
     refine(Aa HNo _).mono ?_
     rintro _ w16 ⟨rfl,hb⟩
     replace LL:=Ab ((Aa LL).on hb)
     clear hb
     go_wp2_with (first|go_skip|((with_reducible apply Kg (u:=zeroD) 2);(case ho|hw=>rfl);(case hL=>exact Aa LL);(case hi|hx|hy=>rfl);(intro X LX;simp only[nn];replace LL:=Ab LX;clear LX)))
     refine Oi rfl rfl rfl rfl rfl (Aa LL).three ?_
     exact⟨rfl,(Aa LL).below⟩
    ·go_enter func107,ntmps107
     go_wp2_with (first|go_skip|((with_reducible apply Bu);(case ho|hw|hx=>rfl);(case hc=>first|exact(Aa LL).one|exact(Aa LL).two);simp only[nn]))
     refine(Aa HC _ (Ao (Aa HT) (Aa LL).below)).mono ?_
     rintro _ w11 ⟨rfl,hb⟩
     replace LL:=Ab ((Aa LL).on hb)
     clear hb
     go_wp2_with (first|go_skip|((with_reducible apply Bu);(case ho|hw|hx=>rfl);(case hc=>first|exact(Aa LL).one|exact(Aa LL).two);simp only[nn]))
     refine(Aa HSt _ (Ao (Aa HT) (Aa LL).below)).mono ?_
     rintro _ w12 ⟨rfl,hb⟩
     replace LL:=Ab ((Aa LL).on hb)
     clear hb
     go_wp2_with (first|go_skip|((with_reducible apply Bu);(case ho|hw|hx=>rfl);(case hc=>first|exact(Aa LL).one|exact(Aa LL).two);simp only[nn]))
     refine(Aa HNo _).mono ?_
     rintro _ w13 ⟨rfl,hb⟩
     replace LL:=Ab ((Aa LL).on hb)
     clear hb
     go_wp2_with (first|go_skip|((with_reducible apply Bu);(case ho|hw|hx=>rfl);(case hc=>first|exact(Aa LL).one|exact(Aa LL).two);simp only[nn]))
     refine(Aa HNo _).mono ?_
     rintro _ w14 ⟨rfl,hb⟩
     replace LL:=Ab ((Aa LL).on hb)
     clear hb
     go_wp2_with (first|go_skip|((with_reducible apply Bu);(case ho|hw|hx=>rfl);(case hc=>first|exact(Aa LL).one|exact(Aa LL).two);simp only[nn]))
     refine(Aa HFi _).mono ?_
     rintro _ w15 ⟨rfl,hb⟩
     replace LL:=Ab ((Aa LL).on hb)
     clear hb
     go_wp2_with (go_skip)
     refine(Aa HAf _).mono ?_
     rintro _ w16 ⟨rfl,hb⟩
     replace LL:=Ab ((Aa LL).on hb)
     clear hb
     go_wp2_with (first|go_skip|((with_reducible apply Kg 2);(case ho|hw=>rfl);(case hL=>exact Aa LL);(case hi|hx|hy=>rfl);(intro X LX;simp only[nn];replace LL:=Ab LX;clear LX)))
     refine Oi rfl rfl rfl rfl rfl (Aa LL).three ?_
     exact⟨rfl,(Aa LL).below⟩
end
section
open Go Go.Proofs Go.RowKit Go.Sort Go.Lib Tryz
theorem fb10 (blk off cap:Nat) (u:Nat) (d:Array UInt8) (w:World) (hH:Sort.Holds (fun (b:UInt8)=>Value.int .u8 (b.toNat:Int)) w blk off d) (hu:u<4294967296) (hsz:d.size<=24):Calls prog 254 #[.slice (some ⟨blk,off,none⟩) d.size cap, .int .u64 u] w fun e w'=>e= .returned (.tuple #[])/\ ∃(n:Nat) (dk:Array UInt8),dk.size=d.size/\w'=(putRow (fun (b:UInt8)=>Value.int .u8 (b.toNat:Int)) w blk off dk).drewN n:=by
 have mixed:=Tryz.lays285.mixed
 go_enter func254,ntmps254
 go_name_bytes SM hSM
 have eSM:SM=Lib.smalls:=by rw[←hSM];decide+kernel
 subst eSM
 clear hSM
 go_wp2
 go_loopw [1,4] (fun vu vn wr=> ∃(nd v n:Nat) (dk:Array UInt8),vu= .int .u64 v/\vn= .int .i64 nd/\wr=(putRow (fun (b:UInt8)=>Value.int .u8 (b.toNat:Int)) w blk off dk).drewN n/\dk.size=d.size/\nd<=d.size/\v<4294967296) (fun _ vn _=>(RowKit.intOf vn).toNat)
 case atStart=>exact⟨d.size,u,0,d,rfl,rfl,(putRow_self _ _ _ _ _ hH).symm,rfl,Nat.le_refl _,hu⟩
 case round=>
  obtain⟨nd,v,n,dk0,rfl,rfl,hw0,hs0,hnd,hv⟩:=hrel
  rename World=>W0
  have AH:=Lib.hid hH
  clear hH hu
  have hH0:Sort.Holds (fun (b:UInt8)=>Value.int .u8 (b.toNat:Int)) W0 blk off dk0:=by rw[hw0];exact holds_putRow _ w blk off d dk0 AH.out hs0
  obtain⟨G0,hG0⟩: ∃G:Nat->Int,∀t,G t=(dk0[t]!.toNat:Int):=⟨_,fun _=>rfl⟩
  have hc0: ∀t,t<d.size->W0.cell? ⟨blk,off+t,none⟩=some (.int .u8 (G0 t)):=fun t ht=>by rw[hG0];exact(hH0 t (by omega)).1
  have hf0: ∀t,t<d.size->W0.frozen? ⟨blk,off+t,none⟩=false:=fun t ht=>(hH0 t (by omega)).2
  have AW0:=Lib.hid hw0
  clear hw0 hG0 hH0
  by_cases h8:8<=nd
  ·obtain⟨m,rfl⟩: ∃m,nd=m+8:=⟨nd - 8,by omega⟩
   go_wp2
   go_name_slot 9 x0 hx0
   have hxe0:x0=((v % 100 * 2:Nat):Int):=by omega
   have hXa0: ∀w,(Instr.index 9 (.string Lib.smalls) (.int .u32 (x0+1))).run prog w= .ok (.int .u8 ((sm (v % 100 * 2+1)).toNat:Int)) w:=idx_smalls 9 underlying9 .u32 _ _ (by omega) (by omega)
   have hXb0: ∀w,(Instr.index 9 (.string Lib.smalls) (.int .u32 x0)).run prog w= .ok (.int .u8 ((sm (v % 100 * 2)).toNat:Int)) w:=idx_smalls 9 underlying9 .u32 _ _ (by omega) (by omega)
   have hlo0:0<=x0:=by omega
   have hhi0:x0<=198:=by omega
   clear hx0 hxe0
   go_region_o
   go_wp2
   go_name_world W1 hW1
   have hw1:W1=(putRow (fun (b:UInt8)=>Value.int .u8 (b.toNat:Int)) w blk off ((dk0.setIfInBounds (m+6+1) (sm (v % 100 * 2+1))).setIfInBounds (m+6) (sm (v % 100 * 2)))).drewN (n+0+1):=by rw[←hW1,AW0.out];exact store2_world w blk off dk0 (n+0) (m+6+1) (m+6) _ _ (by omega) (by omega)
   have hs1:((dk0.setIfInBounds (m+6+1) (sm (v % 100 * 2+1))).setIfInBounds (m+6) (sm (v % 100 * 2))).size=d.size:=by simp[hs0]
   generalize ((dk0.setIfInBounds (m+6+1) (sm (v % 100 * 2+1))).setIfInBounds (m+6) (sm (v % 100 * 2)))=dk1 at hw1 hs1
   clear hW1 hc0 hf0 AW0 hXa0 hXb0 hs0
   have hH1:Sort.Holds (fun (b:UInt8)=>Value.int .u8 (b.toNat:Int)) W1 blk off dk1:=by rw[hw1];exact holds_putRow _ w blk off d dk1 AH.out hs1
   obtain⟨G1,hG1⟩: ∃G:Nat->Int,∀t,G t=(dk1[t]!.toNat:Int):=⟨_,fun _=>rfl⟩
   have hc1: ∀t,t<d.size->W1.cell? ⟨blk,off+t,none⟩=some (.int .u8 (G1 t)):=fun t ht=>by rw[hG1];exact(hH1 t (by omega)).1
   have hf1: ∀t,t<d.size->W1.frozen? ⟨blk,off+t,none⟩=false:=fun t ht=>(hH1 t (by omega)).2
   have AW1:=Lib.hid hw1
   clear hw1 hG1 hH1
   go_name_slot 8 x1 hx1
   have hxe1:x1=(((v / 100) % 100 * 2:Nat):Int):=by omega
   have hXa1: ∀w,(Instr.index 9 (.string Lib.smalls) (.int .u32 (x1+1))).run prog w= .ok (.int .u8 ((sm ((v / 100) % 100 * 2+1)).toNat:Int)) w:=idx_smalls 9 underlying9 .u32 _ _ (by omega) (by omega)
   have hXb1: ∀w,(Instr.index 9 (.string Lib.smalls) (.int .u32 x1)).run prog w= .ok (.int .u8 ((sm ((v / 100) % 100 * 2)).toNat:Int)) w:=idx_smalls 9 underlying9 .u32 _ _ (by omega) (by omega)
   have hlo1:0<=x1:=by omega
   have hhi1:x1<=198:=by omega
   clear hx1 hxe1
   go_region_o
   go_wp2
   go_name_world W2 hW2
   have hw2:W2=(putRow (fun (b:UInt8)=>Value.int .u8 (b.toNat:Int)) w blk off ((dk1.setIfInBounds (m+4+1) (sm ((v / 100) % 100 * 2+1))).setIfInBounds (m+4) (sm ((v / 100) % 100 * 2)))).drewN (n+1+1):=by rw[←hW2,AW1.out];exact store2_world w blk off dk1 (n+1) (m+4+1) (m+4) _ _ (by omega) (by omega)
   have hs2:((dk1.setIfInBounds (m+4+1) (sm ((v / 100) % 100 * 2+1))).setIfInBounds (m+4) (sm ((v / 100) % 100 * 2))).size=d.size:=by simp[hs1]
   generalize ((dk1.setIfInBounds (m+4+1) (sm ((v / 100) % 100 * 2+1))).setIfInBounds (m+4) (sm ((v / 100) % 100 * 2)))=dk2 at hw2 hs2
   clear hW2 hc1 hf1 AW1 hXa1 hXb1 hs1
   have hH2:Sort.Holds (fun (b:UInt8)=>Value.int .u8 (b.toNat:Int)) W2 blk off dk2:=by rw[hw2];exact holds_putRow _ w blk off d dk2 AH.out hs2
   obtain⟨G2,hG2⟩: ∃G:Nat->Int,∀t,G t=(dk2[t]!.toNat:Int):=⟨_,fun _=>rfl⟩
   have hc2: ∀t,t<d.size->W2.cell? ⟨blk,off+t,none⟩=some (.int .u8 (G2 t)):=fun t ht=>by rw[hG2];exact(hH2 t (by omega)).1
   have hf2: ∀t,t<d.size->W2.frozen? ⟨blk,off+t,none⟩=false:=fun t ht=>(hH2 t (by omega)).2
   have AW2:=Lib.hid hw2
   clear hw2 hG2 hH2
   go_name_slot 11 x2 hx2
   have hxe2:x2=(((v / 100 / 100) % 100 * 2:Nat):Int):=by omega
   have hXa2: ∀w,(Instr.index 9 (.string Lib.smalls) (.int .u32 (x2+1))).run prog w= .ok (.int .u8 ((sm ((v / 100 / 100) % 100 * 2+1)).toNat:Int)) w:=idx_smalls 9 underlying9 .u32 _ _ (by omega) (by omega)
   have hXb2: ∀w,(Instr.index 9 (.string Lib.smalls) (.int .u32 x2)).run prog w= .ok (.int .u8 ((sm ((v / 100 / 100) % 100 * 2)).toNat:Int)) w:=idx_smalls 9 underlying9 .u32 _ _ (by omega) (by omega)
   have hlo2:0<=x2:=by omega
   have hhi2:x2<=198:=by omega
   clear hx2 hxe2
   go_region_o
   go_wp2
   go_name_world W3 hW3
   have hw3:W3=(putRow (fun (b:UInt8)=>Value.int .u8 (b.toNat:Int)) w blk off ((dk2.setIfInBounds (m+2+1) (sm ((v / 100 / 100) % 100 * 2+1))).setIfInBounds (m+2) (sm ((v / 100 / 100) % 100 * 2)))).drewN (n+2+1):=by rw[←hW3,AW2.out];exact store2_world w blk off dk2 (n+2) (m+2+1) (m+2) _ _ (by omega) (by omega)
   have hs3:((dk2.setIfInBounds (m+2+1) (sm ((v / 100 / 100) % 100 * 2+1))).setIfInBounds (m+2) (sm ((v / 100 / 100) % 100 * 2))).size=d.size:=by simp[hs2]
   generalize ((dk2.setIfInBounds (m+2+1) (sm ((v / 100 / 100) % 100 * 2+1))).setIfInBounds (m+2) (sm ((v / 100 / 100) % 100 * 2)))=dk3 at hw3 hs3
   clear hW3 hc2 hf2 AW2 hXa2 hXb2 hs2
   have hH3:Sort.Holds (fun (b:UInt8)=>Value.int .u8 (b.toNat:Int)) W3 blk off dk3:=by rw[hw3];exact holds_putRow _ w blk off d dk3 AH.out hs3
   obtain⟨G3,hG3⟩: ∃G:Nat->Int,∀t,G t=(dk3[t]!.toNat:Int):=⟨_,fun _=>rfl⟩
   have hc3: ∀t,t<d.size->W3.cell? ⟨blk,off+t,none⟩=some (.int .u8 (G3 t)):=fun t ht=>by rw[hG3];exact(hH3 t (by omega)).1
   have hf3: ∀t,t<d.size->W3.frozen? ⟨blk,off+t,none⟩=false:=fun t ht=>(hH3 t (by omega)).2
   have AW3:=Lib.hid hw3
   clear hw3 hG3 hH3
   go_name_slot 10 x3 hx3
   have hxe3:x3=(((v / 100 / 100 / 100) % 100 * 2:Nat):Int):=by omega
   have hXa3: ∀w,(Instr.index 9 (.string Lib.smalls) (.int .u32 (x3+1))).run prog w= .ok (.int .u8 ((sm ((v / 100 / 100 / 100) % 100 * 2+1)).toNat:Int)) w:=idx_smalls 9 underlying9 .u32 _ _ (by omega) (by omega)
   have hXb3: ∀w,(Instr.index 9 (.string Lib.smalls) (.int .u32 x3)).run prog w= .ok (.int .u8 ((sm ((v / 100 / 100 / 100) % 100 * 2)).toNat:Int)) w:=idx_smalls 9 underlying9 .u32 _ _ (by omega) (by omega)
   have hlo3:0<=x3:=by omega
   have hhi3:x3<=198:=by omega
   clear hx3 hxe3
   go_region_o
   go_wp2
   go_roundw
   case rel=>
    refine⟨m,v / 100000000,n+3+1,((dk3.setIfInBounds (m+1) (sm ((v / 100 / 100 / 100) % 100 * 2+1))).setIfInBounds (m) (sm ((v / 100 / 100 / 100) % 100 * 2))),by first|go_num|(congr 1;omega),by first|go_num|(congr 1;omega),by rw[AW3.out];exact store2_world w blk off dk3 (n+3) (m+1) (m) _ _ (by omega) (by omega),by simp[hs3],by omega,by omega⟩
   case measure=>simp[RowKit.intOf];omega
  ·have hc8:nd=0∨nd=1∨nd=2∨nd=3∨nd=4∨nd=5∨nd=6∨nd=7:=by omega
   rcases hc8 with rfl|rfl|rfl|rfl|rfl|rfl|rfl|rfl
   ·go_wp2
    go_end0
    exact⟨rfl,n,dk0,hs0,AW0.out⟩
   ·go_wp2
    go_end0
    refine⟨rfl,n,_, ?_,by rw[AW0.out];exact store1_world0 w blk off dk0 n _ v (by omega) (by omega)⟩
    simp[hs0]
   ·go_wp2
    go_name_slot 16 x0 hx0
    have hxe0:x0=((v % 100 * 2:Nat):Int):=by omega
    have hXa0: ∀w,(Instr.index 9 (.string Lib.smalls) (.int .u32 (x0+1))).run prog w= .ok (.int .u8 ((sm (v % 100 * 2+1)).toNat:Int)) w:=idx_smalls 9 underlying9 .u32 _ _ (by omega) (by omega)
    have hXb0: ∀w,(Instr.index 9 (.string Lib.smalls) (.int .u32 x0)).run prog w= .ok (.int .u8 ((sm (v % 100 * 2)).toNat:Int)) w:=idx_smalls 9 underlying9 .u32 _ _ (by omega) (by omega)
    have hlo0:0<=x0:=by omega
    have hhi0:x0<=198:=by omega
    clear hx0 hxe0
    go_region_o
    go_wp2
    go_end0
    refine⟨rfl,n+0+1,_, ?_,by rw[AW0.out];exact store2_world w blk off dk0 (n+0) (0+1) (0) _ _ (by omega) (by omega)⟩
    simp[hs0]
   ·go_wp2
    go_name_slot 16 x0 hx0
    have hxe0:x0=((v % 100 * 2:Nat):Int):=by omega
    have hXa0: ∀w,(Instr.index 9 (.string Lib.smalls) (.int .u32 (x0+1))).run prog w= .ok (.int .u8 ((sm (v % 100 * 2+1)).toNat:Int)) w:=idx_smalls 9 underlying9 .u32 _ _ (by omega) (by omega)
    have hXb0: ∀w,(Instr.index 9 (.string Lib.smalls) (.int .u32 x0)).run prog w= .ok (.int .u8 ((sm (v % 100 * 2)).toNat:Int)) w:=idx_smalls 9 underlying9 .u32 _ _ (by omega) (by omega)
    have hlo0:0<=x0:=by omega
    have hhi0:x0<=198:=by omega
    clear hx0 hxe0
    go_region_o
    go_wp2
    go_end0
    refine⟨rfl,n+0+1,_, ?_,by rw[AW0.out];exact store21_world w blk off dk0 (n+0) (1+1) (1) _ _ _ (v / 100) (by omega) (by omega) (by omega)⟩
    simp[hs0]
   ·go_wp2
    go_name_slot 15 x0 hx0
    have hxe0:x0=((v % 100 * 2:Nat):Int):=by omega
    have hXa0: ∀w,(Instr.index 9 (.string Lib.smalls) (.int .u32 (x0+1))).run prog w= .ok (.int .u8 ((sm (v % 100 * 2+1)).toNat:Int)) w:=idx_smalls 9 underlying9 .u32 _ _ (by omega) (by omega)
    have hXb0: ∀w,(Instr.index 9 (.string Lib.smalls) (.int .u32 x0)).run prog w= .ok (.int .u8 ((sm (v % 100 * 2)).toNat:Int)) w:=idx_smalls 9 underlying9 .u32 _ _ (by omega) (by omega)
    have hlo0:0<=x0:=by omega
    have hhi0:x0<=198:=by omega
    clear hx0 hxe0
    go_region_o
    go_wp2
    go_name_world W1 hW1
    have hw1:W1=(putRow (fun (b:UInt8)=>Value.int .u8 (b.toNat:Int)) w blk off ((dk0.setIfInBounds (2+1) (sm (v % 100 * 2+1))).setIfInBounds (2) (sm (v % 100 * 2)))).drewN (n+0+1):=by rw[←hW1,AW0.out];exact store2_world w blk off dk0 (n+0) (2+1) (2) _ _ (by omega) (by omega)
    have hs1:((dk0.setIfInBounds (2+1) (sm (v % 100 * 2+1))).setIfInBounds (2) (sm (v % 100 * 2))).size=d.size:=by simp[hs0]
    generalize ((dk0.setIfInBounds (2+1) (sm (v % 100 * 2+1))).setIfInBounds (2) (sm (v % 100 * 2)))=dk1 at hw1 hs1
    clear hW1 hc0 hf0 AW0 hXa0 hXb0 hs0
    have hH1:Sort.Holds (fun (b:UInt8)=>Value.int .u8 (b.toNat:Int)) W1 blk off dk1:=by rw[hw1];exact holds_putRow _ w blk off d dk1 AH.out hs1
    obtain⟨G1,hG1⟩: ∃G:Nat->Int,∀t,G t=(dk1[t]!.toNat:Int):=⟨_,fun _=>rfl⟩
    have hc1: ∀t,t<d.size->W1.cell? ⟨blk,off+t,none⟩=some (.int .u8 (G1 t)):=fun t ht=>by rw[hG1];exact(hH1 t (by omega)).1
    have hf1: ∀t,t<d.size->W1.frozen? ⟨blk,off+t,none⟩=false:=fun t ht=>(hH1 t (by omega)).2
    have AW1:=Lib.hid hw1
    clear hw1 hG1 hH1
    go_name_slot 14 x1 hx1
    have hxe1:x1=(((v / 100) % 100 * 2:Nat):Int):=by omega
    have hXa1: ∀w,(Instr.index 9 (.string Lib.smalls) (.int .u32 (x1+1))).run prog w= .ok (.int .u8 ((sm ((v / 100) % 100 * 2+1)).toNat:Int)) w:=idx_smalls 9 underlying9 .u32 _ _ (by omega) (by omega)
    have hXb1: ∀w,(Instr.index 9 (.string Lib.smalls) (.int .u32 x1)).run prog w= .ok (.int .u8 ((sm ((v / 100) % 100 * 2)).toNat:Int)) w:=idx_smalls 9 underlying9 .u32 _ _ (by omega) (by omega)
    have hlo1:0<=x1:=by omega
    have hhi1:x1<=198:=by omega
    clear hx1 hxe1
    go_region_o
    go_wp2
    go_end0
    refine⟨rfl,n+1+1,_, ?_,by rw[AW1.out];exact store2_world w blk off dk1 (n+1) (0+1) (0) _ _ (by omega) (by omega)⟩
    simp[hs1]
   ·go_wp2
    go_name_slot 15 x0 hx0
    have hxe0:x0=((v % 100 * 2:Nat):Int):=by omega
    have hXa0: ∀w,(Instr.index 9 (.string Lib.smalls) (.int .u32 (x0+1))).run prog w= .ok (.int .u8 ((sm (v % 100 * 2+1)).toNat:Int)) w:=idx_smalls 9 underlying9 .u32 _ _ (by omega) (by omega)
    have hXb0: ∀w,(Instr.index 9 (.string Lib.smalls) (.int .u32 x0)).run prog w= .ok (.int .u8 ((sm (v % 100 * 2)).toNat:Int)) w:=idx_smalls 9 underlying9 .u32 _ _ (by omega) (by omega)
    have hlo0:0<=x0:=by omega
    have hhi0:x0<=198:=by omega
    clear hx0 hxe0
    go_region_o
    go_wp2
    go_name_world W1 hW1
    have hw1:W1=(putRow (fun (b:UInt8)=>Value.int .u8 (b.toNat:Int)) w blk off ((dk0.setIfInBounds (3+1) (sm (v % 100 * 2+1))).setIfInBounds (3) (sm (v % 100 * 2)))).drewN (n+0+1):=by rw[←hW1,AW0.out];exact store2_world w blk off dk0 (n+0) (3+1) (3) _ _ (by omega) (by omega)
    have hs1:((dk0.setIfInBounds (3+1) (sm (v % 100 * 2+1))).setIfInBounds (3) (sm (v % 100 * 2))).size=d.size:=by simp[hs0]
    generalize ((dk0.setIfInBounds (3+1) (sm (v % 100 * 2+1))).setIfInBounds (3) (sm (v % 100 * 2)))=dk1 at hw1 hs1
    clear hW1 hc0 hf0 AW0 hXa0 hXb0 hs0
    have hH1:Sort.Holds (fun (b:UInt8)=>Value.int .u8 (b.toNat:Int)) W1 blk off dk1:=by rw[hw1];exact holds_putRow _ w blk off d dk1 AH.out hs1
    obtain⟨G1,hG1⟩: ∃G:Nat->Int,∀t,G t=(dk1[t]!.toNat:Int):=⟨_,fun _=>rfl⟩
    have hc1: ∀t,t<d.size->W1.cell? ⟨blk,off+t,none⟩=some (.int .u8 (G1 t)):=fun t ht=>by rw[hG1];exact(hH1 t (by omega)).1
    have hf1: ∀t,t<d.size->W1.frozen? ⟨blk,off+t,none⟩=false:=fun t ht=>(hH1 t (by omega)).2
    have AW1:=Lib.hid hw1
    clear hw1 hG1 hH1
    go_name_slot 14 x1 hx1
    have hxe1:x1=(((v / 100) % 100 * 2:Nat):Int):=by omega
    have hXa1: ∀w,(Instr.index 9 (.string Lib.smalls) (.int .u32 (x1+1))).run prog w= .ok (.int .u8 ((sm ((v / 100) % 100 * 2+1)).toNat:Int)) w:=idx_smalls 9 underlying9 .u32 _ _ (by omega) (by omega)
    have hXb1: ∀w,(Instr.index 9 (.string Lib.smalls) (.int .u32 x1)).run prog w= .ok (.int .u8 ((sm ((v / 100) % 100 * 2)).toNat:Int)) w:=idx_smalls 9 underlying9 .u32 _ _ (by omega) (by omega)
    have hlo1:0<=x1:=by omega
    have hhi1:x1<=198:=by omega
    clear hx1 hxe1
    go_region_o
    go_wp2
    go_end0
    refine⟨rfl,n+1+1,_, ?_,by rw[AW1.out];exact store21_world w blk off dk1 (n+1) (1+1) (1) _ _ _ (v / 100 / 100) (by omega) (by omega) (by omega)⟩
    simp[hs1]
   ·go_wp2
    go_name_slot 15 x0 hx0
    have hxe0:x0=((v % 100 * 2:Nat):Int):=by omega
    have hXa0: ∀w,(Instr.index 9 (.string Lib.smalls) (.int .u32 (x0+1))).run prog w= .ok (.int .u8 ((sm (v % 100 * 2+1)).toNat:Int)) w:=idx_smalls 9 underlying9 .u32 _ _ (by omega) (by omega)
    have hXb0: ∀w,(Instr.index 9 (.string Lib.smalls) (.int .u32 x0)).run prog w= .ok (.int .u8 ((sm (v % 100 * 2)).toNat:Int)) w:=idx_smalls 9 underlying9 .u32 _ _ (by omega) (by omega)
    have hlo0:0<=x0:=by omega
    have hhi0:x0<=198:=by omega
    clear hx0 hxe0
    go_region_o
    go_wp2
    go_name_world W1 hW1
    have hw1:W1=(putRow (fun (b:UInt8)=>Value.int .u8 (b.toNat:Int)) w blk off ((dk0.setIfInBounds (4+1) (sm (v % 100 * 2+1))).setIfInBounds (4) (sm (v % 100 * 2)))).drewN (n+0+1):=by rw[←hW1,AW0.out];exact store2_world w blk off dk0 (n+0) (4+1) (4) _ _ (by omega) (by omega)
    have hs1:((dk0.setIfInBounds (4+1) (sm (v % 100 * 2+1))).setIfInBounds (4) (sm (v % 100 * 2))).size=d.size:=by simp[hs0]
    generalize ((dk0.setIfInBounds (4+1) (sm (v % 100 * 2+1))).setIfInBounds (4) (sm (v % 100 * 2)))=dk1 at hw1 hs1
    clear hW1 hc0 hf0 AW0 hXa0 hXb0 hs0
    have hH1:Sort.Holds (fun (b:UInt8)=>Value.int .u8 (b.toNat:Int)) W1 blk off dk1:=by rw[hw1];exact holds_putRow _ w blk off d dk1 AH.out hs1
    obtain⟨G1,hG1⟩: ∃G:Nat->Int,∀t,G t=(dk1[t]!.toNat:Int):=⟨_,fun _=>rfl⟩
    have hc1: ∀t,t<d.size->W1.cell? ⟨blk,off+t,none⟩=some (.int .u8 (G1 t)):=fun t ht=>by rw[hG1];exact(hH1 t (by omega)).1
    have hf1: ∀t,t<d.size->W1.frozen? ⟨blk,off+t,none⟩=false:=fun t ht=>(hH1 t (by omega)).2
    have AW1:=Lib.hid hw1
    clear hw1 hG1 hH1
    go_name_slot 14 x1 hx1
    have hxe1:x1=(((v / 100) % 100 * 2:Nat):Int):=by omega
    have hXa1: ∀w,(Instr.index 9 (.string Lib.smalls) (.int .u32 (x1+1))).run prog w= .ok (.int .u8 ((sm ((v / 100) % 100 * 2+1)).toNat:Int)) w:=idx_smalls 9 underlying9 .u32 _ _ (by omega) (by omega)
    have hXb1: ∀w,(Instr.index 9 (.string Lib.smalls) (.int .u32 x1)).run prog w= .ok (.int .u8 ((sm ((v / 100) % 100 * 2)).toNat:Int)) w:=idx_smalls 9 underlying9 .u32 _ _ (by omega) (by omega)
    have hlo1:0<=x1:=by omega
    have hhi1:x1<=198:=by omega
    clear hx1 hxe1
    go_region_o
    go_wp2
    go_name_world W2 hW2
    have hw2:W2=(putRow (fun (b:UInt8)=>Value.int .u8 (b.toNat:Int)) w blk off ((dk1.setIfInBounds (2+1) (sm ((v / 100) % 100 * 2+1))).setIfInBounds (2) (sm ((v / 100) % 100 * 2)))).drewN (n+1+1):=by rw[←hW2,AW1.out];exact store2_world w blk off dk1 (n+1) (2+1) (2) _ _ (by omega) (by omega)
    have hs2:((dk1.setIfInBounds (2+1) (sm ((v / 100) % 100 * 2+1))).setIfInBounds (2) (sm ((v / 100) % 100 * 2))).size=d.size:=by simp[hs1]
    generalize ((dk1.setIfInBounds (2+1) (sm ((v / 100) % 100 * 2+1))).setIfInBounds (2) (sm ((v / 100) % 100 * 2)))=dk2 at hw2 hs2
    clear hW2 hc1 hf1 AW1 hXa1 hXb1 hs1
    have hH2:Sort.Holds (fun (b:UInt8)=>Value.int .u8 (b.toNat:Int)) W2 blk off dk2:=by rw[hw2];exact holds_putRow _ w blk off d dk2 AH.out hs2
    obtain⟨G2,hG2⟩: ∃G:Nat->Int,∀t,G t=(dk2[t]!.toNat:Int):=⟨_,fun _=>rfl⟩
    have hc2: ∀t,t<d.size->W2.cell? ⟨blk,off+t,none⟩=some (.int .u8 (G2 t)):=fun t ht=>by rw[hG2];exact(hH2 t (by omega)).1
    have hf2: ∀t,t<d.size->W2.frozen? ⟨blk,off+t,none⟩=false:=fun t ht=>(hH2 t (by omega)).2
    have AW2:=Lib.hid hw2
    clear hw2 hG2 hH2
    go_name_slot 16 x2 hx2
    have hxe2:x2=(((v / 100 / 100) % 100 * 2:Nat):Int):=by omega
    have hXa2: ∀w,(Instr.index 9 (.string Lib.smalls) (.int .u32 (x2+1))).run prog w= .ok (.int .u8 ((sm ((v / 100 / 100) % 100 * 2+1)).toNat:Int)) w:=idx_smalls 9 underlying9 .u32 _ _ (by omega) (by omega)
    have hXb2: ∀w,(Instr.index 9 (.string Lib.smalls) (.int .u32 x2)).run prog w= .ok (.int .u8 ((sm ((v / 100 / 100) % 100 * 2)).toNat:Int)) w:=idx_smalls 9 underlying9 .u32 _ _ (by omega) (by omega)
    have hlo2:0<=x2:=by omega
    have hhi2:x2<=198:=by omega
    clear hx2 hxe2
    go_region_o
    go_wp2
    go_end0
    refine⟨rfl,n+2+1,_, ?_,by rw[AW2.out];exact store2_world w blk off dk2 (n+2) (0+1) (0) _ _ (by omega) (by omega)⟩
    simp[hs2]
   ·go_wp2
    go_name_slot 15 x0 hx0
    have hxe0:x0=((v % 100 * 2:Nat):Int):=by omega
    have hXa0: ∀w,(Instr.index 9 (.string Lib.smalls) (.int .u32 (x0+1))).run prog w= .ok (.int .u8 ((sm (v % 100 * 2+1)).toNat:Int)) w:=idx_smalls 9 underlying9 .u32 _ _ (by omega) (by omega)
    have hXb0: ∀w,(Instr.index 9 (.string Lib.smalls) (.int .u32 x0)).run prog w= .ok (.int .u8 ((sm (v % 100 * 2)).toNat:Int)) w:=idx_smalls 9 underlying9 .u32 _ _ (by omega) (by omega)
    have hlo0:0<=x0:=by omega
    have hhi0:x0<=198:=by omega
    clear hx0 hxe0
    go_region_o
    go_wp2
    go_name_world W1 hW1
    have hw1:W1=(putRow (fun (b:UInt8)=>Value.int .u8 (b.toNat:Int)) w blk off ((dk0.setIfInBounds (5+1) (sm (v % 100 * 2+1))).setIfInBounds (5) (sm (v % 100 * 2)))).drewN (n+0+1):=by rw[←hW1,AW0.out];exact store2_world w blk off dk0 (n+0) (5+1) (5) _ _ (by omega) (by omega)
    have hs1:((dk0.setIfInBounds (5+1) (sm (v % 100 * 2+1))).setIfInBounds (5) (sm (v % 100 * 2))).size=d.size:=by simp[hs0]
    generalize ((dk0.setIfInBounds (5+1) (sm (v % 100 * 2+1))).setIfInBounds (5) (sm (v % 100 * 2)))=dk1 at hw1 hs1
    clear hW1 hc0 hf0 AW0 hXa0 hXb0 hs0
    have hH1:Sort.Holds (fun (b:UInt8)=>Value.int .u8 (b.toNat:Int)) W1 blk off dk1:=by rw[hw1];exact holds_putRow _ w blk off d dk1 AH.out hs1
    obtain⟨G1,hG1⟩: ∃G:Nat->Int,∀t,G t=(dk1[t]!.toNat:Int):=⟨_,fun _=>rfl⟩
    have hc1: ∀t,t<d.size->W1.cell? ⟨blk,off+t,none⟩=some (.int .u8 (G1 t)):=fun t ht=>by rw[hG1];exact(hH1 t (by omega)).1
    have hf1: ∀t,t<d.size->W1.frozen? ⟨blk,off+t,none⟩=false:=fun t ht=>(hH1 t (by omega)).2
    have AW1:=Lib.hid hw1
    clear hw1 hG1 hH1
    go_name_slot 14 x1 hx1
    have hxe1:x1=(((v / 100) % 100 * 2:Nat):Int):=by omega
    have hXa1: ∀w,(Instr.index 9 (.string Lib.smalls) (.int .u32 (x1+1))).run prog w= .ok (.int .u8 ((sm ((v / 100) % 100 * 2+1)).toNat:Int)) w:=idx_smalls 9 underlying9 .u32 _ _ (by omega) (by omega)
    have hXb1: ∀w,(Instr.index 9 (.string Lib.smalls) (.int .u32 x1)).run prog w= .ok (.int .u8 ((sm ((v / 100) % 100 * 2)).toNat:Int)) w:=idx_smalls 9 underlying9 .u32 _ _ (by omega) (by omega)
    have hlo1:0<=x1:=by omega
    have hhi1:x1<=198:=by omega
    clear hx1 hxe1
    go_region_o
    go_wp2
    go_name_world W2 hW2
    have hw2:W2=(putRow (fun (b:UInt8)=>Value.int .u8 (b.toNat:Int)) w blk off ((dk1.setIfInBounds (3+1) (sm ((v / 100) % 100 * 2+1))).setIfInBounds (3) (sm ((v / 100) % 100 * 2)))).drewN (n+1+1):=by rw[←hW2,AW1.out];exact store2_world w blk off dk1 (n+1) (3+1) (3) _ _ (by omega) (by omega)
    have hs2:((dk1.setIfInBounds (3+1) (sm ((v / 100) % 100 * 2+1))).setIfInBounds (3) (sm ((v / 100) % 100 * 2))).size=d.size:=by simp[hs1]
    generalize ((dk1.setIfInBounds (3+1) (sm ((v / 100) % 100 * 2+1))).setIfInBounds (3) (sm ((v / 100) % 100 * 2)))=dk2 at hw2 hs2
    clear hW2 hc1 hf1 AW1 hXa1 hXb1 hs1
    have hH2:Sort.Holds (fun (b:UInt8)=>Value.int .u8 (b.toNat:Int)) W2 blk off dk2:=by rw[hw2];exact holds_putRow _ w blk off d dk2 AH.out hs2
    obtain⟨G2,hG2⟩: ∃G:Nat->Int,∀t,G t=(dk2[t]!.toNat:Int):=⟨_,fun _=>rfl⟩
    have hc2: ∀t,t<d.size->W2.cell? ⟨blk,off+t,none⟩=some (.int .u8 (G2 t)):=fun t ht=>by rw[hG2];exact(hH2 t (by omega)).1
    have hf2: ∀t,t<d.size->W2.frozen? ⟨blk,off+t,none⟩=false:=fun t ht=>(hH2 t (by omega)).2
    have AW2:=Lib.hid hw2
    clear hw2 hG2 hH2
    go_name_slot 16 x2 hx2
    have hxe2:x2=(((v / 100 / 100) % 100 * 2:Nat):Int):=by omega
    have hXa2: ∀w,(Instr.index 9 (.string Lib.smalls) (.int .u32 (x2+1))).run prog w= .ok (.int .u8 ((sm ((v / 100 / 100) % 100 * 2+1)).toNat:Int)) w:=idx_smalls 9 underlying9 .u32 _ _ (by omega) (by omega)
    have hXb2: ∀w,(Instr.index 9 (.string Lib.smalls) (.int .u32 x2)).run prog w= .ok (.int .u8 ((sm ((v / 100 / 100) % 100 * 2)).toNat:Int)) w:=idx_smalls 9 underlying9 .u32 _ _ (by omega) (by omega)
    have hlo2:0<=x2:=by omega
    have hhi2:x2<=198:=by omega
    clear hx2 hxe2
    go_region_o
    go_wp2
    go_end0
    refine⟨rfl,n+2+1,_, ?_,by rw[AW2.out];exact store21_world w blk off dk2 (n+2) (1+1) (1) _ _ _ (v / 100 / 100 / 100) (by omega) (by omega) (by omega)⟩
    simp[hs2]
def TabQ (w : World) : Prop := ∃ T : List Int, T.length = 20 ∧ Lib.TabIs prog w "internal/strconv.uint64pow10" .u64 T
theorem TabQ.on {w w':World} (h:TabQ w) (hb:Below w.heap.size w w'):TabQ w':=by
 obtain⟨T,hl,h⟩:=h
 refine⟨T,hl, ?_⟩
 unfold Lib.TabIs World.var? at *
 cases hg : prog.globalNamed "internal/strconv.uint64pow10" with
 |none=>simp[hg] at h
 |some g=>
  simp only[hg,Option.bind_some] at h ⊢
  have hlt:g<w.heap.size:=by
   rcases Nat.lt_or_ge g w.heap.size with h'|h'
   ·exact h'
   ·rw[Array.getElem?_eq_none h'] at h;simp at h
  rw[hb.block g hlt]
  exact h
theorem TabQ.alloc {w:World} (h:TabQ w) (o:Obj):TabQ (w.alloc o):=by
 obtain⟨T,hl,h⟩:=h
 exact⟨T,hl,Lib.tabIs_alloc h o⟩
theorem numD (u:Nat) (h1:1<=u) (h2:u<18446744073709551616) (w:World) (hq:TabQ w):Calls prog 253 #[.int .u64 (u:Nat)] w fun e w'=> ∃n:Nat,e= .returned (.int .i64 (n:Nat))/\n<=20/\w'=w:=by
 obtain⟨T,hl,ht⟩:=hq
 have h19:=(Lib.numDigits_eq u h1 h2).2
 have hL:Lib.bitLen u<=64:=Lib.bitLen_le u 64 (Nat.le_refl _) h2
 have hto:((u:Int)).toNat=u:=by omega
 obtain⟨z,hz⟩: ∃z,w.cell? ⟨3,Lib.l10 (Lib.bitLen u),none⟩=some (.int .u64 z):=⟨_,ht.cell (by kernel_rfl) _ (by omega)⟩
 have HL:=Lib.hid hL
 clear ht hl hL
 generalize hqq:Lib.l10 (Lib.bitLen u)=q at h19 hz
 by_cases hc:z<=(u:Int)
 ·go_enter func253,ntmps253
  go_wp2_with fail
  refine(Tryz.bits_Len64 _ _ (by omega) (by omega)).mono ?_
  rintro e w' ⟨rfl,rfl⟩
  rw[hto]
  go_wp2_with fail
  refine(Tryz.internal_strconv_log10Pow2 _ HL.out _).mono ?_
  rintro e w' ⟨rfl,rfl⟩
  rw[hqq]
  go_wp2_with fail
  refine(Tryz.internal_strconv_bool2_int _ _).mono ?_
  rintro e w' ⟨rfl,rfl⟩
  go_wp2
  go_ret
  exact⟨q+1,by congr 2,by omega,rfl⟩
 ·go_enter func253,ntmps253
  go_wp2_with fail
  refine(Tryz.bits_Len64 _ _ (by omega) (by omega)).mono ?_
  rintro e w' ⟨rfl,rfl⟩
  rw[hto]
  go_wp2_with fail
  refine(Tryz.internal_strconv_log10Pow2 _ HL.out _).mono ?_
  rintro e w' ⟨rfl,rfl⟩
  rw[hqq]
  go_wp2_with fail
  refine(Tryz.internal_strconv_bool2_int _ _).mono ?_
  rintro e w' ⟨rfl,rfl⟩
  go_wp2
  go_ret
  exact⟨q,by congr 2,by omega,rfl⟩
theorem fmtW (u:Nat) (h100:100<=u) (hu:u<4294967296) (w:World) (htab:TabQ w):Calls prog 245 #[.int .u64 (u:Nat), .int .i64 10] w fun e w'=> ∃s:ByteArray,e= .returned (.string s)/\Below w.heap.size w w':=by
 have z: ¬(u:Int)<100:=by omega
 have hal:prog.arrayLen 316=24:=by kernel_rfl
 have HT:=Ab htab
 clear htab
 go_enter func245,ntmps245
 go_wp2_with fail
 refine(numD u (by omega) (by omega) _ ((Aa HT).alloc _)).mono ?_
 rintro e w' ⟨nd,rfl,hnd,rfl⟩
 have hsl: ∀W,(Instr.sliceAt 316 (.pointer (some ⟨w.heap.size,0,none⟩)) none (some (.int .i64 (nd:Int))) none).run prog W= .ok (.slice (some ⟨w.heap.size,0,none⟩) nd 24) W:=fun W=>by
  rw[run_sliceAt_array_h W 316 ⟨w.heap.size,0,none⟩ (by kernel_rfl) .i64 (nd:Int) (by omega) (by rw[hal];omega)]
  go_simp
 have hH0:=holds0 w 316 nd (by omega)
 have hfmt:=fb10 w.heap.size 0 24 u (Array.replicate nd 0) (w.alloc (.cells Lib.zeros24 316)) hH0 hu (by rw[Array.size_replicate];omega)
 rw[Array.size_replicate] at hfmt
 have HH0:=Ab hH0
 have HF0:=Ab hfmt
 clear hH0 hal hfmt
 go_wp2_with fail
 refine(Aa HF0).mono ?_
 rintro e w' ⟨rfl,k,dk,hdk,rfl⟩
 have hcv:(convert 53 9 (.slice (some ⟨w.heap.size,0,none⟩) nd 24)).run prog ((putRow (fun (b:UInt8)=>Value.int .u8 (b.toNat:Int)) (w.alloc (.cells Lib.zeros24 316)) w.heap.size 0 dk).drewN k)= .ok (.string ⟨dk.toList.toArray⟩) ((putRow (fun (b:UInt8)=>Value.int .u8 (b.toNat:Int)) (w.alloc (.cells Lib.zeros24 316)) w.heap.size 0 dk).drewN k):=by
  have h:=run_convert_bytes_back (P:=prog) ((putRow (fun (b:UInt8)=>Value.int .u8 (b.toNat:Int)) (w.alloc (.cells Lib.zeros24 316)) w.heap.size 0 dk).drewN k) 53 9 5 ⟨w.heap.size,0,none⟩ 24 dk.toList underlying53 underlying5 underlying9 (fun j hj=>by
   have hj2:j<dk.size:=by simpa using hj
   rw[Lib.add_plain,World.cell?_drewN]
   have:=cell?_putRow (fun (b:UInt8)=>Value.int .u8 (b.toNat:Int)) _ w.heap.size 0 _ dk (Aa HH0) (by rw[hdk,Array.size_replicate]) j hj2
   rw[this,getElem!_pos dk j hj2]
   simp)
  rw[show dk.toList.length=nd by simp[hdk]] at h
  exact h
 go_wp2
 go_ret
 obtain⟨os,eo⟩:=fin0 w (.cells Lib.zeros24 316) dk k
 refine⟨_,rfl, ?_⟩
 rw[eo]
 exact Lib.below_grow _ _ (Nat.le_refl _) _ _
theorem fmtX (u:Nat) (hu:u<4294967296) (w:World) (htab:TabQ w):Calls prog 232 #[.int .u64 (u:Nat), .int .i64 10] w fun e w'=> ∃s:ByteArray,e= .returned (.string s)/\Below w.heap.size w w':=by
 have H72:Hid (∀w,TabQ w->Calls prog 245 #[.int .u64 (u:Nat), .int .i64 10] w fun e w'=> ∃s:ByteArray,e= .returned (.string s)/\Below w.heap.size w w'):=Ab (fun w hT=>by
  by_cases h:u<100
  ·exact(small72 u h w).mono (fun e w' h=>⟨_,h.1,h.2▸Below.refl _ _⟩)
  ·exact fmtW u (by omega) hu w hT)
 have HT:=Ab htab
 clear htab
 go_enter func232,ntmps232
 go_wp2_with fail
 refine(Aa H72 _ (Aa HT)).mono ?_
 rintro _ w1 ⟨s,rfl,hb⟩
 go_wp2
 go_ret
 exact⟨s,rfl,hb⟩
theorem ZaJ (u:Nat) (hu:u<=4294967295) (w:World) (htab:TabQ w):Calls prog 228 #[.int .u32 (u:Nat)] w fun e w'=> ∃s:ByteArray,e= .returned (KK.agg ⟨s,0⟩)/\Below w.heap.size w w':=by
 have H46:=Ab (fun w hT=>fmtX u (by omega) w hT)
 have HT:=Ab htab
 clear htab
 have wu:IntKind.u64.wrap (u:Int)=u:=by rw[IntKind.wrap_u64];omega
 have LL:=Ab (Kq.nil w)
 go_enter func228,ntmps228
 go_wp2_with (first|go_skip|((with_reducible apply Nt);(case ho|hw=>rfl);(case hL=>exact Aa LL);(intro X LX hbX;simp only[nn];simp only[List.cons_append,List.nil_append] at LX;replace LL:=Ab LX;clear LX hbX)))
 refine(Aa H46 _ ((Aa HT).on (Aa LL).below)).mono ?_
 rintro _ w1 ⟨s,rfl,hb⟩
 replace LL:=Ab ((Aa LL).on hb)
 clear hb
 go_wp2_with (first|go_skip|((with_reducible apply Ns (u:=⟨s,0⟩) (l:= []) (d:=Jg));(case ho|hw=>rfl);(case hL=>exact Aa LL);(case hx|hy|hm=>rfl);(case hne=>exact fun q hq=>by cases hq);(intro X LX hgX hsX;simp only[nn];simp only[List.cons_append,List.nil_append] at LX;replace LL:=Ab LX;clear LX hgX hsX)))
 refine ret23 rfl rfl rfl ((Aa LL).get 0 rfl) ?_
 exact⟨s,rfl,(Aa LL).below⟩
end
section
open Go Go.Proofs Go.RowKit Go.Sort Tryz
theorem Zbf (b off cap:Nat) (l:List KK) (hz: ∀k∈l,k.s.size<=1048576) (w:World) (htab:TabQ w) (hb:b<w.heap.size) (hr:RowsK w b off l) (hlen:l.length<=1500000):Calls prog 224 #[.slice (some ⟨b,off,none⟩) l.length cap] w fun e w'=> ∃v l9,e= .returned v/\OwnK w' w.heap.size v l9/\Below w.heap.size w w':=by
 have HT:=Ab htab
 clear htab
 have HRD:=Ab hr
 have HFD:=Ab hz
 clear hr hz
 go_enter func224,ntmps224
 go_wp2_with fail
 go_loopg [3,4,5,15] l.length (fun gm s3 s4 s5 s15 wr=> ∃j:Nat,s15= .int .i64 j/\j<=l.length/\l.length - j<=gm/\Hid (G3 w wr s3 s4 s5 (l.take j)))
 case atStart=>exact⟨0,rfl,by omega,by omega,Ab (R3.nil w)⟩
 case round=>
  obtain⟨j,rfl,hj,hg,H3⟩:=hrel
  by_cases hlt:j<l.length
  ·have hjz:(j:Int)<l.length:=by omega
   obtain⟨d,hd⟩: ∃d,d=l[j]:=⟨_,rfl⟩
   have hst:=ZfU l j hlt
   rw[←hd] at hst
   have hsz:d.s.size<=1048576:=by rw[hd];exact Aa HFD _ (List.getElem_mem hlt)
   have HR:Hid (wr.rangeAt b (off+j * 2) d.cs):=Ab (by rw[hd];exact(Aa HRD).keep ((Aa H3).below.block b hb) j hlt)
   have HN3:Hid ((ixs (l.take j)).length<=6000000):=Ab (by have:=Zfl (l.take j);rw[List.length_take] at this;omega)
   have HN4:Hid ((Oe (l.take j)).length+ [d].length<=6000000):=Ab (by have:=ZcX (l.take j);rw[List.length_take] at this;simp;omega)
   have HN5:Hid ((Od (l.take j)).length+ [d].length<=6000000):=Ab (by have:=ZcW (l.take j);rw[List.length_take] at this;simp;omega)
   have HK:=Ab (kindOf22 d.s d.n (by omega))
   have HAn:=Ab (anew30 d.s d.n hsz)
   rw[ZfF] at HK HAn
   have ekd:Zbj d.s d.n=kd d:=rfl
   have ekn:Zcm d.s d.n=kn d:=rfl
   rw[ekd,ekn] at HK
   have hkr:=kd_range d.s d.n
   rw[ekd] at hkr
   clear hd ekd ekn
   have LL:=Ab (Kq.nil wr)
   replace H3:Hid (R3 w wr u3 u4 u5 (ixs (l.take j)) (Oe (l.take j)) (Od (l.take j))):=H3
   by_cases h0:kd d=0
   ·rw[h0] at HK
    obtain⟨q1,q2,q3⟩:=step_0 (l.take j) d h0
    rw[←hst] at q1 q2 q3
    have HQ:=Ab (And.intro q1 (And.intro q2 q3))
    clear q1 q2 q3 hst h0 hkr
    go_wp2_with (first|go_skip|((with_reducible apply ZaA (j:=j));(case ho|hw|hx|hix=>rfl);(case hj=>exact hlt);simp only[nn])|((with_reducible apply Zdn (d:=d));(case ho|hw|hx=>rfl);(case hc=>exact Aa HR);simp only[nn])|((with_reducible apply Nt);(case ho|hw=>rfl);(case hL=>exact Aa LL);(intro X LX hbX;simp only[nn];simp only[List.cons_append,List.nil_append] at LX;replace LL:=Ab LX;clear LX hbX))|((with_reducible apply Ns (u:=d) (l:= []) (d:=Jg));(case ho|hw=>rfl);(case hL=>exact Aa LL);(case hx|hy|hm=>rfl);(case hne=>exact fun q hq=>by cases hq);(intro X LX hgX hsX;simp only[nn];simp only[List.cons_append,List.nil_append] at LX;replace LL:=Ab LX;clear LX hgX hsX))|((with_reducible apply Rz);(case ho|hw|hx=>rfl);(case hc=>first|exact(Aa LL).get 0 rfl);simp only[nn]))
    refine(Aa HK _).mono ?_
    rintro _ w1 ⟨rfl,hb1⟩
    replace LL:=Ab ((Aa LL).on hb1)
    replace H3:=Ab ((Aa H3).on (Aa LL).below)
    clear hb1
    go_wp2_with (first|go_skip|((with_reducible apply kbuildU (n:=kn d));(case ho|hw|hx=>rfl);(intro X hc hs hb;simp only[nn];have HC:=Ab hc;replace LL:=Ab ((Aa LL).on hb);replace H3:=Ab ((Aa H3).on hb);clear hc hs hb))|((with_reducible apply ZgO (n:=kn d));(case hgd|ho|hs|hx=>rfl);(case hown=>exact(Aa H3).o3);(case hB=>exact Aa HC);(case hn=>exact Aa HN3);(case hbase=>exact(Aa H3).below.size);(intro v9 X9 k1 k2 k3;simp only[nn];have H4:=Ab ((Aa H3).put3 k1 k2 k3);clear k1 k2 k3)))
    go_roundg (l.length - (j+1))
    case measure=>omega
    case rel=>exact⟨j+1,by go_num,by omega,Nat.le_refl _,Ab (by unfold G3;rw[(Aa HQ).1,(Aa HQ).2.1,(Aa HQ).2.2];exact Aa H4)⟩
   ·by_cases h1:kd d=1
    ·clear h0
     rw[h1] at HK
     obtain⟨q1,q2,q3⟩:=step_1 (l.take j) d h1
     rw[←hst] at q1 q2 q3
     have HQ:=Ab (And.intro q1 (And.intro q2 q3))
     clear q1 q2 q3 hst h1 hkr
     go_wp2_with (first|go_skip|((with_reducible apply ZaA (j:=j));(case ho|hw|hx|hix=>rfl);(case hj=>exact hlt);simp only[nn])|((with_reducible apply Zdn (d:=d));(case ho|hw|hx=>rfl);(case hc=>exact Aa HR);simp only[nn])|((with_reducible apply Nt);(case ho|hw=>rfl);(case hL=>exact Aa LL);(intro X LX hbX;simp only[nn];simp only[List.cons_append,List.nil_append] at LX;replace LL:=Ab LX;clear LX hbX))|((with_reducible apply Ns (u:=d) (l:= []) (d:=Jg));(case ho|hw=>rfl);(case hL=>exact Aa LL);(case hx|hy|hm=>rfl);(case hne=>exact fun q hq=>by cases hq);(intro X LX hgX hsX;simp only[nn];simp only[List.cons_append,List.nil_append] at LX;replace LL:=Ab LX;clear LX hgX hsX))|((with_reducible apply Rz);(case ho|hw|hx=>rfl);(case hc=>first|exact(Aa LL).get 0 rfl);simp only[nn]))
     refine(Aa HK _).mono ?_
     rintro _ w1 ⟨rfl,hb1⟩
     replace LL:=Ab ((Aa LL).on hb1)
     replace H3:=Ab ((Aa H3).on (Aa LL).below)
     clear hb1
     go_wp2_with (first|go_skip|((with_reducible apply Rz);(case ho|hw|hx=>rfl);(case hc=>first|exact(Aa LL).get 0 rfl);simp only[nn]))
     refine(Aa HAn _).mono ?_
     rintro _ w2 ⟨rfl,hb2⟩
     replace LL:=Ab ((Aa LL).on hb2)
     replace H3:=Ab ((Aa H3).on hb2)
     clear hb2
     go_wp2_with (first|go_skip|((with_reducible apply Zco (d:=d));(case ho|hw|hx=>rfl);(intro X hc hs hb;simp only[nn];have HC:=Ab hc;replace LL:=Ab ((Aa LL).on hb);replace H3:=Ab ((Aa H3).on hb);clear hc hs hb))|((with_reducible apply Gf (m:= [d]));(case hgd|ho|hs|hx=>rfl);(case hown=>exact(Aa H3).o4);(case hu=>exact Aa HC);(case hcap=>exact(fun c hc=>by cases hc));(case hn=>exact Aa HN4);(case hbase=>exact(Aa H3).below.size);(intro v9 X9 k1 k2 k3;simp only[nn];have H4:=Ab ((Aa H3).put4 k1 k2 k3);clear k1 k2 k3)))
     go_roundg (l.length - (j+1))
     case measure=>omega
     case rel=>exact⟨j+1,by go_num,by omega,Nat.le_refl _,Ab (by unfold G3;rw[(Aa HQ).1,(Aa HQ).2.1,(Aa HQ).2.2];exact Aa H4)⟩
    ·have h2:kd d=2:=by omega
     clear h0 h1
     rw[h2] at HK
     obtain⟨q1,q2,q3⟩:=step_2 (l.take j) d h2
     rw[←hst] at q1 q2 q3
     have HQ:=Ab (And.intro q1 (And.intro q2 q3))
     clear q1 q2 q3 hst h2 hkr
     go_wp2_with (first|go_skip|((with_reducible apply ZaA (j:=j));(case ho|hw|hx|hix=>rfl);(case hj=>exact hlt);simp only[nn])|((with_reducible apply Zdn (d:=d));(case ho|hw|hx=>rfl);(case hc=>exact Aa HR);simp only[nn])|((with_reducible apply Nt);(case ho|hw=>rfl);(case hL=>exact Aa LL);(intro X LX hbX;simp only[nn];simp only[List.cons_append,List.nil_append] at LX;replace LL:=Ab LX;clear LX hbX))|((with_reducible apply Ns (u:=d) (l:= []) (d:=Jg));(case ho|hw=>rfl);(case hL=>exact Aa LL);(case hx|hy|hm=>rfl);(case hne=>exact fun q hq=>by cases hq);(intro X LX hgX hsX;simp only[nn];simp only[List.cons_append,List.nil_append] at LX;replace LL:=Ab LX;clear LX hgX hsX))|((with_reducible apply Rz);(case ho|hw|hx=>rfl);(case hc=>first|exact(Aa LL).get 0 rfl);simp only[nn]))
     refine(Aa HK _).mono ?_
     rintro _ w1 ⟨rfl,hb1⟩
     replace LL:=Ab ((Aa LL).on hb1)
     replace H3:=Ab ((Aa H3).on (Aa LL).below)
     clear hb1
     go_wp2_with (first|go_skip|((with_reducible apply Rz);(case ho|hw|hx=>rfl);(case hc=>first|exact(Aa LL).get 0 rfl);simp only[nn])|((with_reducible apply Zco (d:=d));(case ho|hw|hx=>rfl);(intro X hc hs hb;simp only[nn];have HC:=Ab hc;replace LL:=Ab ((Aa LL).on hb);replace H3:=Ab ((Aa H3).on hb);clear hc hs hb))|((with_reducible apply Gf (m:= [d]));(case hgd|ho|hs|hx=>rfl);(case hown=>exact(Aa H3).o5);(case hu=>exact Aa HC);(case hcap=>exact(fun c hc=>by cases hc));(case hn=>exact Aa HN5);(case hbase=>exact(Aa H3).below.size);(intro v9 X9 k1 k2 k3;simp only[nn];have H4:=Ab ((Aa H3).put5 k1 k2 k3);clear k1 k2 k3)))
     go_roundg (l.length - (j+1))
     case measure=>omega
     case rel=>exact⟨j+1,by go_num,by omega,Nat.le_refl _,Ab (by unfold G3;rw[(Aa HQ).1,(Aa HQ).2.1,(Aa HQ).2.2];exact Aa H4)⟩
  ·have hjz: ¬(j:Int)<l.length:=by omega
   have H3:Hid (R3 w wr u3 u4 u5 (ixs l) (Oe l) (Od l)):=Ab (by have:=Aa H3;unfold G3 at this;rw[List.take_of_length_le (by omega)] at this;exact this)
   have HLd:Hid ((ixs l).length<=1500000/\(Oe l).length<=1500000/\(Od l).length<=1500000):=Ab ⟨Nat.le_trans (Zfl l) hlen,Nat.le_trans (ZcX l) hlen,Nat.le_trans (ZcW l) hlen⟩
   have HIx:Hid (∀u∈mg (ixs l),u<=4294967295):=Ab (mg_le l)
   obtain⟨dd,hdd⟩: ∃dd,dd=ixs l:=⟨_,rfl⟩
   obtain⟨ks,hks⟩: ∃ks,ks=Oe l:=⟨_,rfl⟩
   obtain⟨ys,hys⟩: ∃ys,ys=Od l:=⟨_,rfl⟩
   rw[←hdd,←hks,←hys] at H3 HLd
   rw[←hdd] at HIx
   have HD:=Ab (And.intro hdd (And.intro hks hys))
   clear hdd hks hys
   have HS:=Ab (ZcY u3 dd w.heap.size wr (Aa H3).o3 (Aa HLd).1)
   go_wp2_with fail
   refine(Aa HS).mono ?_
   rintro _ w1 ⟨rfl,hg1,hi1,hn1⟩
   have HG1:=Ab hg1
   have HI1:=Ab hi1
   have HN1:=Ab hn1
   clear hg1 hi1 hn1
   by_cases hnb:u3.ownBlock=none
   ·obtain⟨rfl,rfl⟩:=Aa HN1 hnb
    have HM4:Hid (([]:List KK).length+ks.length<=6000000):=Ab (by have:=(Aa HLd).2.1;simp;omega)
    have HM5:Hid ((([]:List KK)++ks).length+ys.length<=6000000):=Ab (by have h1:=(Aa HLd).2.1;have h2:=(Aa HLd).2.2;simp;omega)
    go_wp2_with (first|go_skip|((with_reducible apply Zfi (c:=l.length) (base:=w.heap.size));(case ho|hw|hx=>rfl);(case hc=>omega);(case hb=>exact Nat.le_trans (Aa H3).below.size (Aa HG1).size);(intro X9 B9 k1 k2 k3;simp only[nn];have H4:=Ab ((Aa H3).sorted (Aa HG1) k1 k2 k3);have HX9:=Ab k3;clear k1 k2 k3)))
    go_loopg [10,52] 0 (fun gm s10 s52 wr2=>s52= .int .i64 0/\Hid (R4 w wr2 u4 u5 s10 ks ys [] none none))
    case atStart=>exact⟨rfl,H4⟩
    case round=>
     clear H4
     obtain⟨rfl,H4⟩:=hrel
     go_wp2_with (first|go_skip|((with_reducible apply Gf (m:=ks));(case hgd|ho|hs|hx=>rfl);(case hown=>exact(Aa H4).o10);(case hu=>exact(Aa H4).o4.reads);(case hcap=>exact My (Aa H4).o4);(case hn=>exact Aa HM4);(case hbase=>exact(Aa H4).below.size);(intro v9 X8 k1 k2 k3;simp only[nn];replace H4:=Ab ((Aa H4).put k1 k2 k3);clear k1 k2 k3))|((with_reducible apply Gf (m:=ys));(case hgd|ho|hs|hx=>rfl);(case hown=>exact(Aa H4).o10);(case hu=>exact(Aa H4).o5.reads);(case hcap=>exact My (Aa H4).o5);(case hn=>exact Aa HM5);(case hbase=>exact(Aa H4).below.size);(intro v9 X8 k1 k2 k3;simp only[nn];replace H4:=Ab ((Aa H4).put k1 k2 k3);clear k1 k2 k3)))
     go_ret
     first|exact⟨_,_,rfl,(Aa H4).o10,(Aa H4).below⟩|exact⟨_,rfl,⟨_,(Aa H4).o10⟩,(Aa H4).below⟩
   ·obtain⟨gi,hgi⟩: ∃g,u3.ownBlock=some g:=Option.ne_none_iff_exists'.1 hnb
    obtain⟨c3,hs3,hl3⟩:=Aa HI1 gi hgi
    have HL3:=Ab hl3
    subst hs3
    clear hl3 hnb
    have hdl:(mg dd).length=dd.length:=mg_len dd
    have hd3:=(Aa HLd).1
    go_wp2_with (first|go_skip|((with_reducible apply Zfi (c:=l.length) (base:=w.heap.size));(case ho|hw|hx=>rfl);(case hc=>omega);(case hb=>exact Nat.le_trans (Aa H3).below.size (Aa HG1).size);(intro X9 B9 k1 k2 k3;simp only[nn];have H4:=Ab ((Aa H3).sorted (Aa HG1) k1 k2 k3);have HX9:=Ab k3;clear k1 k2 k3)))
    obtain⟨ob,hob⟩: ∃ob,ob=((Value.slice (some ⟨gi,0,none⟩) dd.length c3).ownBlock.bind fun g=>w1.heap[g]?):=⟨_,rfl⟩
    rw[←hob] at H4
    have hob2:ob=w1.heap[gi]? :=hob
    clear hob
    go_loopg [10,52] dd.length (fun gm s10 s52 wr2=> ∃(j2:Nat) (out:List KK),s52= .int .i64 j2/\j2<=dd.length/\dd.length - j2<=gm/\out.length=j2/\Hid (R4 w wr2 u4 u5 s10 ks ys out (some gi) ob))
    case atStart=>exact⟨0, [],rfl,by omega,by omega,rfl,H4⟩
    case round=>
     clear H4
     obtain⟨j2,out,rfl,hj2,hg2,hol,H4⟩:=hrel
     by_cases hlt2:j2<dd.length
     ·have hjz2:(j2:Int)<dd.length:=by omega
      have hju:j2<(mg dd).length:=by omega
      obtain⟨un,hun⟩: ∃u,u=(mg dd)[j2]:=⟨_,rfl⟩
      have hule:un<=4294967295:=by rw[hun];exact Aa HIx _ (List.getElem_mem hju)
      have hLw:LiesU wr gi (mg dd).toArray:=(Aa HL3).blk ((Aa H4).idx gi rfl).2.1 hob2
      have hcell:=(hLw.cell j2 (by simpa using hju)).1
      have hge:(mg dd).toArray[j2]! =un:=by rw[hun,getElem!_pos (mg dd).toArray j2 (by simpa using hju)];simp
      rw[hge] at hcell
      clear hLw hge
      have HFI:=Ab (fun w hT=>ZaJ un hule w hT)
      clear hun hule
      go_wp2_with fail
      refine(Aa HFI _ ((Aa HT).on (Aa H4).below)).mono ?_
      rintro _ w2 ⟨sx,rfl,hb2⟩
      have HNo:Hid (out.length+ [(⟨sx,0⟩:KK)].length<=6000000):=Ab (by simp;omega)
      clear hcell
      replace H4:=Ab ((Aa H4).on hb2)
      clear hb2
      go_wp2_with (first|go_skip|((with_reducible apply Zco (d:=⟨sx,0⟩));(case ho|hw|hx=>rfl);(intro X hc hs hb;simp only[nn];have HC:=Ab hc;replace H4:=Ab ((Aa H4).on hb);clear hc hs hb))|((with_reducible apply Gf (m:= [⟨sx,0⟩]));(case hgd|ho|hs|hx=>rfl);(case hown=>exact(Aa H4).o10);(case hu=>exact Aa HC);(case hcap=>exact(fun c hc=>by cases hc));(case hn=>exact Aa HNo);(case hbase=>exact(Aa H4).below.size);(intro v9 X8 k1 k2 k3;simp only[nn];replace H4:=Ab ((Aa H4).put k1 k2 k3);clear k1 k2 k3)))
      go_roundg (dd.length - (j2+1))
      case measure=>omega
      case rel=>exact⟨j2+1,out++ [⟨sx,0⟩],by go_num,by omega,Nat.le_refl _,by simp[hol],H4⟩
     ·have hjz2: ¬(j2:Int)<dd.length:=by omega
      have HM4:Hid (out.length+ks.length<=6000000):=Ab (by have:=(Aa HLd).2.1;omega)
      have HM5:Hid ((out++ks).length+ys.length<=6000000):=Ab (by have h1:=(Aa HLd).2.1;have h2:=(Aa HLd).2.2;rw[List.length_append];omega)
      go_wp2_with (first|go_skip|((with_reducible apply Gf (m:=ks));(case hgd|ho|hs|hx=>rfl);(case hown=>exact(Aa H4).o10);(case hu=>exact(Aa H4).o4.reads);(case hcap=>exact My (Aa H4).o4);(case hn=>exact Aa HM4);(case hbase=>exact(Aa H4).below.size);(intro v9 X8 k1 k2 k3;simp only[nn];replace H4:=Ab ((Aa H4).put k1 k2 k3);clear k1 k2 k3))|((with_reducible apply Gf (m:=ys));(case hgd|ho|hs|hx=>rfl);(case hown=>exact(Aa H4).o10);(case hu=>exact(Aa H4).o5.reads);(case hcap=>exact My (Aa H4).o5);(case hn=>exact Aa HM5);(case hbase=>exact(Aa H4).below.size);(intro v9 X8 k1 k2 k3;simp only[nn];replace H4:=Ab ((Aa H4).put k1 k2 k3);clear k1 k2 k3)))
      go_ret
      first|exact⟨_,_,rfl,(Aa H4).o10,(Aa H4).below⟩|exact⟨_,rfl,⟨_,(Aa H4).o10⟩,(Aa H4).below⟩
theorem Zce (A:Option Addr) (cap:Nat) (w:World) (htab:TabQ w):Calls prog 224 #[.slice A 0 cap] w fun e w'=> ∃v l9,e= .returned v/\OwnK w' w.heap.size v l9/\Below w.heap.size w w':=by
 have HT:=Ab htab
 clear htab
 go_enter func224,ntmps224
 go_wp2_with fail
 go_loopg [3,4,5,15] 0 (fun gm s3 s4 s5 s15 wr=>s15= .int .i64 0/\Hid (G3 w wr s3 s4 s5 []))
 case atStart=>exact⟨rfl,Ab (R3.nil w)⟩
 case round=>
  obtain⟨rfl,H3⟩:=hrel
  have H3:Hid (R3 w wr u3 u4 u5 (ixs []) (Oe []) (Od [])):=H3
  have HLd:Hid ((ixs []).length<=1500000/\(Oe []).length<=1500000/\(Od []).length<=1500000):=Ab ⟨Nat.zero_le _,Nat.zero_le _,Nat.zero_le _⟩
  have HIx:Hid (∀u∈mg (ixs []),u<=4294967295):=Ab (mg_le [])
  obtain⟨dd,hdd⟩: ∃dd,dd=ixs []:=⟨_,rfl⟩
  obtain⟨ks,hks⟩: ∃ks,ks=Oe []:=⟨_,rfl⟩
  obtain⟨ys,hys⟩: ∃ys,ys=Od []:=⟨_,rfl⟩
  rw[←hdd,←hks,←hys] at H3 HLd
  rw[←hdd] at HIx
  have HD:=Ab (And.intro hdd (And.intro hks hys))
  clear hdd hks hys
  have HS:=Ab (ZcY u3 dd w.heap.size wr (Aa H3).o3 (Aa HLd).1)
  go_wp2_with fail
  refine(Aa HS).mono ?_
  rintro _ w1 ⟨rfl,hg1,hi1,hn1⟩
  have HG1:=Ab hg1
  have HI1:=Ab hi1
  have HN1:=Ab hn1
  clear hg1 hi1 hn1
  by_cases hnb:u3.ownBlock=none
  ·obtain⟨rfl,rfl⟩:=Aa HN1 hnb
   have HM4:Hid (([]:List KK).length+ks.length<=6000000):=Ab (by have:=(Aa HLd).2.1;simp;omega)
   have HM5:Hid ((([]:List KK)++ks).length+ys.length<=6000000):=Ab (by have h1:=(Aa HLd).2.1;have h2:=(Aa HLd).2.2;simp;omega)
   go_wp2_with (first|go_skip|((with_reducible apply Zfi (c:=0) (base:=w.heap.size));(case ho|hw|hx=>rfl);(case hc=>omega);(case hb=>exact Nat.le_trans (Aa H3).below.size (Aa HG1).size);(intro X9 B9 k1 k2 k3;simp only[nn];have H4:=Ab ((Aa H3).sorted (Aa HG1) k1 k2 k3);have HX9:=Ab k3;clear k1 k2 k3)))
   go_loopg [10,52] 0 (fun gm s10 s52 wr2=>s52= .int .i64 0/\Hid (R4 w wr2 u4 u5 s10 ks ys [] none none))
   case atStart=>exact⟨rfl,H4⟩
   case round=>
    clear H4
    obtain⟨rfl,H4⟩:=hrel
    go_wp2_with (first|go_skip|((with_reducible apply Gf (m:=ks));(case hgd|ho|hs|hx=>rfl);(case hown=>exact(Aa H4).o10);(case hu=>exact(Aa H4).o4.reads);(case hcap=>exact My (Aa H4).o4);(case hn=>exact Aa HM4);(case hbase=>exact(Aa H4).below.size);(intro v9 X8 k1 k2 k3;simp only[nn];replace H4:=Ab ((Aa H4).put k1 k2 k3);clear k1 k2 k3))|((with_reducible apply Gf (m:=ys));(case hgd|ho|hs|hx=>rfl);(case hown=>exact(Aa H4).o10);(case hu=>exact(Aa H4).o5.reads);(case hcap=>exact My (Aa H4).o5);(case hn=>exact Aa HM5);(case hbase=>exact(Aa H4).below.size);(intro v9 X8 k1 k2 k3;simp only[nn];replace H4:=Ab ((Aa H4).put k1 k2 k3);clear k1 k2 k3)))
    go_ret
    first|exact⟨_,_,rfl,(Aa H4).o10,(Aa H4).below⟩|exact⟨_,rfl,⟨_,(Aa H4).o10⟩,(Aa H4).below⟩
  ·obtain⟨gi,hgi⟩: ∃g,u3.ownBlock=some g:=Option.ne_none_iff_exists'.1 hnb
   obtain⟨c3,hs3,hl3⟩:=Aa HI1 gi hgi
   have HL3:=Ab hl3
   subst hs3
   clear hl3 hnb
   have hdl:(mg dd).length=dd.length:=mg_len dd
   have hd3:=(Aa HLd).1
   go_wp2_with (first|go_skip|((with_reducible apply Zfi (c:=0) (base:=w.heap.size));(case ho|hw|hx=>rfl);(case hc=>omega);(case hb=>exact Nat.le_trans (Aa H3).below.size (Aa HG1).size);(intro X9 B9 k1 k2 k3;simp only[nn];have H4:=Ab ((Aa H3).sorted (Aa HG1) k1 k2 k3);have HX9:=Ab k3;clear k1 k2 k3)))
   obtain⟨ob,hob⟩: ∃ob,ob=((Value.slice (some ⟨gi,0,none⟩) dd.length c3).ownBlock.bind fun g=>w1.heap[g]?):=⟨_,rfl⟩
   rw[←hob] at H4
   have hob2:ob=w1.heap[gi]? :=hob
   clear hob
   go_loopg [10,52] dd.length (fun gm s10 s52 wr2=> ∃(j2:Nat) (out:List KK),s52= .int .i64 j2/\j2<=dd.length/\dd.length - j2<=gm/\out.length=j2/\Hid (R4 w wr2 u4 u5 s10 ks ys out (some gi) ob))
   case atStart=>exact⟨0, [],rfl,by omega,by omega,rfl,H4⟩
   case round=>
    clear H4
    obtain⟨j2,out,rfl,hj2,hg2,hol,H4⟩:=hrel
    by_cases hlt2:j2<dd.length
    ·have hjz2:(j2:Int)<dd.length:=by omega
     have hju:j2<(mg dd).length:=by omega
     obtain⟨un,hun⟩: ∃u,u=(mg dd)[j2]:=⟨_,rfl⟩
     have hule:un<=4294967295:=by rw[hun];exact Aa HIx _ (List.getElem_mem hju)
     have hLw:LiesU wr gi (mg dd).toArray:=(Aa HL3).blk ((Aa H4).idx gi rfl).2.1 hob2
     have hcell:=(hLw.cell j2 (by simpa using hju)).1
     have hge:(mg dd).toArray[j2]! =un:=by rw[hun,getElem!_pos (mg dd).toArray j2 (by simpa using hju)];simp
     rw[hge] at hcell
     clear hLw hge
     have HFI:=Ab (fun w hT=>ZaJ un hule w hT)
     clear hun hule
     go_wp2_with fail
     refine(Aa HFI _ ((Aa HT).on (Aa H4).below)).mono ?_
     rintro _ w2 ⟨sx,rfl,hb2⟩
     have HNo:Hid (out.length+ [(⟨sx,0⟩:KK)].length<=6000000):=Ab (by simp;omega)
     clear hcell
     replace H4:=Ab ((Aa H4).on hb2)
     clear hb2
     go_wp2_with (first|go_skip|((with_reducible apply Zco (d:=⟨sx,0⟩));(case ho|hw|hx=>rfl);(intro X hc hs hb;simp only[nn];have HC:=Ab hc;replace H4:=Ab ((Aa H4).on hb);clear hc hs hb))|((with_reducible apply Gf (m:= [⟨sx,0⟩]));(case hgd|ho|hs|hx=>rfl);(case hown=>exact(Aa H4).o10);(case hu=>exact Aa HC);(case hcap=>exact(fun c hc=>by cases hc));(case hn=>exact Aa HNo);(case hbase=>exact(Aa H4).below.size);(intro v9 X8 k1 k2 k3;simp only[nn];replace H4:=Ab ((Aa H4).put k1 k2 k3);clear k1 k2 k3)))
     go_roundg (dd.length - (j2+1))
     case measure=>omega
     case rel=>exact⟨j2+1,out++ [⟨sx,0⟩],by go_num,by omega,Nat.le_refl _,by simp[hol],H4⟩
    ·have hjz2: ¬(j2:Int)<dd.length:=by omega
     have HM4:Hid (out.length+ks.length<=6000000):=Ab (by have:=(Aa HLd).2.1;omega)
     have HM5:Hid ((out++ks).length+ys.length<=6000000):=Ab (by have h1:=(Aa HLd).2.1;have h2:=(Aa HLd).2.2;rw[List.length_append];omega)
     go_wp2_with (first|go_skip|((with_reducible apply Gf (m:=ks));(case hgd|ho|hs|hx=>rfl);(case hown=>exact(Aa H4).o10);(case hu=>exact(Aa H4).o4.reads);(case hcap=>exact My (Aa H4).o4);(case hn=>exact Aa HM4);(case hbase=>exact(Aa H4).below.size);(intro v9 X8 k1 k2 k3;simp only[nn];replace H4:=Ab ((Aa H4).put k1 k2 k3);clear k1 k2 k3))|((with_reducible apply Gf (m:=ys));(case hgd|ho|hs|hx=>rfl);(case hown=>exact(Aa H4).o10);(case hu=>exact(Aa H4).o5.reads);(case hcap=>exact My (Aa H4).o5);(case hn=>exact Aa HM5);(case hbase=>exact(Aa H4).below.size);(intro v9 X8 k1 k2 k3;simp only[nn];replace H4:=Ab ((Aa H4).put k1 k2 k3);clear k1 k2 k3)))
     go_ret
     first|exact⟨_,_,rfl,(Aa H4).o10,(Aa H4).below⟩|exact⟨_,rfl,⟨_,(Aa H4).o10⟩,(Aa H4).below⟩
theorem Zdb (v:Value) (l:List KK) (hz: ∀k∈l,k.s.size<=1048576) (w:World) (htab:TabQ w) (hr:Ym w v l) (hlen:l.length<=1500000):Calls prog 224 #[v] w fun e w'=> ∃v l9,e= .returned v/\OwnK w' w.heap.size v l9/\Below w.heap.size w w':=by
 rcases hr with ⟨A,c,rfl,rfl⟩|⟨b,off,cap,rfl,hb,hr⟩
 ·exact Zce A c w htab
 ·exact Zbf b off cap l hz w htab hb hr hlen
open Go Go.Proofs Go.RowKit
theorem Zdd (b off cap:Nat) (l:List KK) (w:World) (hT:Lib.Utf8Tabs 1 2 w) (htab:TabQ w) (hb:b<w.heap.size) (hr:RowsK w b off l) (hlen:l.length<=1500000):Calls prog 222 #[.slice (some ⟨b,off,none⟩) l.length cap] w fun e w'=> ∃v n,e= .returned (.tuple #[v, .int .i64 n])/\Below w.heap.size w w'/\((l.all goodK=true/\n=0/\ ∃l9,OwnK w' w.heap.size v l9)∨(l.all goodK=false/\n=5/\v= .slice none 0 0)):=by
 have HRD:=Ab hr
 have HTP:=Ab htab
 have HT:=Ab hT
 clear hT
 clear hr htab
 go_enter func222,ntmps222
 go_wp2_with fail
 go_loopg [9] l.length (fun g s9 wr=> ∃j:Nat,s9= .int .i64 j/\j<=l.length/\l.length - j<=g/\Hid ((l.take j).all goodK=true)/\Hid (Below w.heap.size w wr))
 case atStart=>exact⟨0,rfl,by omega,by omega,Ab rfl,Ab (Below.refl _ _)⟩
 case round=>
  obtain⟨j,rfl,hj,hg,HA,HB⟩:=hrel
  by_cases hlt:j<l.length
  ·have hjz:(j:Int)<l.length:=by omega
   obtain⟨d,hd⟩: ∃d,d=l[j]:=⟨_,rfl⟩
   have HR:Hid (wr.rangeAt b (off+j * 2) d.cs):=Ab (by rw[hd];exact(Aa HRD).keep ((Aa HB).block b hb) j hlt)
   have HCk:=Ab (fun w hT=>Zu d.s d.n w hT)
   rw[ZfF] at HCk
   have eg:(Rh d.s d.n).good=goodK d:=rfl
   rw[eg] at HCk
   have HTk:=Ab (all_take hlt)
   have HN:=Ab (fun hg=>all_not (l:=l) hlt hg)
   rw[←hd] at HTk HN
   generalize goodK d=gd at *
   clear hd eg
   have LL:=Ab (Kq.nil wr)
   cases gd
   ·simp only[Bool.false_eq_true,if_false] at HCk
    go_wp2_with (first|go_skip|((with_reducible apply ZaA (j:=j));(case ho|hw|hx|hix=>rfl);(case hj=>exact hlt);simp only[nn])|((with_reducible apply Zdn (d:=d));(case ho|hw|hx=>rfl);(case hc=>exact Aa HR);simp only[nn])|((with_reducible apply Nt);(case ho|hw=>rfl);(case hL=>exact Aa LL);(intro X LX hbX;simp only[nn];simp only[List.cons_append,List.nil_append] at LX;replace LL:=Ab LX;clear LX hbX))|((with_reducible apply Ns (u:=d) (l:= []) (d:=Jg));(case ho|hw=>rfl);(case hL=>exact Aa LL);(case hx|hy|hm=>rfl);(case hne=>exact fun q hq=>by cases hq);(intro X LX hgX hsX;simp only[nn];simp only[List.cons_append,List.nil_append] at LX;replace LL:=Ab LX;clear LX hgX hsX))|((with_reducible apply Rz);(case ho|hw|hx=>rfl);(case hc=>first|exact(Aa LL).get 0 rfl);simp only[nn]))
    refine(Aa HCk _ (Ao (Aa HT) ((Aa HB).trans ((Aa LL).below.mono (Aa HB).size)))).mono ?_
    rintro _ w1 ⟨rfl,hb1⟩
    replace LL:=Ab ((Aa LL).on hb1)
    have HB1:=Ab ((Aa HB).trans ((Aa LL).below.mono (Aa HB).size))
    clear hb1
    go_wp2
    go_ret2
    exact⟨_,_,rfl,Aa HB1,Or.inr ⟨Aa HN (by trivial),rfl,rfl⟩⟩
   ·simp only[if_true] at HCk
    go_wp2_with (first|go_skip|((with_reducible apply ZaA (j:=j));(case ho|hw|hx|hix=>rfl);(case hj=>exact hlt);simp only[nn])|((with_reducible apply Zdn (d:=d));(case ho|hw|hx=>rfl);(case hc=>exact Aa HR);simp only[nn])|((with_reducible apply Nt);(case ho|hw=>rfl);(case hL=>exact Aa LL);(intro X LX hbX;simp only[nn];simp only[List.cons_append,List.nil_append] at LX;replace LL:=Ab LX;clear LX hbX))|((with_reducible apply Ns (u:=d) (l:= []) (d:=Jg));(case ho|hw=>rfl);(case hL=>exact Aa LL);(case hx|hy|hm=>rfl);(case hne=>exact fun q hq=>by cases hq);(intro X LX hgX hsX;simp only[nn];simp only[List.cons_append,List.nil_append] at LX;replace LL:=Ab LX;clear LX hgX hsX))|((with_reducible apply Rz);(case ho|hw|hx=>rfl);(case hc=>first|exact(Aa LL).get 0 rfl);simp only[nn]))
    refine(Aa HCk _ (Ao (Aa HT) ((Aa HB).trans ((Aa LL).below.mono (Aa HB).size)))).mono ?_
    rintro _ w1 ⟨rfl,hb1⟩
    replace LL:=Ab ((Aa LL).on hb1)
    have HB1:=Ab ((Aa HB).trans ((Aa LL).below.mono (Aa HB).size))
    clear hb1
    go_wp2
    go_roundg (l.length - (j+1))
    case measure=>omega
    case rel=>exact⟨j+1,by go_num,by omega,Nat.le_refl _,Ab (by rw[Aa HTk,Aa HA];rfl),HB1⟩
  ·have hjz: ¬(j:Int)<l.length:=by omega
   have hall:l.all goodK=true:=by rw[←Aa HA,List.take_of_length_le (by omega)]
   have HE:=Ab hall
   have HO:=Ab (Zdb (.slice (some ⟨b,off,none⟩) l.length cap) l (fun k hk=>ZaG (List.all_eq_true.1 hall k hk)) wr ((Aa HTP).on (Aa HB)) (.inr ⟨b,off,cap,rfl,Nat.lt_of_lt_of_le hb (Aa HB).size,(Aa HRD).keep ((Aa HB).block b hb)⟩) hlen)
   clear hall
   go_wp2_with fail
   refine(Aa HO).mono ?_
   rintro _ w1 ⟨v1,l9,rfl,ho1,hb1⟩
   have HO1:=Ab ho1
   have HB1:=Ab ((Aa HB).trans (hb1.mono (Aa HB).size))
   clear ho1 hb1
   go_wp2
   go_ret2
   exact⟨_,_,rfl,Aa HB1,Or.inl ⟨Aa HE,rfl,l9,(Aa HO1).mono (Aa HB).size⟩⟩
theorem Zef (A:Option Addr) (cap:Nat) (w:World) (htab:TabQ w):Calls prog 222 #[.slice A 0 cap] w fun e w'=> ∃v n,e= .returned (.tuple #[v, .int .i64 n])/\Below w.heap.size w w'/\((([]:List KK).all goodK=true/\n=0/\ ∃l9,OwnK w' w.heap.size v l9)∨(([]:List KK).all goodK=false/\n=5/\v= .slice none 0 0)):=by
 have HTP:=Ab htab
 clear htab
 go_enter func222,ntmps222
 go_wp2_with fail
 go_loopg [9] 0 (fun g s9 wr=>s9= .int .i64 0/\wr=w)
 case atStart=>exact⟨rfl,rfl⟩
 case round=>
  obtain⟨rfl,rfl⟩:=hrel
  have HO:=Ab (Zdb (.slice A 0 cap) [] (fun k hk=>by cases hk) wr (Aa HTP) (.inl ⟨A,cap,rfl,rfl⟩) (by simp))
  go_wp2_with fail
  refine(Aa HO).mono ?_
  rintro _ w1 ⟨v1,l9,rfl,ho1,hb1⟩
  have HO1:=Ab ho1
  have HB1:=Ab hb1
  clear ho1 hb1
  go_wp2
  go_ret2
  exact⟨_,_,rfl,Aa HB1,Or.inl ⟨rfl,rfl,l9,Aa HO1⟩⟩
theorem orderW (v:Value) (l:List KK) (w:World) (hT:Lib.Utf8Tabs 1 2 w) (htab:TabQ w) (hr:Ym w v l) (hlen:l.length<=1500000):Calls prog 222 #[v] w fun e w'=> ∃v n,e= .returned (.tuple #[v, .int .i64 n])/\Below w.heap.size w w'/\((l.all goodK=true/\n=0/\ ∃l9,OwnK w' w.heap.size v l9)∨(l.all goodK=false/\n=5/\v= .slice none 0 0)):=by
 rcases hr with ⟨A,c,rfl,rfl⟩|⟨b,off,cap,rfl,hb,hr⟩
 ·exact Zef A c w htab
 ·exact Zdd b off cap l w hT htab hb hr hlen
