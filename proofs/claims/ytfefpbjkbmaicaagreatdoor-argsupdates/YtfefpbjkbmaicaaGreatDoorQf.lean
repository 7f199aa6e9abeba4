import Derived.Test.YtfefpbjkbmaicaaGreatDoorQe
set_option linter.all false
namespace Go.Proofs.YtfefpbjkbmaicaaGreatDoor
set_option maxRecDepth 100000
set_option maxHeartbeats 0
section
open Go.RowKit Go.Shelf
theorem Og (s:ByteArray) (p n:Nat) (hn:n<=3) (hp:p<=s.size) (hsz:s.size<=1099511627776) (P N:Int) (hP:P=(p:Int)) (hN:N=(n:Int)) (w:World):
  Calls Tryz.prog 114 #[.string s, .int .i64 P, .int .i64 N] w fun e w'=>e= .returned (.int .i64 (Jd n ((Dg s).drop p) 0))/\w'=w:=by
 subst hP hN;exact tail_any s p n hn hp hsz w
theorem Ro {b n base:Nat} {t:List Nat} (hh:M.head b=some (n,base)) (ht:M.tailN n t 0=none):M.rd1 (b::t)=none:=by
 simp only[M.rd1,hh,ht]
theorem Pi {b n base c:Nat} {t:List Nat} (hh:M.head b=some (n,base)) (ht:M.tailN n t 0=some c):M.rd1 (b::t)=if 1114111<c+base * 64^n then none else some (c+base * 64^n,n):=by
 simp only[M.rd1,hh,ht]
theorem rd_none {l:List Nat} (hne:l≠ []) (h:M.rd1 l=none):M.rd l=none:=by rw[M.rd_step l hne,h]
theorem rd_some {l:List Nat} {c n:Nat} (hne:l≠ []) (h:M.rd1 l=some (c,n)):M.rd l=(M.rd (l.drop (1+n))).map (M.U c++ ·):=by rw[M.rd_step l hne,h]
theorem Lj: ∀(n:Nat) (l:List Nat) (c d:Nat),M.tailN n l c=some d->n<=l.length
 |0,_,_,_,_=>Nat.zero_le _
 |n+1,l,c,d,h=>by
  unfold M.tailN at h
  split at h
  ·simp at h
  ·split at h
   ·simp at h
   ·rename_i b t hb
    have:=Lj n t _ d h
    simp;omega
def rdB (s:ByteArray):Bool:=(M.rd (Dg s)).isSome
def rdL (s:ByteArray):List Nat:=(M.rd (Dg s)).getD []

theorem read_any (s:ByteArray) (hsz:s.size<=1099511627776) (w:World):
  Calls Tryz.prog 101 #[.string s] w fun e w'=> ∃v,e= .returned (.tuple #[v, .bool (rdB s)])/\w'.ownsRow w.heap.size 188 1 v (rdL s).length ((rdL s).map Rl)/\Below w.heap.size w w':=by
 obtain⟨i0,hi,hz0,hz1,hz2⟩:=info_parts info65
 go_enter Tryz.func101,Tryz.ntmps101
 go_wp2
 go_loopw [4,5] (fun o i wr=> ∃(k:Nat) (vl:Value) (ul:List Nat),o=vl/\i= .int .i64 (k:Nat)/\k<=s.size/\M.rd (Dg s)=(M.rd ((Dg s).drop k)).map (ul++ ·)/\ul.length<=2 * k/\wr.ownsRow w.heap.size 188 1 vl ul.length (ul.map Rl)/\Below w.heap.size w wr) (fun _ i _=>s.size - (intOf i).toNat)
 case atStart=>exact⟨0,_, [],rfl,rfl,by omega,by simp,by simp,World.ownsRow_nil _ _ _ _,Below.refl _ _⟩
 case round=>
  obtain⟨k,vl,ul,rfl,rfl,hk,hrd,hn,hown,hB⟩:=hrel
  have HRD:=Ac hrd;clear hrd
  by_cases hlt:k<s.size
  ·have hlt':(k:Int)<(s.size:Int):=by omega
   obtain⟨x,hx⟩: ∃x,s[k]'hlt=x:=⟨_,rfl⟩
   have hdr:(Dg s).drop k=x.toNat::(Dg s).drop (k+1):=by
    rw[Nx _ _ (by rw[Dz];exact hlt),Lm s k hlt,hx]
   have HDR:=Ac hdr;clear hdr
   have hne:(Dg s).drop k≠ []:=by rw[Aa HDR];simp
   have HNE:=Ac hne;clear hne
   have hxl:=x.toNat_lt
   have fnone:M.rd1 (x.toNat::(Dg s).drop (k+1))=none->rdB s=false/\rdL s= []:=by
    intro h
    unfold rdB rdL
    rw[Aa HRD,rd_none (Aa HNE) (by rw[Aa HDR];exact h)]
    exact⟨rfl,rfl⟩
   have FNONE:=Ac fnone;clear fnone
   have fsome: ∀c n,M.rd1 (x.toNat::(Dg s).drop (k+1))=some (c,n)->M.rd (Dg s)=(M.rd ((Dg s).drop (k+1+n))).map ((ul++M.U c)++ ·):=by
    intro c n h
    rw[Aa HRD,rd_some (Aa HNE) (by rw[Aa HDR];exact h),List.drop_drop,Option.map_map]
    rw[show k+(1+n)=k+1+n by omega]
    congr 1
    funext y;simp
   have FSOME:=Ac fsome;clear fsome
   have hnil:=World.ownsRow_nil wr w.heap.size 188 1
   by_cases s0:x.toNat<128
   ·have d0:(x.toNat:Int)<128:=by omega
    have hp1:k+1<=s.size:=by omega
    obtain⟨bs,hbs⟩: ∃bs:Nat,x.toNat=bs:=⟨_,rfl⟩
    have hbsz:(x.toNat:Int)=(bs:Int):=by omega
    have hbl:bs<=127:=by omega
    have hhead:M.head x.toNat=some (0,bs):=by unfold M.head;rw[if_pos (by omega),hbs]
    have HBS:=Ac hbs;clear hbs
    have HHEAD:=Ac hhead;clear hhead
    cases htl:M.tailN 0 ((Dg s).drop (k+1)) 0 with
    |none=>simp[M.tailN] at htl
    |some c=>
     have hz:Jd 0 ((Dg s).drop (k+1)) 0=(c:Int):=by unfold Jd;rw[htl]
     have hcb:=Jq 0 _ 0 c htl
     have hcb2:c<262144:=by simp at hcb;omega
     have hrd1:=Pi (Aa HHEAD) htl
     have HRD1:=Ac hrd1;have HTL:=Ac htl;clear hrd1 htl hcb
     have HZ:=Ac hz;clear hz
     go_wp2_with fail
     refine(Og s (k+1) 0 (by omega) hp1 hsz _ _ (by omega) rfl _).mono ?_
     rintro e w' ⟨rfl,rfl⟩
     rw[Aa HZ]
     go_wp2
     go_loop [8,10] (fun bv kv=> ∃q:Nat,q<=0/\kv= .int .i64 (q:Nat)/\bv= .int .i64 ((bs * 64^q:Nat):Int)) (fun _ kv=>0 - (intOf kv).toNat)
     case atStart=>exact⟨0,by omega,rfl,by rw[Nat.pow_zero,Nat.mul_one]⟩
     case round=>
      obtain⟨q,hq,rfl,rfl⟩:=hrel
      have hpw:bs * 64^q<=127 * 262144:=by
       have h1:64^q<=64^3:=Nat.pow_le_pow_right (by omega) (by omega)
       exact Nat.mul_le_mul hbl (by simpa using h1)
      obtain⟨y,hy⟩: ∃y,bs * 64^q=y:=⟨_,rfl⟩
      rw[hy] at hpw ⊢
      have HY:=Ac hy;clear hy
      by_cases hqn:q<0
      ·have hqn':(q:Int)<0:=by omega
       go_wp2
       go_round
       case rel=>exact⟨q+1,by omega,by go_num,by rw[Nat.pow_succ,←Nat.mul_assoc,Aa HY];go_num⟩
       case measure=>simp[intOf];omega
      ·have hqn': ¬(q:Int)<0:=by omega
       have hqe:q=0:=by omega
       have hyy:y=bs * 64^0:=by rw[←Aa HY,hqe]
       clear hqe hqn
       have hr1:=Aa HRD1
       rw[←hyy] at hr1
       clear hyy
       by_cases hbig:1114111<c+y
       ·rw[if_pos hbig] at hr1
        obtain⟨r1,r2⟩:=Aa FNONE hr1
        have HR1:=Ac r1;have HR2:=Ac r2;clear r1 r2 hr1
        have hbig':(1114111:Int)<(c:Int)+(y:Int):=by omega
        clear hbig
        go_wp2
        go_ret2
        rw[Aa HR1,Aa HR2]
        exact⟨_,rfl,hnil,hB⟩
       ·rw[if_neg hbig] at hr1
        have hfs:=Aa FSOME _ _ hr1
        have HFS:=Ac hfs;clear hfs hr1
        have hbig': ¬(1114111:Int)<(c:Int)+(y:Int):=by omega
        have hkn:k+1+0<=s.size:=by have:=Lj 0 _ 0 c (Aa HTL);rw[List.length_drop,Dz] at this;omega
        by_cases h2:65536<=c+y
        ·have h2':(65536:Int)<=(c:Int)+(y:Int):=by omega
         have hU:M.U (c+y)= [55296+(c+y - 65536) / 1024,56320+(c+y - 65536) % 1024]:=by unfold M.U;rw[if_neg (by omega)]
         have hv1:(55296:Int)+((c:Int)+(y:Int) - 65536) / 1024=((55296+(c+y - 65536) / 1024:Nat):Int):=by omega
         have hv2:(56320:Int)+((c:Int)+(y:Int) - 65536) % 1024=((56320+(c+y - 65536) % 1024:Nat):Int):=by omega
         have HU:=Ac hU;have HV1:=Ac hv1;have HV2:=Ac hv2;clear hU hv1 hv2 hbig h2
         go_wp2_with (at_builtin;refine wpList_append_own _ rfl _ _ 172 rfl w.heap.size 188 i0 (.int .u16 0) 1 2 Tryz.underlying172 hi hz0 hz1 hz2 rfl (by decide) _ _ _ rfl (hown.alloc _) ⟨w'.heap.size,0,none⟩ 2 2 [.int .u16 (55296+((c:Int)+(y:Int) - 65536) / 1024), .int .u16 (56320+((c:Int)+(y:Int) - 65536) % 1024)] rfl rfl (Dx _ #[.int .u16 (55296+((c:Int)+(y:Int) - 65536) / 1024), .int .u16 (56320+((c:Int)+(y:Int) - 65536) % 1024)] 188) (by simp[Value.oneCell']) (by unfold maxLen;omega) (by omega) (by have:=hB.size;simp;omega) ?_;intro v' w1 hown' hgrow _)
         go_roundw
         case rel=>exact⟨k+1+0,v',ul++M.U (c+y),rfl,by go_num,hkn,Aa HFS,by rw[Aa HU];simp;omega,by rw[Aa HU];rw[Aa HV1,Aa HV2] at hown';simpa [Rl] using hown',hB.trans (Ez hown hB.size hgrow)⟩
         case measure=>simp[intOf];omega
        ·have h2': ¬(65536:Int)<=(c:Int)+(y:Int):=by omega
         have hU:M.U (c+y)= [c+y]:=by unfold M.U;rw[if_pos (by omega)]
         have HU:=Ac hU;clear hU hbig h2
         go_wp2_with (at_builtin;refine wpList_append_own _ rfl _ _ 172 rfl w.heap.size 188 i0 (.int .u16 0) 1 2 Tryz.underlying172 hi hz0 hz1 hz2 rfl (by decide) _ _ _ rfl (hown.alloc _) ⟨w'.heap.size,0,none⟩ 1 1 [.int .u16 ((c:Int)+(y:Int))] rfl rfl (Dx _ #[.int .u16 ((c:Int)+(y:Int))] 188) (by simp[Value.oneCell']) (by unfold maxLen;omega) (by omega) (by have:=hB.size;simp;omega) ?_;intro v' w1 hown' hgrow _)
         go_roundw
         case rel=>exact⟨k+1+0,v',ul++M.U (c+y),rfl,by go_num,hkn,Aa HFS,by rw[Aa HU];simp;omega,by rw[Aa HU];simpa [Rl] using hown',hB.trans (Ez hown hB.size hgrow)⟩
         case measure=>simp[intOf];omega
   by_cases s1:192<=x.toNat/\x.toNat<224
   ·have d0: ¬(x.toNat:Int)<128:=by omega
    have d1:(192:Int)<=(x.toNat:Int):=by omega
    have d2:(x.toNat:Int)<224:=by omega
    have hp1:k+1<=s.size:=by omega
    obtain⟨bs,hbs⟩: ∃bs:Nat,x.toNat - 192=bs:=⟨_,rfl⟩
    have hbsz:(x.toNat:Int) - 192=(bs:Int):=by omega
    have hbl:bs<=127:=by omega
    have hhead:M.head x.toNat=some (1,bs):=by unfold M.head;rw[if_neg (by omega),if_pos (by omega),hbs]
    have HBS:=Ac hbs;clear hbs
    have HHEAD:=Ac hhead;clear hhead
    cases htl:M.tailN 1 ((Dg s).drop (k+1)) 0 with
    |none=>
     have hz:Jd 1 ((Dg s).drop (k+1)) 0= -1:=by unfold Jd;rw[htl]
     obtain⟨r1,r2⟩:=Aa FNONE (Ro (Aa HHEAD) htl)
     have HR1:=Ac r1;have HR2:=Ac r2;clear r1 r2 htl
     have HZ:=Ac hz;clear hz
     go_wp2_with fail
     refine(Og s (k+1) 1 (by omega) hp1 hsz _ _ (by omega) rfl _).mono ?_
     rintro e w' ⟨rfl,rfl⟩
     rw[Aa HZ]
     go_wp2
     go_ret2
     rw[Aa HR1,Aa HR2]
     exact⟨_,rfl,hnil,hB⟩
    |some c=>
     have hz:Jd 1 ((Dg s).drop (k+1)) 0=(c:Int):=by unfold Jd;rw[htl]
     have hcb:=Jq 1 _ 0 c htl
     have hcb2:c<262144:=by simp at hcb;omega
     have hrd1:=Pi (Aa HHEAD) htl
     have HRD1:=Ac hrd1;have HTL:=Ac htl;clear hrd1 htl hcb
     have HZ:=Ac hz;clear hz
     go_wp2_with fail
     refine(Og s (k+1) 1 (by omega) hp1 hsz _ _ (by omega) rfl _).mono ?_
     rintro e w' ⟨rfl,rfl⟩
     rw[Aa HZ]
     go_wp2
     go_loop [8,10] (fun bv kv=> ∃q:Nat,q<=1/\kv= .int .i64 (q:Nat)/\bv= .int .i64 ((bs * 64^q:Nat):Int)) (fun _ kv=>1 - (intOf kv).toNat)
     case atStart=>exact⟨0,by omega,rfl,by rw[Nat.pow_zero,Nat.mul_one]⟩
     case round=>
      obtain⟨q,hq,rfl,rfl⟩:=hrel
      have hpw:bs * 64^q<=127 * 262144:=by
       have h1:64^q<=64^3:=Nat.pow_le_pow_right (by omega) (by omega)
       exact Nat.mul_le_mul hbl (by simpa using h1)
      obtain⟨y,hy⟩: ∃y,bs * 64^q=y:=⟨_,rfl⟩
      rw[hy] at hpw ⊢
      have HY:=Ac hy;clear hy
      by_cases hqn:q<1
      ·have hqn':(q:Int)<1:=by omega
       go_wp2
       go_round
       case rel=>exact⟨q+1,by omega,by go_num,by rw[Nat.pow_succ,←Nat.mul_assoc,Aa HY];go_num⟩
       case measure=>simp[intOf];omega
      ·have hqn': ¬(q:Int)<1:=by omega
       have hqe:q=1:=by omega
       have hyy:y=bs * 64^1:=by rw[←Aa HY,hqe]
       clear hqe hqn
       have hr1:=Aa HRD1
       rw[←hyy] at hr1
       clear hyy
       by_cases hbig:1114111<c+y
       ·rw[if_pos hbig] at hr1
        obtain⟨r1,r2⟩:=Aa FNONE hr1
        have HR1:=Ac r1;have HR2:=Ac r2;clear r1 r2 hr1
        have hbig':(1114111:Int)<(c:Int)+(y:Int):=by omega
        clear hbig
        go_wp2
        go_ret2
        rw[Aa HR1,Aa HR2]
        exact⟨_,rfl,hnil,hB⟩
       ·rw[if_neg hbig] at hr1
        have hfs:=Aa FSOME _ _ hr1
        have HFS:=Ac hfs;clear hfs hr1
        have hbig': ¬(1114111:Int)<(c:Int)+(y:Int):=by omega
        have hkn:k+1+1<=s.size:=by have:=Lj 1 _ 0 c (Aa HTL);rw[List.length_drop,Dz] at this;omega
        by_cases h2:65536<=c+y
        ·have h2':(65536:Int)<=(c:Int)+(y:Int):=by omega
         have hU:M.U (c+y)= [55296+(c+y - 65536) / 1024,56320+(c+y - 65536) % 1024]:=by unfold M.U;rw[if_neg (by omega)]
         have hv1:(55296:Int)+((c:Int)+(y:Int) - 65536) / 1024=((55296+(c+y - 65536) / 1024:Nat):Int):=by omega
         have hv2:(56320:Int)+((c:Int)+(y:Int) - 65536) % 1024=((56320+(c+y - 65536) % 1024:Nat):Int):=by omega
         have HU:=Ac hU;have HV1:=Ac hv1;have HV2:=Ac hv2;clear hU hv1 hv2 hbig h2
         go_wp2_with (at_builtin;refine wpList_append_own _ rfl _ _ 172 rfl w.heap.size 188 i0 (.int .u16 0) 1 2 Tryz.underlying172 hi hz0 hz1 hz2 rfl (by decide) _ _ _ rfl (hown.alloc _) ⟨w'.heap.size,0,none⟩ 2 2 [.int .u16 (55296+((c:Int)+(y:Int) - 65536) / 1024), .int .u16 (56320+((c:Int)+(y:Int) - 65536) % 1024)] rfl rfl (Dx _ #[.int .u16 (55296+((c:Int)+(y:Int) - 65536) / 1024), .int .u16 (56320+((c:Int)+(y:Int) - 65536) % 1024)] 188) (by simp[Value.oneCell']) (by unfold maxLen;omega) (by omega) (by have:=hB.size;simp;omega) ?_;intro v' w1 hown' hgrow _)
         go_roundw
         case rel=>exact⟨k+1+1,v',ul++M.U (c+y),rfl,by go_num,hkn,Aa HFS,by rw[Aa HU];simp;omega,by rw[Aa HU];rw[Aa HV1,Aa HV2] at hown';simpa [Rl] using hown',hB.trans (Ez hown hB.size hgrow)⟩
         case measure=>simp[intOf];omega
        ·have h2': ¬(65536:Int)<=(c:Int)+(y:Int):=by omega
         have hU:M.U (c+y)= [c+y]:=by unfold M.U;rw[if_pos (by omega)]
         have HU:=Ac hU;clear hU hbig h2
         go_wp2_with (at_builtin;refine wpList_append_own _ rfl _ _ 172 rfl w.heap.size 188 i0 (.int .u16 0) 1 2 Tryz.underlying172 hi hz0 hz1 hz2 rfl (by decide) _ _ _ rfl (hown.alloc _) ⟨w'.heap.size,0,none⟩ 1 1 [.int .u16 ((c:Int)+(y:Int))] rfl rfl (Dx _ #[.int .u16 ((c:Int)+(y:Int))] 188) (by simp[Value.oneCell']) (by unfold maxLen;omega) (by omega) (by have:=hB.size;simp;omega) ?_;intro v' w1 hown' hgrow _)
         go_roundw
         case rel=>exact⟨k+1+1,v',ul++M.U (c+y),rfl,by go_num,hkn,Aa HFS,by rw[Aa HU];simp;omega,by rw[Aa HU];simpa [Rl] using hown',hB.trans (Ez hown hB.size hgrow)⟩
         case measure=>simp[intOf];omega
   by_cases s2:224<=x.toNat/\x.toNat<240
   ·have d0: ¬(x.toNat:Int)<128:=by omega
    have d1: ¬(x.toNat:Int)<224:=by omega
    have d2:(224:Int)<=(x.toNat:Int):=by omega
    have d3:(x.toNat:Int)<240:=by omega
    have hp1:k+1<=s.size:=by omega
    obtain⟨bs,hbs⟩: ∃bs:Nat,x.toNat - 224=bs:=⟨_,rfl⟩
    have hbsz:(x.toNat:Int) - 224=(bs:Int):=by omega
    have hbl:bs<=127:=by omega
    have hhead:M.head x.toNat=some (2,bs):=by unfold M.head;rw[if_neg (by omega),if_neg (by omega),if_pos (by omega),hbs]
    have HBS:=Ac hbs;clear hbs
    have HHEAD:=Ac hhead;clear hhead
    cases htl:M.tailN 2 ((Dg s).drop (k+1)) 0 with
    |none=>
     have hz:Jd 2 ((Dg s).drop (k+1)) 0= -1:=by unfold Jd;rw[htl]
     obtain⟨r1,r2⟩:=Aa FNONE (Ro (Aa HHEAD) htl)
     have HR1:=Ac r1;have HR2:=Ac r2;clear r1 r2 htl
     have HZ:=Ac hz;clear hz
     go_wp2_with fail
     refine(Og s (k+1) 2 (by omega) hp1 hsz _ _ (by omega) rfl _).mono ?_
     rintro e w' ⟨rfl,rfl⟩
     rw[Aa HZ]
     go_wp2
     go_ret2
     rw[Aa HR1,Aa HR2]
     exact⟨_,rfl,hnil,hB⟩
    |some c=>
     have hz:Jd 2 ((Dg s).drop (k+1)) 0=(c:Int):=by unfold Jd;rw[htl]
     have hcb:=Jq 2 _ 0 c htl
     have hcb2:c<262144:=by simp at hcb;omega
     have hrd1:=Pi (Aa HHEAD) htl
     have HRD1:=Ac hrd1;have HTL:=Ac htl;clear hrd1 htl hcb
     have HZ:=Ac hz;clear hz
     go_wp2_with fail
     refine(Og s (k+1) 2 (by omega) hp1 hsz _ _ (by omega) rfl _).mono ?_
     rintro e w' ⟨rfl,rfl⟩
     rw[Aa HZ]
     go_wp2
     go_loop [8,10] (fun bv kv=> ∃q:Nat,q<=2/\kv= .int .i64 (q:Nat)/\bv= .int .i64 ((bs * 64^q:Nat):Int)) (fun _ kv=>2 - (intOf kv).toNat)
     case atStart=>exact⟨0,by omega,rfl,by rw[Nat.pow_zero,Nat.mul_one]⟩
     case round=>
      obtain⟨q,hq,rfl,rfl⟩:=hrel
      have hpw:bs * 64^q<=127 * 262144:=by
       have h1:64^q<=64^3:=Nat.pow_le_pow_right (by omega) (by omega)
       exact Nat.mul_le_mul hbl (by simpa using h1)
      obtain⟨y,hy⟩: ∃y,bs * 64^q=y:=⟨_,rfl⟩
      rw[hy] at hpw ⊢
      have HY:=Ac hy;clear hy
      by_cases hqn:q<2
      ·have hqn':(q:Int)<2:=by omega
       go_wp2
       go_round
       case rel=>exact⟨q+1,by omega,by go_num,by rw[Nat.pow_succ,←Nat.mul_assoc,Aa HY];go_num⟩
       case measure=>simp[intOf];omega
      ·have hqn': ¬(q:Int)<2:=by omega
       have hqe:q=2:=by omega
       have hyy:y=bs * 64^2:=by rw[←Aa HY,hqe]
       clear hqe hqn
       have hr1:=Aa HRD1
       rw[←hyy] at hr1
       clear hyy
       by_cases hbig:1114111<c+y
       ·rw[if_pos hbig] at hr1
        obtain⟨r1,r2⟩:=Aa FNONE hr1
        have HR1:=Ac r1;have HR2:=Ac r2;clear r1 r2 hr1
        have hbig':(1114111:Int)<(c:Int)+(y:Int):=by omega
        clear hbig
        go_wp2
        go_ret2
        rw[Aa HR1,Aa HR2]
        exact⟨_,rfl,hnil,hB⟩
       ·rw[if_neg hbig] at hr1
        have hfs:=Aa FSOME _ _ hr1
        have HFS:=Ac hfs;clear hfs hr1
        have hbig': ¬(1114111:Int)<(c:Int)+(y:Int):=by omega
        have hkn:k+1+2<=s.size:=by have:=Lj 2 _ 0 c (Aa HTL);rw[List.length_drop,Dz] at this;omega
        by_cases h2:65536<=c+y
        ·have h2':(65536:Int)<=(c:Int)+(y:Int):=by omega
         have hU:M.U (c+y)= [55296+(c+y - 65536) / 1024,56320+(c+y - 65536) % 1024]:=by unfold M.U;rw[if_neg (by omega)]
         have hv1:(55296:Int)+((c:Int)+(y:Int) - 65536) / 1024=((55296+(c+y - 65536) / 1024:Nat):Int):=by omega
         have hv2:(56320:Int)+((c:Int)+(y:Int) - 65536) % 1024=((56320+(c+y - 65536) % 1024:Nat):Int):=by omega
         have HU:=Ac hU;have HV1:=Ac hv1;have HV2:=Ac hv2;clear hU hv1 hv2 hbig h2
         go_wp2_with (at_builtin;refine wpList_append_own _ rfl _ _ 172 rfl w.heap.size 188 i0 (.int .u16 0) 1 2 Tryz.underlying172 hi hz0 hz1 hz2 rfl (by decide) _ _ _ rfl (hown.alloc _) ⟨w'.heap.size,0,none⟩ 2 2 [.int .u16 (55296+((c:Int)+(y:Int) - 65536) / 1024), .int .u16 (56320+((c:Int)+(y:Int) - 65536) % 1024)] rfl rfl (Dx _ #[.int .u16 (55296+((c:Int)+(y:Int) - 65536) / 1024), .int .u16 (56320+((c:Int)+(y:Int) - 65536) % 1024)] 188) (by simp[Value.oneCell']) (by unfold maxLen;omega) (by omega) (by have:=hB.size;simp;omega) ?_;intro v' w1 hown' hgrow _)
         go_roundw
         case rel=>exact⟨k+1+2,v',ul++M.U (c+y),rfl,by go_num,hkn,Aa HFS,by rw[Aa HU];simp;omega,by rw[Aa HU];rw[Aa HV1,Aa HV2] at hown';simpa [Rl] using hown',hB.trans (Ez hown hB.size hgrow)⟩
         case measure=>simp[intOf];omega
        ·have h2': ¬(65536:Int)<=(c:Int)+(y:Int):=by omega
         have hU:M.U (c+y)= [c+y]:=by unfold M.U;rw[if_pos (by omega)]
         have HU:=Ac hU;clear hU hbig h2
         go_wp2_with (at_builtin;refine wpList_append_own _ rfl _ _ 172 rfl w.heap.size 188 i0 (.int .u16 0) 1 2 Tryz.underlying172 hi hz0 hz1 hz2 rfl (by decide) _ _ _ rfl (hown.alloc _) ⟨w'.heap.size,0,none⟩ 1 1 [.int .u16 ((c:Int)+(y:Int))] rfl rfl (Dx _ #[.int .u16 ((c:Int)+(y:Int))] 188) (by simp[Value.oneCell']) (by unfold maxLen;omega) (by omega) (by have:=hB.size;simp;omega) ?_;intro v' w1 hown' hgrow _)
         go_roundw
         case rel=>exact⟨k+1+2,v',ul++M.U (c+y),rfl,by go_num,hkn,Aa HFS,by rw[Aa HU];simp;omega,by rw[Aa HU];simpa [Rl] using hown',hB.trans (Ez hown hB.size hgrow)⟩
         case measure=>simp[intOf];omega
   by_cases s3:240<=x.toNat/\x.toNat<248
   ·have d0: ¬(x.toNat:Int)<128:=by omega
    have d1: ¬(x.toNat:Int)<240:=by omega
    have d2:(240:Int)<=(x.toNat:Int):=by omega
    have d3:(x.toNat:Int)<248:=by omega
    have hp1:k+1<=s.size:=by omega
    obtain⟨bs,hbs⟩: ∃bs:Nat,x.toNat - 240=bs:=⟨_,rfl⟩
    have hbsz:(x.toNat:Int) - 240=(bs:Int):=by omega
    have hbl:bs<=127:=by omega
    have hhead:M.head x.toNat=some (3,bs):=by unfold M.head;rw[if_neg (by omega),if_neg (by omega),if_neg (by omega),if_pos (by omega),hbs]
    have HBS:=Ac hbs;clear hbs
    have HHEAD:=Ac hhead;clear hhead
    cases htl:M.tailN 3 ((Dg s).drop (k+1)) 0 with
    |none=>
     have hz:Jd 3 ((Dg s).drop (k+1)) 0= -1:=by unfold Jd;rw[htl]
     obtain⟨r1,r2⟩:=Aa FNONE (Ro (Aa HHEAD) htl)
     have HR1:=Ac r1;have HR2:=Ac r2;clear r1 r2 htl
     have HZ:=Ac hz;clear hz
     go_wp2_with fail
     refine(Og s (k+1) 3 (by omega) hp1 hsz _ _ (by omega) rfl _).mono ?_
     rintro e w' ⟨rfl,rfl⟩
     rw[Aa HZ]
     go_wp2
     go_ret2
     rw[Aa HR1,Aa HR2]
     exact⟨_,rfl,hnil,hB⟩
    |some c=>
     have hz:Jd 3 ((Dg s).drop (k+1)) 0=(c:Int):=by unfold Jd;rw[htl]
     have hcb:=Jq 3 _ 0 c htl
     have hcb2:c<262144:=by simp at hcb;omega
     have hrd1:=Pi (Aa HHEAD) htl
     have HRD1:=Ac hrd1;have HTL:=Ac htl;clear hrd1 htl hcb
     have HZ:=Ac hz;clear hz
     go_wp2_with fail
     refine(Og s (k+1) 3 (by omega) hp1 hsz _ _ (by omega) rfl _).mono ?_
     rintro e w' ⟨rfl,rfl⟩
     rw[Aa HZ]
     go_wp2
     go_loop [8,10] (fun bv kv=> ∃q:Nat,q<=3/\kv= .int .i64 (q:Nat)/\bv= .int .i64 ((bs * 64^q:Nat):Int)) (fun _ kv=>3 - (intOf kv).toNat)
     case atStart=>exact⟨0,by omega,rfl,by rw[Nat.pow_zero,Nat.mul_one]⟩
     case round=>
      obtain⟨q,hq,rfl,rfl⟩:=hrel
      have hpw:bs * 64^q<=127 * 262144:=by
       have h1:64^q<=64^3:=Nat.pow_le_pow_right (by omega) (by omega)
       exact Nat.mul_le_mul hbl (by simpa using h1)
      obtain⟨y,hy⟩: ∃y,bs * 64^q=y:=⟨_,rfl⟩
      rw[hy] at hpw ⊢
      have HY:=Ac hy;clear hy
      by_cases hqn:q<3
      ·have hqn':(q:Int)<3:=by omega
       go_wp2
       go_round
       case rel=>exact⟨q+1,by omega,by go_num,by rw[Nat.pow_succ,←Nat.mul_assoc,Aa HY];go_num⟩
       case measure=>simp[intOf];omega
      ·have hqn': ¬(q:Int)<3:=by omega
       have hqe:q=3:=by omega
       have hyy:y=bs * 64^3:=by rw[←Aa HY,hqe]
       clear hqe hqn
       have hr1:=Aa HRD1
       rw[←hyy] at hr1
       clear hyy
       by_cases hbig:1114111<c+y
       ·rw[if_pos hbig] at hr1
        obtain⟨r1,r2⟩:=Aa FNONE hr1
        have HR1:=Ac r1;have HR2:=Ac r2;clear r1 r2 hr1
        have hbig':(1114111:Int)<(c:Int)+(y:Int):=by omega
        clear hbig
        go_wp2
        go_ret2
        rw[Aa HR1,Aa HR2]
        exact⟨_,rfl,hnil,hB⟩
       ·rw[if_neg hbig] at hr1
        have hfs:=Aa FSOME _ _ hr1
        have HFS:=Ac hfs;clear hfs hr1
        have hbig': ¬(1114111:Int)<(c:Int)+(y:Int):=by omega
        have hkn:k+1+3<=s.size:=by have:=Lj 3 _ 0 c (Aa HTL);rw[List.length_drop,Dz] at this;omega
        by_cases h2:65536<=c+y
        ·have h2':(65536:Int)<=(c:Int)+(y:Int):=by omega
         have hU:M.U (c+y)= [55296+(c+y - 65536) / 1024,56320+(c+y - 65536) % 1024]:=by unfold M.U;rw[if_neg (by omega)]
         have hv1:(55296:Int)+((c:Int)+(y:Int) - 65536) / 1024=((55296+(c+y - 65536) / 1024:Nat):Int):=by omega
         have hv2:(56320:Int)+((c:Int)+(y:Int) - 65536) % 1024=((56320+(c+y - 65536) % 1024:Nat):Int):=by omega
         have HU:=Ac hU;have HV1:=Ac hv1;have HV2:=Ac hv2;clear hU hv1 hv2 hbig h2
         go_wp2_with (at_builtin;refine wpList_append_own _ rfl _ _ 172 rfl w.heap.size 188 i0 (.int .u16 0) 1 2 Tryz.underlying172 hi hz0 hz1 hz2 rfl (by decide) _ _ _ rfl (hown.alloc _) ⟨w'.heap.size,0,none⟩ 2 2 [.int .u16 (55296+((c:Int)+(y:Int) - 65536) / 1024), .int .u16 (56320+((c:Int)+(y:Int) - 65536) % 1024)] rfl rfl (Dx _ #[.int .u16 (55296+((c:Int)+(y:Int) - 65536) / 1024), .int .u16 (56320+((c:Int)+(y:Int) - 65536) % 1024)] 188) (by simp[Value.oneCell']) (by unfold maxLen;omega) (by omega) (by have:=hB.size;simp;omega) ?_;intro v' w1 hown' hgrow _)
         go_roundw
         case rel=>exact⟨k+1+3,v',ul++M.U (c+y),rfl,by go_num,hkn,Aa HFS,by rw[Aa HU];simp;omega,by rw[Aa HU];rw[Aa HV1,Aa HV2] at hown';simpa [Rl] using hown',hB.trans (Ez hown hB.size hgrow)⟩
         case measure=>simp[intOf];omega
        ·have h2': ¬(65536:Int)<=(c:Int)+(y:Int):=by omega
         have hU:M.U (c+y)= [c+y]:=by unfold M.U;rw[if_pos (by omega)]
         have HU:=Ac hU;clear hU hbig h2
         go_wp2_with (at_builtin;refine wpList_append_own _ rfl _ _ 172 rfl w.heap.size 188 i0 (.int .u16 0) 1 2 Tryz.underlying172 hi hz0 hz1 hz2 rfl (by decide) _ _ _ rfl (hown.alloc _) ⟨w'.heap.size,0,none⟩ 1 1 [.int .u16 ((c:Int)+(y:Int))] rfl rfl (Dx _ #[.int .u16 ((c:Int)+(y:Int))] 188) (by simp[Value.oneCell']) (by unfold maxLen;omega) (by omega) (by have:=hB.size;simp;omega) ?_;intro v' w1 hown' hgrow _)
         go_roundw
         case rel=>exact⟨k+1+3,v',ul++M.U (c+y),rfl,by go_num,hkn,Aa HFS,by rw[Aa HU];simp;omega,by rw[Aa HU];simpa [Rl] using hown',hB.trans (Ez hown hB.size hgrow)⟩
         case measure=>simp[intOf];omega
   have hhead:M.head x.toNat=none:=by unfold M.head;rw[if_neg (by omega),if_neg (by omega),if_neg (by omega),if_neg (by omega)]
   have hr1:M.rd1 (x.toNat::(Dg s).drop (k+1))=none:=by simp only[M.rd1,hhead]
   obtain⟨r1,r2⟩:=Aa FNONE hr1
   have HR1:=Ac r1;have HR2:=Ac r2;clear r1 r2 hr1 hhead
   have d0: ¬(x.toNat:Int)<128:=by omega
   by_cases d1:(x.toNat:Int)<192
   ·have d2: ¬(192:Int)<=(x.toNat:Int):=by omega
    have d3: ¬(224:Int)<=(x.toNat:Int):=by omega
    have d4: ¬(240:Int)<=(x.toNat:Int):=by omega
    clear s0 s1 s2 s3
    go_wp2
    go_ret2
    rw[Aa HR1,Aa HR2]
    exact⟨_,rfl,hnil,hB⟩
   ·have d2: ¬(x.toNat:Int)<224:=by omega
    have d3: ¬(x.toNat:Int)<240:=by omega
    have d4: ¬(x.toNat:Int)<248:=by omega
    clear s0 s1 s2 s3
    go_wp2
    go_ret2
    rw[Aa HR1,Aa HR2]
    exact⟨_,rfl,hnil,hB⟩
  ·have hlt': ¬(k:Int)<(s.size:Int):=by omega
   have hfin:M.rd (Dg s)=some ul:=by
    rw[Aa HRD,List.drop_of_length_le (by rw[Dz];omega),M.rd_nil];simp
   have HF:=Ac hfin;clear hfin
   go_wp2
   go_ret2
   unfold rdB rdL
   rw[Aa HF]
   exact⟨_,rfl,hown,hB⟩
