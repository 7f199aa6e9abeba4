import Derived.Test.YtfnohipnenkhoaaGreatDoorQe
import Derived.Test.YtfnohipnenkhoaaGreatDoorQj
import Derived.Sort.Lot0
set_option linter.all false
namespace Go.Proofs.YtfnohipnenkhoaaGreatDoor
set_option maxRecDepth 100000
set_option maxHeartbeats 0
section
open Go Go.Proofs Go.RowKit Go.Sort
theorem Zbh (hi first:Nat): ∀(n root:Nat) (d:Array Nat),hi - root<=n->(siftDown ltN hi first root d).size=d.size:=by
 intro n
 induction n with
 |zero=>
  intro root d h
  rw[Zbg _ _ _ _ (by omega)]
 |succ n ih=>
  intro root d h
  by_cases hs:2 * root+1≥hi
  ·rw[Zbg _ _ _ _ hs]
  ·by_cases h1:2 * root+1+1<hi/\ltN d[first+(2 * root+1)]! d[first+(2 * root+1)+1]! =true
   ·rw[sd_two _ _ _ _ hs h1.1 h1.2]
    split
    ·rw[ih _ _ (by omega),Dv]
    ·rfl
   ·rw[ZcT _ _ _ _ hs h1]
    split
    ·rw[ih _ _ (by omega),Dv]
    ·rfl
theorem heap62 (blk cap a b:Nat) (d:Array Nat) (w:World) (hL:LiesU w blk d) (hab:a<b) (hb:b<=d.size) (hsz:d.size<=1500000):
  Calls Tryz.prog 188 #[.slice (some ⟨blk,0,none⟩) d.size cap, .int .i64 a, .int .i64 b] w fun e w'=>e= .returned (.tuple #[])/\LiesU w' blk (heapSort ltN d a b)/\w.grownBy w' (some blk):=by
 have HL:=Ab hL
 clear hL
 obtain⟨h,hh⟩: ∃h,h=b - a:=⟨_,rfl⟩
 have z1:IntKind.i64.wrap ((b:Int) - a)=(h:Int):=by rw[IntKind.wrap_i64];omega
 obtain⟨u,hu⟩: ∃u,u=h - 1:=⟨_,rfl⟩
 obtain⟨v,hv⟩: ∃v,v=u / 2:=⟨_,rfl⟩
 have z2:IntKind.i64.wrap ((h:Int) - 1)=(u:Int):=by rw[IntKind.wrap_i64];omega
 have z3:(u:Int).tdiv 2=(v:Int):=by rw[Int.tdiv_eq_ediv_of_nonneg (by omega)];omega
 have z3':(u:Int) / 2=(v:Int):=by omega
 have z4:IntKind.i64.wrap (v:Int)=(v:Int):=by rw[IntKind.wrap_i64];omega
 have hdef:heapSort ltN d a b=heapPop ltN a h (heapBuild ltN h a (v+1) d):=by unfold heapSort;rw[←hh,hv,hu]
 have HD:=Ab hdef
 have HH:=Ab (And.intro hh (And.intro hu hv))
 clear hdef hh hu hv
 go_enter Tryz.func188,Tryz.ntmps188
 go_wp2_with fail
 go_loopg [9] (v+1) (fun g s9 wr=> ∃(k:Nat) (dk:Array Nat),s9= .int .i64 ((k:Int) - 1)/\k<=v+1/\k<=g/\Hid (dk.size=d.size)/\Hid (LiesU wr blk dk)/\Hid (w.grownBy wr (some blk))/\Hid (heapBuild ltN h a k dk=heapBuild ltN h a (v+1) d))
 case atStart=>exact⟨v+1,d,by congr 1;omega,Nat.le_refl _,Nat.le_refl _,Ab rfl,HL,Ab (Kv _ _),Ab rfl⟩
 case round=>
  obtain⟨k,dk,hs9,hkv,hg,hsk,hLk,hGk,hOk⟩:=hrel
  cases k with
  |succ m=>
   have e9:(((m+1:Nat):Int) - 1)=(m:Int):=by omega
   rw[e9] at hs9
   subst hs9
   clear e9
   have HC:=Ab (sift78 blk cap m h a dk wr (Aa hLk) (by have:=Aa HH;have:=Aa hsk;omega) (by have:=Aa HH;have:=Aa hsk;omega) (by have:=Aa hsk;omega))
   rw[Aa hsk] at HC
   have y1:IntKind.i64.wrap ((m:Int) - 1)=(m:Int) - 1:=by have:=Aa HH;rw[IntKind.wrap_i64];omega
   have y2:(0:Int)<=m:=by omega
   go_wp2_with fail
   refine(Aa HC).mono ?_
   rintro e w1 ⟨rfl,hL1,hG1⟩
   have HL1:=Ab hL1
   have HG1:=Ab (Bz (Aa hGk) hG1)
   clear hL1 hG1
   go_wp2
   go_roundg m
   case measure=>omega
   case rel=>exact⟨m,siftDown ltN h a m dk,rfl,by omega,Nat.le_refl _,Ab (by rw[Zbh h a _ _ _ (Nat.le_refl _)];exact Aa hsk),HL1,HG1,Ab (by rw[←Aa hOk];rfl)⟩
  |zero=>
   have e9:(((0:Nat):Int) - 1)= -1:=by omega
   rw[e9] at hs9
   subst hs9
   clear e9
   have HOk:=Ab (show dk=heapBuild ltN h a (v+1) d from Aa hOk)
   clear hOk
   go_wp2_with fail
   go_loopg [10] h (fun g s10 wr=> ∃(k:Nat) (dj:Array Nat),s10= .int .i64 ((k:Int) - 1)/\k<=h/\k<=g/\Hid (dj.size=d.size)/\Hid (LiesU wr blk dj)/\Hid (w.grownBy wr (some blk))/\Hid (heapPop ltN a k dj=heapPop ltN a h dk))
   case atStart=>exact⟨h,dk,by have:=Aa HH;congr 1;omega,Nat.le_refl _,Nat.le_refl _,hsk,hLk,hGk,Ab rfl⟩
   case round=>
    obtain⟨k,dj,hs9,hkv,hg,hsj,hLj,hGj,hOj⟩:=hrel
    cases k with
    |succ m=>
     have e9:(((m+1:Nat):Int) - 1)=(m:Int):=by omega
     rw[e9] at hs9
     subst hs9
     clear e9
     have hds:=Aa hsj
     have hhh:=Aa HH
     have hlt1:a<dj.size:=by omega
     have hlt2:a+m<dj.size:=by omega
     have HC:=Ab (fun X hX=>sift78 blk cap 0 m a (swp dj a (a+m)) X hX (by omega) (by rw[Dv];omega) (by rw[Dv];omega))
     rw[Dv,hds] at HC
     obtain⟨c1,f1⟩:=(Aa hLj).cell a hlt1
     obtain⟨c2,f2⟩:=(Aa hLj).cell (a+m) hlt2
     have HSw:=Ab (fun n=>((Aa hLj).drew n).swap a (a+m) hlt1 hlt2)
     have y1:IntKind.i64.wrap ((m:Int) - 1)=(m:Int) - 1:=by rw[IntKind.wrap_i64];omega
     have y2:(0:Int)<=m:=by omega
     have y3:IntKind.i64.wrap ((a:Int)+m)=(a:Int)+m:=by rw[IntKind.wrap_i64];omega
     have y4:((a:Int)+m).toNat=a+m:=by omega
     have y5:(a:Int)+m<d.size:=by omega
     have y6:(0:Int)<=(a:Int)+m:=by omega
     have y7:(a:Int)<d.size:=by omega
     clear hds hhh hlt1 hlt2
     by_cases hm0:m=0
     ·subst hm0
      simp only[Nat.add_zero] at c2 f2 HSw
      generalize dj[a]! =x at *
      go_wp2_with fail
      go_region
      all_goals go_wp2_with fail
      refine(Aa HC (((wr.setCell ⟨blk,a,none⟩ (.int .u32 (x:Nat))).setCell ⟨blk,a,none⟩ (.int .u32 (x:Nat))).drew) (LiesU.grown (Aa HSw 0) rfl)).mono ?_
      rintro e w1 ⟨rfl,hL1,hG1⟩
      have HL1:=Ab hL1
      have g0:=Bz (Aa hGj) (Ec wr blk a a (.int .u32 (x:Nat)) (.int .u32 (x:Nat)))
      have HG1:=Ab (Bz g0 ⟨hG1.os,hG1.tape,hG1.output,hG1.size,hG1.block⟩)
      clear hL1 hG1 g0
      go_wp2
      go_roundg 0
      case measure=>omega
      case rel=>exact⟨0,siftDown ltN 0 a 0 (swp dj a (a+0)),rfl,by omega,Nat.le_refl _,Ab (by rw[Zbh 0 a _ _ _ (Nat.le_refl _),Dv];exact Aa hsj),HL1,HG1,Ab (by rw[←Aa hOj];rfl)⟩
     ·have n1: ¬a+m=a:=by omega
      have n2: ¬a=a+m:=by omega
      generalize dj[a]! =x at *
      generalize dj[a+m]! =y at *
      go_wp2_with fail
      go_region
      all_goals go_wp2_with fail
      refine(Aa HC _ (Aa HSw _)).mono ?_
      rintro e w1 ⟨rfl,hL1,hG1⟩
      have HL1:=Ab hL1
      have HG1:=Ab (Bz (Bz (Dt (Aa hGj) _) (Ec _ _ _ _ _ _)) hG1)
      clear hL1 hG1
      go_wp2
      go_roundg m
      case measure=>omega
      case rel=>exact⟨m,siftDown ltN m a 0 (swp dj a (a+m)),rfl,by omega,Nat.le_refl _,Ab (by rw[Zbh m a _ _ _ (Nat.le_refl _),Dv];exact Aa hsj),HL1,HG1,Ab (by rw[←Aa hOj];rfl)⟩
    |zero=>
     have e9:(((0:Nat):Int) - 1)= -1:=by omega
     rw[e9] at hs9
     subst hs9
     clear e9
     go_wp2
     go_end0
     refine⟨rfl, ?_,Aa hGj⟩
     rw[Aa HD,←Aa HOk,←Aa hOj]
     exact Aa hLj
theorem bl_all: ∀(f x:Nat),x<=f->1<=x->x<18446744073709551616->x<2^Lib.bitLen x/\2^Lib.bitLen x<=2 * x:=by
 intro f
 induction f with
 |zero=>intro x h1 h2;omega
 |succ f ih=>
  intro x h1 h2 h3
  rw[Lib.bitLen_half x (by omega) h3,Nat.pow_add,Nat.pow_one]
  by_cases h:x / 2=0
  ·rw[h,show Lib.bitLen 0=0 by decide+kernel]
   omega
  ·have:=ih (x / 2) (by omega) (by omega) (by omega)
   omega
theorem bl_le (n:Nat) (h0:8<=n) (h1:n<=1500000):n<2^Lib.bitLen n/\2^Lib.bitLen n<=2 * n/\Lib.bitLen n<=21:=by
 have h:=bl_all n n (Nat.le_refl _) (by omega) (by omega)
 refine⟨h.1,h.2, ?_⟩
 rcases Nat.lt_or_ge 21 (Lib.bitLen n) with hk|hk
 ·have:=Nat.pow_le_pow_right (n:=2) (by omega) hk
  simp at this
  omega
 ·exact hk
theorem pow79 (n:Nat) (h0:8<=n) (h1:n<=1500000) (w:World):Calls Tryz.prog 200 #[.int .i64 (n:Nat)] w fun e w'=>(∃m k:Nat,e= .returned (.int .u64 m)/\m=2^k/\n<m/\m<=2 * n)/\w'=w:=by
 have hb:=bl_le n h0 h1
 have HC:=Ab (Tryz.bits_Len (n:Int) w (by omega) (by omega))
 rw[Int.toNat_natCast] at HC
 have HB:=Ab hb
 obtain⟨k,hk⟩: ∃k,k=Lib.bitLen n:=⟨_,rfl⟩
 rw[←hk] at HC HB hb
 have hk12:=hb.2.2
 clear hk hb
 have z1:IntKind.u64.wrap (n:Int)=(n:Int):=by simp[IntKind.wrap,IntKind.bits,IntKind.signed];omega
 go_enter Tryz.func200,Tryz.ntmps200
 go_wp2_with fail
 refine(Aa HC).mono ?_
 rintro e w' ⟨rfl,rfl⟩
 have hcases:k=0∨k=1∨k=2∨k=3∨k=4∨k=5∨k=6∨k=7∨k=8∨k=9∨k=10∨k=11∨k=12∨k=13∨k=14∨k=15∨k=16∨k=17∨k=18∨k=19∨k=20∨k=21:=by omega
 rcases hcases with rfl|rfl|rfl|rfl|rfl|rfl|rfl|rfl|rfl|rfl|rfl|rfl|rfl|rfl|rfl|rfl|rfl|rfl|rfl|rfl|rfl|rfl
 all_goals
  go_wp2
  go_ret
  first
   |exact⟨⟨1,0,rfl,rfl,(Aa HB).1,(Aa HB).2.1⟩,rfl⟩
   |exact⟨⟨2,1,rfl,rfl,(Aa HB).1,(Aa HB).2.1⟩,rfl⟩
   |exact⟨⟨4,2,rfl,rfl,(Aa HB).1,(Aa HB).2.1⟩,rfl⟩
   |exact⟨⟨8,3,rfl,rfl,(Aa HB).1,(Aa HB).2.1⟩,rfl⟩
   |exact⟨⟨16,4,rfl,rfl,(Aa HB).1,(Aa HB).2.1⟩,rfl⟩
   |exact⟨⟨32,5,rfl,rfl,(Aa HB).1,(Aa HB).2.1⟩,rfl⟩
   |exact⟨⟨64,6,rfl,rfl,(Aa HB).1,(Aa HB).2.1⟩,rfl⟩
   |exact⟨⟨128,7,rfl,rfl,(Aa HB).1,(Aa HB).2.1⟩,rfl⟩
   |exact⟨⟨256,8,rfl,rfl,(Aa HB).1,(Aa HB).2.1⟩,rfl⟩
   |exact⟨⟨512,9,rfl,rfl,(Aa HB).1,(Aa HB).2.1⟩,rfl⟩
   |exact⟨⟨1024,10,rfl,rfl,(Aa HB).1,(Aa HB).2.1⟩,rfl⟩
   |exact⟨⟨2048,11,rfl,rfl,(Aa HB).1,(Aa HB).2.1⟩,rfl⟩
   |exact⟨⟨4096,12,rfl,rfl,(Aa HB).1,(Aa HB).2.1⟩,rfl⟩
   |exact⟨⟨8192,13,rfl,rfl,(Aa HB).1,(Aa HB).2.1⟩,rfl⟩
   |exact⟨⟨16384,14,rfl,rfl,(Aa HB).1,(Aa HB).2.1⟩,rfl⟩
   |exact⟨⟨32768,15,rfl,rfl,(Aa HB).1,(Aa HB).2.1⟩,rfl⟩
   |exact⟨⟨65536,16,rfl,rfl,(Aa HB).1,(Aa HB).2.1⟩,rfl⟩
   |exact⟨⟨131072,17,rfl,rfl,(Aa HB).1,(Aa HB).2.1⟩,rfl⟩
   |exact⟨⟨262144,18,rfl,rfl,(Aa HB).1,(Aa HB).2.1⟩,rfl⟩
   |exact⟨⟨524288,19,rfl,rfl,(Aa HB).1,(Aa HB).2.1⟩,rfl⟩
   |exact⟨⟨1048576,20,rfl,rfl,(Aa HB).1,(Aa HB).2.1⟩,rfl⟩
   |exact⟨⟨2097152,21,rfl,rfl,(Aa HB).1,(Aa HB).2.1⟩,rfl⟩
theorem and_lt (r k:Nat) (hk:k<=21) (hr:r<2^64): ∃o:Nat,o<2^k/\bits .and .u64 (r:Int) ((2^k - 1:Nat):Int)=(o:Int):=by
 have hp:2^k<=2097152:=Nat.pow_le_pow_right (n:=2) (by omega) hk
 have h0:0<2^k:=Nat.two_pow_pos k
 refine⟨r &&& (2^k - 1), ?_,u64_and_nat r _ hr (by omega)⟩
 rw[Nat.and_two_pow_sub_one_eq_mod]
 exact Nat.mod_lt _ h0
theorem break63 (blk cap a b:Nat) (d:Array Nat) (w:World) (hL:LiesU w blk d) (hab:a+8<=b) (hb:b<=d.size) (hsz:d.size<=1500000):
  Calls Tryz.prog 189 #[.slice (some ⟨blk,0,none⟩) d.size cap, .int .i64 a, .int .i64 b] w fun e w'=>e= .returned (.tuple #[])/\ ∃d',PermIn a b d d'/\LiesU w' blk d'/\w.grownBy w' (some blk):=by
 have HL:=Ab hL
 have hlt:=hL.lt
 clear hL
 obtain⟨l,hl⟩: ∃l,l=b - a:=⟨_,rfl⟩
 obtain⟨q,hq⟩: ∃q,q=l / 4:=⟨_,rfl⟩
 obtain⟨t0,ht0⟩: ∃t,t=a+2 * q - 1:=⟨_,rfl⟩
 obtain⟨t1,ht1⟩: ∃t,t=a+2 * q+1:=⟨_,rfl⟩
 obtain⟨t2,ht2⟩: ∃t,t=a+2 * q:=⟨_,rfl⟩
 have z1:IntKind.i64.wrap ((b:Int) - a)=(l:Int):=by rw[IntKind.wrap_i64];omega
 have z2:(l:Int).tdiv 4=(q:Int):=by rw[Int.tdiv_eq_ediv_of_nonneg (by omega)];omega
 have z2':(l:Int) / 4=(q:Int):=by omega
 have z3:IntKind.i64.wrap ((q:Int))=(q:Int):=by rw[IntKind.wrap_i64];omega
 have z4:IntKind.i64.wrap ((q:Int) * 2)=2 * (q:Int):=by rw[IntKind.wrap_i64];omega
 have z5:IntKind.i64.wrap ((a:Int)+2 * (q:Int))=(t2:Int):=by rw[IntKind.wrap_i64];omega
 have z6:IntKind.i64.wrap ((t2:Int) - 1)=(t0:Int):=by rw[IntKind.wrap_i64];omega
 have z7:IntKind.i64.wrap ((t2:Int)+1)=(t1:Int):=by rw[IntKind.wrap_i64];omega
 have z8:IntKind.u64.wrap (l:Int)=(l:Int):=by simp[IntKind.wrap,IntKind.bits,IntKind.signed];omega
 have z9:(8:Int)<=l:=by omega
 have HM:=Ab (pow79 l (by omega) (by omega))
 have HQ:=Ab (And.intro hl (And.intro hq (And.intro ht0 (And.intro ht1 ht2))))
 clear hl hq ht0 ht1 ht2
 go_enter Tryz.func189,Tryz.ntmps189
 go_wp2_with fail
 refine(Aa HM _).mono ?_
 rintro e w1 ⟨⟨m,k,rfl,hm,hm1,hm2⟩,rfl⟩
 have hk12:k<=21:=by
  rcases Nat.lt_or_ge 21 k with hk|hk
  ·have:=Nat.pow_le_pow_right (n:=2) (by omega) hk
   have:=Aa HQ
   simp at *
   omega
  ·exact hk
 have HMK:=Ab hm
 clear hm
 obtain⟨m1,hm1'⟩: ∃m1,m1=m - 1:=⟨_,rfl⟩
 have y0:IntKind.u64.wrap ((m:Int) - 1)=(m1:Int):=by have:=Aa HQ;simp[IntKind.wrap,IntKind.bits,IntKind.signed];omega
 have HAnd:Hid (∀r:Nat,r<2^64-> ∃o:Nat,o<m/\bits .and .u64 (r:Int) (m1:Int)=(o:Int)):=Ab (fun r hr=>by
  obtain⟨o,h1,h2⟩:=and_lt r k hk12 hr
  rw[←Aa HMK] at h1 h2
  rw[←hm1'] at h2
  exact⟨o,h1,h2⟩)
 clear hm1'
 have hR0:Rn (w.alloc (Obj.cells #[Value.int IntKind.u64 (l:Nat)] 264)) w.heap.size l:=(show (w.heap.push _)[w.heap.size]? =_ from Array.getElem?_push_size)
 have HR0:=Ab hR0
 have b0:=(Below.refl w.heap.size w).alloc (Nat.le_refl _) (Obj.cells #[Value.int IntKind.u64 (l:Nat)] 264)
 have HL0:=Ab ((Aa HL).grown (b0.block blk hlt))
 have HG0:Hid (w.grownBy (w.alloc (Obj.cells #[Value.int IntKind.u64 (l:Nat)] 264)) (some blk)):=Ab ⟨b0.os,b0.tape,b0.output,b0.size,fun c hc _=>b0.block c hc⟩
 have hBB:some blk≠some w.heap.size:=fun e=>by have:=Option.some.inj e;omega
 clear hR0 b0
 go_wp2_with fail
 go_loopg [9] (d.size+2) (fun g s9 wr=> ∃(x r:Nat) (dk:Array Nat),s9= .int .i64 x/\t0<=x/\x<=t1+1/\d.size+2 - x<=g/\Hid (dk.size=d.size)/\Hid (LiesU wr blk dk)/\Hid (Rn wr w.heap.size r)/\r<2^64/\Hid (w.grownBy wr (some blk))/\Hid (PermIn a b d dk))
 case atStart=>exact⟨t0,l,d,rfl,Nat.le_refl _,by have:=Aa HQ;omega,by have:=Aa HQ;omega,Ab rfl,HL0,HR0,by have:=Aa HQ;omega,HG0,Ab (permIn_refl d a b)⟩
 case round=>
  obtain⟨x,r,dk,rfl,hx1,hx2,hg,hsk,hLk,hRk,hr64,hGk,hPk⟩:=hrel
  by_cases hxt:x<=t1
  ·have y1:(x:Int)<=t1:=by omega
   have HN:=Ab (next80 w.heap.size r wr (Aa hRk) hr64)
   clear hr64
   go_wp2_with fail
   refine(Aa HN).mono ?_
   rintro e w1 ⟨r',hr',rfl,hR1,hG1⟩
   obtain⟨o,ho1,ho2⟩:=Aa HAnd r' hr'
   have HL1:=Ab ((Aa hLk).gb hG1 hBB)
   have HG1:Hid (w.grownBy w1 (some blk)):=Ab ⟨hG1.os.trans (Aa hGk).os,hG1.tape.trans (Aa hGk).tape,hG1.output.trans (Aa hGk).output,Nat.le_trans (Aa hGk).size hG1.size,fun c hc hne=>(hG1.block c (Nat.lt_of_lt_of_le hc (Aa hGk).size) (fun e=>by have:=Option.some.inj e;omega)).trans ((Aa hGk).block c hc hne)⟩
   have HR1:=Ab hR1
   have hlq:=Aa HQ
   have y2:IntKind.i64.wrap (o:Int)=(o:Int):=by rw[IntKind.wrap_i64];omega
   have hds:=Aa hsk
   obtain⟨o2,ho3⟩: ∃o2,o2=if l<=o then o - l else o:=⟨_,rfl⟩
   have ho4:o2<l:=by rw[ho3];split<;>omega
   have y4:IntKind.i64.wrap ((a:Int)+o2)=(a:Int)+o2:=by rw[IntKind.wrap_i64];omega
   have y5:((a:Int)+o2).toNat=a+o2:=by omega
   have y6:(0:Int)<=(a:Int)+o2:=by omega
   have y7:(a:Int)+o2<d.size:=by omega
   have y8:(x:Int)<d.size:=by omega
   have y9:IntKind.i64.wrap ((x:Int)+1)=((x+1:Nat):Int):=by rw[IntKind.wrap_i64];omega
   obtain⟨c1,f1⟩:=(Aa HL1).cell x (by omega)
   obtain⟨c2,f2⟩:=(Aa HL1).cell (a+o2) (by omega)
   have HSw:=Ab (fun n=>((Aa HL1).drew n).swap x (a+o2) (by omega) (by omega))
   have HP1:=Ab (permIn_trans d dk (swp dk x (a+o2)) a b (Aa hPk) (swp_permIn dk a b x (a+o2) (by omega) (by omega) (by omega) (by omega) (by omega)))
   have HRn:Hid (∀(X:World),w1.grownBy X (some blk)->Rn X w.heap.size r'):=Ab (fun X hX=>by
    unfold Rn
    rw[hX.block _ (Aa HR1).cell.2.2 (fun e=>hBB e.symm)]
    exact Aa HR1)
   have hoo:=Classical.em (l<=o)
   clear hR1 hG1 hlq hds hRk hLk hGk
   rcases hoo with hoo|hoo
   all_goals
    first
    |(have x1:(l:Int)<=o:=(by omega)
      rw[if_pos hoo] at ho3
      have x2:IntKind.i64.wrap ((o:Int) - l)=(o2:Int):=(by rw[IntKind.wrap_i64];omega)
      have HO3:=Ab ho3
      clear ho3
      go_wp2_with fail)
    |(have x1: ¬(l:Int)<=o:=(by omega)
      rw[if_neg hoo] at ho3
      subst ho3
      go_wp2_with fail)
    have hxx:=Classical.em (x=a+o2)
    rcases hxx with hxx|hxx
    all_goals
     first
     |(subst hxx
       generalize dk[a+o2]! =xv at *
       go_region
       all_goals go_wp2
       go_roundg (d.size+2 - (a+o2+1))
       case measure=>omega
       case rel=>
        have g0:=Ec w1 blk (a+o2) (a+o2) (.int .u32 (xv:Nat)) (.int .u32 (xv:Nat))
        exact⟨a+o2+1,r',swp dk (a+o2) (a+o2),by go_num,by omega,by omega,Nat.le_refl _,Ab (by rw[Dv];exact Aa hsk),Ab (LiesU.grown (Aa HSw 0) rfl),Ab (Aa HRn _ ⟨g0.os,g0.tape,g0.output,g0.size,g0.block⟩),hr',Ab (Bz (Aa HG1) ⟨g0.os,g0.tape,g0.output,g0.size,g0.block⟩),HP1⟩)
     |(have n1: ¬a+o2=x:=(fun e=>hxx e.symm)
       generalize dk[x]! =xv at *
       generalize dk[a+o2]! =yv at *
       go_region
       all_goals go_wp2
       go_roundg (d.size+2 - (x+1))
       case measure=>omega
       case rel=>
        have g0:=Ec w1 blk x (a+o2) (.int .u32 (yv:Nat)) (.int .u32 (xv:Nat))
        exact⟨x+1,r',swp dk x (a+o2),by go_num,by omega,by omega,Nat.le_refl _,Ab (by rw[Dv];exact Aa hsk),Ab (LiesU.grown (Aa HSw 0) rfl),Ab (Aa HRn _ ⟨g0.os,g0.tape,g0.output,g0.size,g0.block⟩),hr',Ab (Bz (Aa HG1) ⟨g0.os,g0.tape,g0.output,g0.size,g0.block⟩),HP1⟩)
  ·have y1: ¬(x:Int)<=t1:=by omega
   go_wp2
   go_end0
   exact⟨rfl,dk,Aa hPk,Aa hLk,Aa hGk⟩
