import Derived.Test.YtieahhciibdnaaaGreatDoorQe
import Derived.Test.YtieahhciibdnaaaGreatDoorQj
import Derived.Test.YtieahhciibdnaaaGreatDoorQg
import Derived.Test.YtieahhciibdnaaaGreatDoorQf
import Derived.Sort.Lot0
import Derived.Sort.LotA
import Derived.Sort.LotB
import Derived.Sort.LotD3
import Derived.Deep.CutRange
set_option linter.all false
namespace Go.Proofs.YtieahhciibdnaaaGreatDoor
set_option maxRecDepth 100000
set_option maxHeartbeats 0
section
open Go Go.Proofs Go.RowKit Go.Sort
theorem Zas (hi first:Nat): ∀(n root:Nat) (d:Array Nat),hi - root<=n->(siftDown ltN hi first root d).size=d.size:=by
 intro n
 induction n with
 |zero=>
  intro root d h
  rw[Zar _ _ _ _ (by omega)]
 |succ n ih=>
  intro root d h
  by_cases hs:2 * root+1≥hi
  ·rw[Zar _ _ _ _ hs]
  ·by_cases h1:2 * root+1+1<hi/\ltN d[first+(2 * root+1)]! d[first+(2 * root+1)+1]! =true
   ·rw[sd_two _ _ _ _ hs h1.1 h1.2]
    split
    ·rw[ih _ _ (by omega),Dn]
    ·rfl
   ·rw[Zci _ _ _ _ hs h1]
    split
    ·rw[ih _ _ (by omega),Dn]
    ·rfl
theorem heap62 (blk cap a b:Nat) (d:Array Nat) (w:World) (hL:LiesU w blk d) (hab:a<b) (hb:b<=d.size) (hsz:d.size<=1500000):
  Calls Tryz.prog 199 #[.slice (some ⟨blk,0,none⟩) d.size cap, .int .i64 a, .int .i64 b] w fun e w'=>e= .returned (.tuple #[])/\LiesU w' blk (heapSort ltN d a b)/\w.grownBy w' (some blk):=by
 have HL:=Ab hL
 clear hL
 obtain⟨h,hh⟩: ∃h,h=b - a:=⟨_,rfl⟩
 have z1:IntKind.i64.wrap ((b:Int) - a)=(h:Int):=by rw[IntKind.wrap_i64];omega
 obtain⟨u,hu⟩: ∃u,u=h - 1:=⟨_,rfl⟩
 obtain⟨v,hv⟩: ∃v,v=u / 2:=⟨_,rfl⟩
 have z2:IntKind.i64.wrap ((h:Int) - 1)=(u:Int):=by rw[IntKind.wrap_i64];omega
 have z3:(u:Int).tdiv 2=(v:Int):=by rw[Int.tdiv_eq_ediv_of_nonneg (by omega)];omega
 have z3':(u:Int) / 2=(v:Int):=by omega
 have z4:IntKind.i64.wrap (v:Int)=(v:Int):=by rw[IntKind.wrap_i64];omega
 have hdef:heapSort ltN d a b=heapPop ltN a h (heapBuild ltN h a (v+1) d):=by unfold heapSort;rw[←hh,hv,hu]
 have HD:=Ab hdef
 have HH:=Ab (And.intro hh (And.intro hu hv))
 clear hdef hh hu hv
 go_enter Tryz.func199,Tryz.ntmps199
 go_wp2_with fail
 go_loopg [9] (v+1) (fun g s9 wr=> ∃(k:Nat) (dk:Array Nat),s9= .int .i64 ((k:Int) - 1)/\k<=v+1/\k<=g/\Hid (dk.size=d.size)/\Hid (LiesU wr blk dk)/\Hid (w.grownBy wr (some blk))/\Hid (heapBuild ltN h a k dk=heapBuild ltN h a (v+1) d))
 case atStart=>exact⟨v+1,d,by congr 1;omega,Nat.le_refl _,Nat.le_refl _,Ab rfl,HL,Ab (Jk _ _),Ab rfl⟩
 case round=>
  obtain⟨k,dk,hs9,hkv,hg,hsk,hLk,hGk,hOk⟩:=hrel
  cases k with
  |succ m=>
   have e9:(((m+1:Nat):Int) - 1)=(m:Int):=by omega
   rw[e9] at hs9
   subst hs9
   clear e9
   have HC:=Ab (sift78 blk cap m h a dk wr (Aa hLk) (by have:=Aa HH;have:=Aa hsk;omega) (by have:=Aa HH;have:=Aa hsk;omega) (by have:=Aa hsk;omega))
   rw[Aa hsk] at HC
   have y1:IntKind.i64.wrap ((m:Int) - 1)=(m:Int) - 1:=by have:=Aa HH;rw[IntKind.wrap_i64];omega
   have y2:(0:Int)<=m:=by omega
   go_wp2_with fail
   refine(Aa HC).mono ?_
   rintro e w1 ⟨rfl,hL1,hG1⟩
   have HL1:=Ab hL1
   have HG1:=Ab (Bt (Aa hGk) hG1)
   clear hL1 hG1
   go_wp2
   go_roundg m
   case measure=>omega
   case rel=>exact⟨m,siftDown ltN h a m dk,rfl,by omega,Nat.le_refl _,Ab (by rw[Zas h a _ _ _ (Nat.le_refl _)];exact Aa hsk),HL1,HG1,Ab (by rw[←Aa hOk];rfl)⟩
  |zero=>
   have e9:(((0:Nat):Int) - 1)= -1:=by omega
   rw[e9] at hs9
   subst hs9
   clear e9
   have HOk:=Ab (show dk=heapBuild ltN h a (v+1) d from Aa hOk)
   clear hOk
   go_wp2_with fail
   go_loopg [10] h (fun g s10 wr=> ∃(k:Nat) (dj:Array Nat),s10= .int .i64 ((k:Int) - 1)/\k<=h/\k<=g/\Hid (dj.size=d.size)/\Hid (LiesU wr blk dj)/\Hid (w.grownBy wr (some blk))/\Hid (heapPop ltN a k dj=heapPop ltN a h dk))
   case atStart=>exact⟨h,dk,by have:=Aa HH;congr 1;omega,Nat.le_refl _,Nat.le_refl _,hsk,hLk,hGk,Ab rfl⟩
   case round=>
    obtain⟨k,dj,hs9,hkv,hg,hsj,hLj,hGj,hOj⟩:=hrel
    cases k with
    |succ m=>
     have e9:(((m+1:Nat):Int) - 1)=(m:Int):=by omega
     rw[e9] at hs9
     subst hs9
     clear e9
     have hds:=Aa hsj
     have hhh:=Aa HH
     have hlt1:a<dj.size:=by omega
     have hlt2:a+m<dj.size:=by omega
     have HC:=Ab (fun X hX=>sift78 blk cap 0 m a (swp dj a (a+m)) X hX (by omega) (by rw[Dn];omega) (by rw[Dn];omega))
     rw[Dn,hds] at HC
     obtain⟨c1,f1⟩:=(Aa hLj).cell a hlt1
     obtain⟨c2,f2⟩:=(Aa hLj).cell (a+m) hlt2
     have HSw:=Ab (fun n=>((Aa hLj).drew n).swap a (a+m) hlt1 hlt2)
     have y1:IntKind.i64.wrap ((m:Int) - 1)=(m:Int) - 1:=by rw[IntKind.wrap_i64];omega
     have y2:(0:Int)<=m:=by omega
     have y3:IntKind.i64.wrap ((a:Int)+m)=(a:Int)+m:=by rw[IntKind.wrap_i64];omega
     have y4:((a:Int)+m).toNat=a+m:=by omega
     have y5:(a:Int)+m<d.size:=by omega
     have y6:(0:Int)<=(a:Int)+m:=by omega
     have y7:(a:Int)<d.size:=by omega
     clear hds hhh hlt1 hlt2
     by_cases hm0:m=0
     ·subst hm0
      simp only[Nat.add_zero] at c2 f2 HSw
      generalize dj[a]! =x at *
      go_wp2_with fail
      go_region
      all_goals go_wp2_with fail
      refine(Aa HC (((wr.setCell ⟨blk,a,none⟩ (.int .u32 (x:Nat))).setCell ⟨blk,a,none⟩ (.int .u32 (x:Nat))).drew) (LiesU.grown (Aa HSw 0) rfl)).mono ?_
      rintro e w1 ⟨rfl,hL1,hG1⟩
      have HL1:=Ab hL1
      have g0:=Bt (Aa hGj) (Dq wr blk a a (.int .u32 (x:Nat)) (.int .u32 (x:Nat)))
      have HG1:=Ab (Bt g0 ⟨hG1.os,hG1.tape,hG1.output,hG1.size,hG1.block⟩)
      clear hL1 hG1 g0
      go_wp2
      go_roundg 0
      case measure=>omega
      case rel=>exact⟨0,siftDown ltN 0 a 0 (swp dj a (a+0)),rfl,by omega,Nat.le_refl _,Ab (by rw[Zas 0 a _ _ _ (Nat.le_refl _),Dn];exact Aa hsj),HL1,HG1,Ab (by rw[←Aa hOj];rfl)⟩
     ·have n1: ¬a+m=a:=by omega
      have n2: ¬a=a+m:=by omega
      generalize dj[a]! =x at *
      generalize dj[a+m]! =y at *
      go_wp2_with fail
      go_region
      all_goals go_wp2_with fail
      refine(Aa HC _ (Aa HSw _)).mono ?_
      rintro e w1 ⟨rfl,hL1,hG1⟩
      have HL1:=Ab hL1
      have HG1:=Ab (Bt (Bt (Dm (Aa hGj) _) (Dq _ _ _ _ _ _)) hG1)
      clear hL1 hG1
      go_wp2
      go_roundg m
      case measure=>omega
      case rel=>exact⟨m,siftDown ltN m a 0 (swp dj a (a+m)),rfl,by omega,Nat.le_refl _,Ab (by rw[Zas m a _ _ _ (Nat.le_refl _),Dn];exact Aa hsj),HL1,HG1,Ab (by rw[←Aa hOj];rfl)⟩
    |zero=>
     have e9:(((0:Nat):Int) - 1)= -1:=by omega
     rw[e9] at hs9
     subst hs9
     clear e9
     go_wp2
     go_end0
     refine⟨rfl, ?_,Aa hGj⟩
     rw[Aa HD,←Aa HOk,←Aa hOj]
     exact Aa hLj
theorem bl_all: ∀(f x:Nat),x<=f->1<=x->x<18446744073709551616->x<2^Lib.bitLen x/\2^Lib.bitLen x<=2 * x:=by
 intro f
 induction f with
 |zero=>intro x h1 h2;omega
 |succ f ih=>
  intro x h1 h2 h3
  rw[Lib.bitLen_half x (by omega) h3,Nat.pow_add,Nat.pow_one]
  by_cases h:x / 2=0
  ·rw[h,show Lib.bitLen 0=0 by decide+kernel]
   omega
  ·have:=ih (x / 2) (by omega) (by omega) (by omega)
   omega
theorem bl_le (n:Nat) (h0:8<=n) (h1:n<=1500000):n<2^Lib.bitLen n/\2^Lib.bitLen n<=2 * n/\Lib.bitLen n<=21:=by
 have h:=bl_all n n (Nat.le_refl _) (by omega) (by omega)
 refine⟨h.1,h.2, ?_⟩
 rcases Nat.lt_or_ge 21 (Lib.bitLen n) with hk|hk
 ·have:=Nat.pow_le_pow_right (n:=2) (by omega) hk
  simp at this
  omega
 ·exact hk
theorem pow79 (n:Nat) (h0:8<=n) (h1:n<=1500000) (w:World):Calls Tryz.prog 122 #[.int .i64 (n:Nat)] w fun e w'=>(∃m k:Nat,e= .returned (.int .u64 m)/\m=2^k/\n<m/\m<=2 * n)/\w'=w:=by
 have hb:=bl_le n h0 h1
 have HC:=Ab (Tryz.bits_Len (n:Int) w (by omega) (by omega))
 rw[Int.toNat_natCast] at HC
 have HB:=Ab hb
 obtain⟨k,hk⟩: ∃k,k=Lib.bitLen n:=⟨_,rfl⟩
 rw[←hk] at HC HB hb
 have hk12:=hb.2.2
 clear hk hb
 have z1:IntKind.u64.wrap (n:Int)=(n:Int):=by simp[IntKind.wrap,IntKind.bits,IntKind.signed];omega
 go_enter Tryz.func122,Tryz.ntmps122
 go_wp2_with fail
 refine(Aa HC).mono ?_
 rintro e w' ⟨rfl,rfl⟩
 have hcases:k=0∨k=1∨k=2∨k=3∨k=4∨k=5∨k=6∨k=7∨k=8∨k=9∨k=10∨k=11∨k=12∨k=13∨k=14∨k=15∨k=16∨k=17∨k=18∨k=19∨k=20∨k=21:=by omega
 rcases hcases with rfl|rfl|rfl|rfl|rfl|rfl|rfl|rfl|rfl|rfl|rfl|rfl|rfl|rfl|rfl|rfl|rfl|rfl|rfl|rfl|rfl|rfl
 all_goals
  go_wp2
  go_ret
  first
   |exact⟨⟨1,0,rfl,rfl,(Aa HB).1,(Aa HB).2.1⟩,rfl⟩
   |exact⟨⟨2,1,rfl,rfl,(Aa HB).1,(Aa HB).2.1⟩,rfl⟩
   |exact⟨⟨4,2,rfl,rfl,(Aa HB).1,(Aa HB).2.1⟩,rfl⟩
   |exact⟨⟨8,3,rfl,rfl,(Aa HB).1,(Aa HB).2.1⟩,rfl⟩
   |exact⟨⟨16,4,rfl,rfl,(Aa HB).1,(Aa HB).2.1⟩,rfl⟩
   |exact⟨⟨32,5,rfl,rfl,(Aa HB).1,(Aa HB).2.1⟩,rfl⟩
   |exact⟨⟨64,6,rfl,rfl,(Aa HB).1,(Aa HB).2.1⟩,rfl⟩
   |exact⟨⟨128,7,rfl,rfl,(Aa HB).1,(Aa HB).2.1⟩,rfl⟩
   |exact⟨⟨256,8,rfl,rfl,(Aa HB).1,(Aa HB).2.1⟩,rfl⟩
   |exact⟨⟨512,9,rfl,rfl,(Aa HB).1,(Aa HB).2.1⟩,rfl⟩
   |exact⟨⟨1024,10,rfl,rfl,(Aa HB).1,(Aa HB).2.1⟩,rfl⟩
   |exact⟨⟨2048,11,rfl,rfl,(Aa HB).1,(Aa HB).2.1⟩,rfl⟩
   |exact⟨⟨4096,12,rfl,rfl,(Aa HB).1,(Aa HB).2.1⟩,rfl⟩
   |exact⟨⟨8192,13,rfl,rfl,(Aa HB).1,(Aa HB).2.1⟩,rfl⟩
   |exact⟨⟨16384,14,rfl,rfl,(Aa HB).1,(Aa HB).2.1⟩,rfl⟩
   |exact⟨⟨32768,15,rfl,rfl,(Aa HB).1,(Aa HB).2.1⟩,rfl⟩
   |exact⟨⟨65536,16,rfl,rfl,(Aa HB).1,(Aa HB).2.1⟩,rfl⟩
   |exact⟨⟨131072,17,rfl,rfl,(Aa HB).1,(Aa HB).2.1⟩,rfl⟩
   |exact⟨⟨262144,18,rfl,rfl,(Aa HB).1,(Aa HB).2.1⟩,rfl⟩
   |exact⟨⟨524288,19,rfl,rfl,(Aa HB).1,(Aa HB).2.1⟩,rfl⟩
   |exact⟨⟨1048576,20,rfl,rfl,(Aa HB).1,(Aa HB).2.1⟩,rfl⟩
   |exact⟨⟨2097152,21,rfl,rfl,(Aa HB).1,(Aa HB).2.1⟩,rfl⟩
theorem and_lt (r k:Nat) (hk:k<=21) (hr:r<2^64): ∃o:Nat,o<2^k/\bits .and .u64 (r:Int) ((2^k - 1:Nat):Int)=(o:Int):=by
 have hp:2^k<=2097152:=Nat.pow_le_pow_right (n:=2) (by omega) hk
 have h0:0<2^k:=Nat.two_pow_pos k
 refine⟨r &&& (2^k - 1), ?_,u64_and_nat r _ hr (by omega)⟩
 rw[Nat.and_two_pow_sub_one_eq_mod]
 exact Nat.mod_lt _ h0
theorem break63 (blk cap a b:Nat) (d:Array Nat) (w:World) (hL:LiesU w blk d) (hab:a+8<=b) (hb:b<=d.size) (hsz:d.size<=1500000):
  Calls Tryz.prog 200 #[.slice (some ⟨blk,0,none⟩) d.size cap, .int .i64 a, .int .i64 b] w fun e w'=>e= .returned (.tuple #[])/\ ∃d',PermIn a b d d'/\LiesU w' blk d'/\w.grownBy w' (some blk):=by
 have HL:=Ab hL
 have hlt:=hL.lt
 clear hL
 obtain⟨l,hl⟩: ∃l,l=b - a:=⟨_,rfl⟩
 obtain⟨q,hq⟩: ∃q,q=l / 4:=⟨_,rfl⟩
 obtain⟨t0,ht0⟩: ∃t,t=a+2 * q - 1:=⟨_,rfl⟩
 obtain⟨t1,ht1⟩: ∃t,t=a+2 * q+1:=⟨_,rfl⟩
 obtain⟨t2,ht2⟩: ∃t,t=a+2 * q:=⟨_,rfl⟩
 have z1:IntKind.i64.wrap ((b:Int) - a)=(l:Int):=by rw[IntKind.wrap_i64];omega
 have z2:(l:Int).tdiv 4=(q:Int):=by rw[Int.tdiv_eq_ediv_of_nonneg (by omega)];omega
 have z2':(l:Int) / 4=(q:Int):=by omega
 have z3:IntKind.i64.wrap ((q:Int))=(q:Int):=by rw[IntKind.wrap_i64];omega
 have z4:IntKind.i64.wrap ((q:Int) * 2)=2 * (q:Int):=by rw[IntKind.wrap_i64];omega
 have z5:IntKind.i64.wrap ((a:Int)+2 * (q:Int))=(t2:Int):=by rw[IntKind.wrap_i64];omega
 have z6:IntKind.i64.wrap ((t2:Int) - 1)=(t0:Int):=by rw[IntKind.wrap_i64];omega
 have z7:IntKind.i64.wrap ((t2:Int)+1)=(t1:Int):=by rw[IntKind.wrap_i64];omega
 have z8:IntKind.u64.wrap (l:Int)=(l:Int):=by simp[IntKind.wrap,IntKind.bits,IntKind.signed];omega
 have z9:(8:Int)<=l:=by omega
 have HM:=Ab (pow79 l (by omega) (by omega))
 have HQ:=Ab (And.intro hl (And.intro hq (And.intro ht0 (And.intro ht1 ht2))))
 clear hl hq ht0 ht1 ht2
 go_enter Tryz.func200,Tryz.ntmps200
 go_wp2_with fail
 refine(Aa HM _).mono ?_
 rintro e w1 ⟨⟨m,k,rfl,hm,hm1,hm2⟩,rfl⟩
 have hk12:k<=21:=by
  rcases Nat.lt_or_ge 21 k with hk|hk
  ·have:=Nat.pow_le_pow_right (n:=2) (by omega) hk
   have:=Aa HQ
   simp at *
   omega
  ·exact hk
 have HMK:=Ab hm
 clear hm
 obtain⟨m1,hm1'⟩: ∃m1,m1=m - 1:=⟨_,rfl⟩
 have y0:IntKind.u64.wrap ((m:Int) - 1)=(m1:Int):=by have:=Aa HQ;simp[IntKind.wrap,IntKind.bits,IntKind.signed];omega
 have HAnd:Hid (∀r:Nat,r<2^64-> ∃o:Nat,o<m/\bits .and .u64 (r:Int) (m1:Int)=(o:Int)):=Ab (fun r hr=>by
  obtain⟨o,h1,h2⟩:=and_lt r k hk12 hr
  rw[←Aa HMK] at h1 h2
  rw[←hm1'] at h2
  exact⟨o,h1,h2⟩)
 clear hm1'
 have hR0:Rn (w.alloc (Obj.cells #[Value.int IntKind.u64 (l:Nat)] 205)) w.heap.size l:=(show (w.heap.push _)[w.heap.size]? =_ from Array.getElem?_push_size)
 have HR0:=Ab hR0
 have b0:=(Below.refl w.heap.size w).alloc (Nat.le_refl _) (Obj.cells #[Value.int IntKind.u64 (l:Nat)] 205)
 have HL0:=Ab ((Aa HL).grown (b0.block blk hlt))
 have HG0:Hid (w.grownBy (w.alloc (Obj.cells #[Value.int IntKind.u64 (l:Nat)] 205)) (some blk)):=Ab ⟨b0.os,b0.tape,b0.output,b0.size,fun c hc _=>b0.block c hc⟩
 have hBB:some blk≠some w.heap.size:=fun e=>by have:=Option.some.inj e;omega
 clear hR0 b0
 go_wp2_with fail
 go_loopg [9] (d.size+2) (fun g s9 wr=> ∃(x r:Nat) (dk:Array Nat),s9= .int .i64 x/\t0<=x/\x<=t1+1/\d.size+2 - x<=g/\Hid (dk.size=d.size)/\Hid (LiesU wr blk dk)/\Hid (Rn wr w.heap.size r)/\r<2^64/\Hid (w.grownBy wr (some blk))/\Hid (PermIn a b d dk))
 case atStart=>exact⟨t0,l,d,rfl,Nat.le_refl _,by have:=Aa HQ;omega,by have:=Aa HQ;omega,Ab rfl,HL0,HR0,by have:=Aa HQ;omega,HG0,Ab (permIn_refl d a b)⟩
 case round=>
  obtain⟨x,r,dk,rfl,hx1,hx2,hg,hsk,hLk,hRk,hr64,hGk,hPk⟩:=hrel
  by_cases hxt:x<=t1
  ·have y1:(x:Int)<=t1:=by omega
   have HN:=Ab (next80 w.heap.size r wr (Aa hRk) hr64)
   clear hr64
   go_wp2_with fail
   refine(Aa HN).mono ?_
   rintro e w1 ⟨r',hr',rfl,hR1,hG1⟩
   obtain⟨o,ho1,ho2⟩:=Aa HAnd r' hr'
   have HL1:=Ab ((Aa hLk).gb hG1 hBB)
   have HG1:Hid (w.grownBy w1 (some blk)):=Ab ⟨hG1.os.trans (Aa hGk).os,hG1.tape.trans (Aa hGk).tape,hG1.output.trans (Aa hGk).output,Nat.le_trans (Aa hGk).size hG1.size,fun c hc hne=>(hG1.block c (Nat.lt_of_lt_of_le hc (Aa hGk).size) (fun e=>by have:=Option.some.inj e;omega)).trans ((Aa hGk).block c hc hne)⟩
   have HR1:=Ab hR1
   have hlq:=Aa HQ
   have y2:IntKind.i64.wrap (o:Int)=(o:Int):=by rw[IntKind.wrap_i64];omega
   have hds:=Aa hsk
   obtain⟨o2,ho3⟩: ∃o2,o2=if l<=o then o - l else o:=⟨_,rfl⟩
   have ho4:o2<l:=by rw[ho3];split<;>omega
   have y4:IntKind.i64.wrap ((a:Int)+o2)=(a:Int)+o2:=by rw[IntKind.wrap_i64];omega
   have y5:((a:Int)+o2).toNat=a+o2:=by omega
   have y6:(0:Int)<=(a:Int)+o2:=by omega
   have y7:(a:Int)+o2<d.size:=by omega
   have y8:(x:Int)<d.size:=by omega
   have y9:IntKind.i64.wrap ((x:Int)+1)=((x+1:Nat):Int):=by rw[IntKind.wrap_i64];omega
   obtain⟨c1,f1⟩:=(Aa HL1).cell x (by omega)
   obtain⟨c2,f2⟩:=(Aa HL1).cell (a+o2) (by omega)
   have HSw:=Ab (fun n=>((Aa HL1).drew n).swap x (a+o2) (by omega) (by omega))
   have HP1:=Ab (permIn_trans d dk (swp dk x (a+o2)) a b (Aa hPk) (swp_permIn dk a b x (a+o2) (by omega) (by omega) (by omega) (by omega) (by omega)))
   have HRn:Hid (∀(X:World),w1.grownBy X (some blk)->Rn X w.heap.size r'):=Ab (fun X hX=>by
    unfold Rn
    rw[hX.block _ (Aa HR1).cell.2.2 (fun e=>hBB e.symm)]
    exact Aa HR1)
   have hoo:=Classical.em (l<=o)
   clear hR1 hG1 hlq hds hRk hLk hGk
   rcases hoo with hoo|hoo
   all_goals
    first
    |(have x1:(l:Int)<=o:=(by omega)
      rw[if_pos hoo] at ho3
      have x2:IntKind.i64.wrap ((o:Int) - l)=(o2:Int):=(by rw[IntKind.wrap_i64];omega)
      have HO3:=Ab ho3
      clear ho3
      go_wp2_with fail)
    |(have x1: ¬(l:Int)<=o:=(by omega)
      rw[if_neg hoo] at ho3
      subst ho3
      go_wp2_with fail)
    have hxx:=Classical.em (x=a+o2)
    rcases hxx with hxx|hxx
    all_goals
     first
     |(subst hxx
       generalize dk[a+o2]! =xv at *
       go_region
       all_goals go_wp2
       go_roundg (d.size+2 - (a+o2+1))
       case measure=>omega
       case rel=>
        have g0:=Dq w1 blk (a+o2) (a+o2) (.int .u32 (xv:Nat)) (.int .u32 (xv:Nat))
        exact⟨a+o2+1,r',swp dk (a+o2) (a+o2),by go_num,by omega,by omega,Nat.le_refl _,Ab (by rw[Dn];exact Aa hsk),Ab (LiesU.grown (Aa HSw 0) rfl),Ab (Aa HRn _ ⟨g0.os,g0.tape,g0.output,g0.size,g0.block⟩),hr',Ab (Bt (Aa HG1) ⟨g0.os,g0.tape,g0.output,g0.size,g0.block⟩),HP1⟩)
     |(have n1: ¬a+o2=x:=(fun e=>hxx e.symm)
       generalize dk[x]! =xv at *
       generalize dk[a+o2]! =yv at *
       go_region
       all_goals go_wp2
       go_roundg (d.size+2 - (x+1))
       case measure=>omega
       case rel=>
        have g0:=Dq w1 blk x (a+o2) (.int .u32 (yv:Nat)) (.int .u32 (xv:Nat))
        exact⟨x+1,r',swp dk x (a+o2),by go_num,by omega,by omega,Nat.le_refl _,Ab (by rw[Dn];exact Aa hsk),Ab (LiesU.grown (Aa HSw 0) rfl),Ab (Aa HRn _ ⟨g0.os,g0.tape,g0.output,g0.size,g0.block⟩),hr',Ab (Bt (Aa HG1) ⟨g0.os,g0.tape,g0.output,g0.size,g0.block⟩),HP1⟩)
  ·have y1: ¬(x:Int)<=t1:=by omega
   go_wp2
   go_end0
   exact⟨rfl,dk,Aa hPk,Aa hLk,Aa hGk⟩
theorem ZdA:SWO ltN where
 irrefl x:=by simp[ltN]
 trans x y z h1 h2:=by simp[ltN] at *;omega
 ntrans x y z h1 h2:=by simp[ltN] at *;omega
structure Todo (a b a' b':Nat) (d d1:Array Nat):Prop where
 size:d1.size=d.size
 low:Sort.Below ltN a' b' d1
 fin: ∀R,PermIn a' b' d1 R->SortedIn ltN a' b' R->PermIn a b d R/\SortedIn ltN a b R
theorem Todo.perm {a b a' b':Nat} {d d1 d2:Array Nat} (h:Todo a b a' b' d d1) (hb:b'<=d.size) (hp:PermIn a' b' d1 d2):Todo a b a' b' d d2:=
 ⟨hp.1.trans h.size,h.low.perm (by rw[h.size];exact hb) hp,fun R h1 h2=>h.fin R (permIn_trans d1 d2 R a' b' hp h1) h2⟩
def At (w:World) (blk:Nat) (d1:Array Nat) (X:World):Prop:=LiesU X blk d1/\w.grownBy X (some blk)
theorem At.next {w X Y:World} {blk:Nat} {d1 d2:Array Nat} (h:At w blk d1 X) (hL:LiesU Y blk d2) (hg:X.grownBy Y (some blk)):At w blk d2 Y:=⟨hL,Bt h.2 hg⟩
theorem At.none {w X Y:World} {blk:Nat} {d1:Array Nat} (h:At w blk d1 X) (hg:X.grownBy Y none):At w blk d1 Y:=
 ⟨h.1.gb hg (by simp),⟨hg.os.trans h.2.os,hg.tape.trans h.2.tape,hg.output.trans h.2.output,Nat.le_trans h.2.size hg.size,fun c hc hne=>(hg.block c (Nat.lt_of_lt_of_le hc h.2.size) (by simp)).trans (h.2.block c hc hne)⟩⟩
theorem At.drew {w X:World} {blk:Nat} {d1:Array Nat} (h:At w blk d1 X) (n:Nat):At w blk d1 (X.drewN n):=⟨h.1.drew n,Dm h.2 n⟩
theorem todo_eq {a b a' b' p mid:Nat} {d d1 d4:Array Nat} (h:Todo a b a' b' d d1) (hb:b'<=d.size) (ha0:0<a') (hp1:a'<=p) (hp2:p<b') (hnl:ltN d1[a' - 1]! d1[p]! =false) (hx:partitionEqual ltN d1 a' b' p=(mid,d4)):
  a'<mid/\mid<=b'/\Todo a b mid b' d d4:=by
 obtain⟨g1,g2,g3,g4,g5⟩:=round_eq ZdA (partitionEqual_holds ltN) ha0 hp1 hp2 (by rw[h.size];exact hb) h.low hnl hx
 exact⟨g1,g2,⟨g3.trans h.size,g4,fun R h1 h2=>h.fin R (g5 R h1 h2).1 (g5 R h1 h2).2⟩⟩
theorem Zdy {a b a' b' p mid:Nat} {ap:Bool} {d d1 d4:Array Nat} (h:Todo a b a' b' d d1) (hb:b'<=d.size) (hp1:a'<=p) (hp2:p<b') (hx:partition ltN d1 a' b' p=(mid,ap,d4)):
  a'<=mid/\mid<b'/\d4.size=d.size/\Sort.Below ltN a' mid d4/\Sort.Below ltN (mid+1) b' d4/\(∀L,PermIn a' mid d4 L->SortedIn ltN a' mid L->Todo a b (mid+1) b' d L)/\(∀L,PermIn (mid+1) b' d4 L->SortedIn ltN (mid+1) b' L->Todo a b a' mid d L):=by
 obtain⟨g1,g2,g3,g4,g5,g6,g7⟩:=round_part ZdA (partition_holds ltN) hp1 hp2 (by rw[h.size];exact hb) h.low hx
 refine⟨g1,g2,g3.trans h.size,g4,g5,fun L h1 h2=> ?_,fun L h1 h2=> ?_⟩
 ·obtain⟨k1,k2⟩:=g6 L h1 h2
  exact⟨h1.1.trans (g3.trans h.size),k1,fun R r1 r2=>h.fin R (k2 R r1 r2).1 (k2 R r1 r2).2⟩
 ·obtain⟨k1,k2⟩:=g7 L h1 h2
  exact⟨h1.1.trans (g3.trans h.size),k1,fun R r1 r2=>h.fin R (k2 R r1 r2).1 (k2 R r1 r2).2⟩
def PdqP (blk:Nat) (n:Nat):Prop:= ∀(cap a b lim:Nat) (d:Array Nat) (w:World),b - a<n->LiesU w blk d->a<=b->b<=d.size->d.size<=1500000->lim<=64->Sort.Below ltN a b d->
 Calls Tryz.prog 194 #[.slice (some ⟨blk,0,none⟩) d.size cap, .int .i64 a, .int .i64 b, .int .i64 lim] w fun e w'=>e= .returned (.tuple #[])/\ ∃d',PermIn a b d d'/\SortedIn ltN a b d'/\LiesU w' blk d'/\w.grownBy w' (some blk)
theorem pdq_step (blk n:Nat) (ih:PdqP blk n):PdqP blk (n+1):=by
 intro cap a b lim d w hn hL hab hb hsz hlim hBl
 have IH:=Ab ih
 have HL:=Ab hL
 have HB:=Ab hBl
 clear ih hL hBl
 go_enter Tryz.func194,Tryz.ntmps194
 go_wp2_with fail
 go_loopg [1,2,3,8,9] (b - a) (fun g s1 s2 s3 s8 s9 wr=> ∃(a' b' lm:Nat) (wb wp:Bool) (d1:Array Nat),s1= .int .i64 a'/\s2= .int .i64 b'/\s3= .int .i64 lm/\s8= .bool wb/\s9= .bool wp/\a'<=b'/\b'<=d.size/\b' - a'<=g/\b' - a'<=b - a/\lm<=64/\Hid (Todo a b a' b' d d1)/\Hid (At w blk d1 wr))
 case atStart=>exact⟨a,b,lim,true,true,d,rfl,rfl,rfl,rfl,rfl,hab,hb,Nat.le_refl _,Nat.le_refl _,hlim,Ab ⟨rfl,Aa HB,fun R h1 h2=>⟨h1,h2⟩⟩,Ab ⟨Aa HL,Jk _ _⟩⟩
 case round=>
  obtain⟨a',b',lm,wb,wp,d1,rfl,rfl,rfl,rfl,rfl,h1,h2,hg,h4,h5,hT,hA⟩:=hrel
  obtain⟨l,hl⟩: ∃l,l=b' - a':=⟨_,rfl⟩
  have z1:IntKind.i64.wrap ((b':Int) - a')=(l:Int):=by rw[IntKind.wrap_i64];omega
  have hds:=(Aa hT).size
  have HDS:=Ab hds
  by_cases h12:l<=12
  ·have HC:=Ab (ZbA blk cap a' b' d1 wr (Aa hA).1 h1 (by omega) (by omega))
   rw[hds] at HC
   have HP:=Ab (insertionSort_holds (lt:=ltN) ZdA d1 a' b' h1 (by omega))
   have z2:(l:Int)<=12:=by omega
   clear hds hl
   go_wp2_with fail
   refine(Aa HC).mono ?_
   rintro e w1 ⟨rfl,hL1,hG1⟩
   have HF:=Ab (And.intro hL1 (Bt (Aa hA).2 hG1))
   clear hL1 hG1
   go_wp2
   (try simp only[Exit.inBlock,Exit.then])
   refine bodyPost_ret (results_none rfl _ _ _) rfl ?_
   have hf:=(Aa hT).fin _ (Aa HP).1 (Aa HP).2
   exact⟨rfl,_,hf.1,hf.2,(Aa HF).1,(Aa HF).2⟩
  ·by_cases hl0:lm=0
   ·subst hl0
    have HC:=Ab (heap62 blk cap a' b' d1 wr (Aa hA).1 (by omega) (by omega) (by omega))
    rw[hds] at HC
    have HP:=Ab (heapSort_holds (lt:=ltN) ZdA d1 a' b' h1 (by omega))
    have z2: ¬(l:Int)<=12:=by omega
    clear hds hl
    go_wp2_with fail
    refine(Aa HC).mono ?_
    rintro e w1 ⟨rfl,hL1,hG1⟩
    have HF:=Ab (And.intro hL1 (Bt (Aa hA).2 hG1))
    clear hL1 hG1
    go_wp2
    (try simp only[Exit.inBlock,Exit.then])
    refine bodyPost_ret (results_none rfl _ _ _) rfl ?_
    have hf:=(Aa hT).fin _ (Aa HP).1 (Aa HP).2
    exact⟨rfl,_,hf.1,hf.2,(Aa HF).1,(Aa HF).2⟩
   ·have z2: ¬(l:Int)<=12:=by omega
    have z3: ¬(lm:Int)=0:=by omega
    have z3':((lm:Int)==0)=false:=by simp;omega
    have HLl:=Ab hl
    have hlen:a'+13<=b':=by omega
    clear hds hl
    go_upto_if 35 with fail
    go_cut [3] from 19 to 183 (fun s3 X=> ∃(lm2:Nat) (d2:Array Nat),s3= .int .i64 lm2/\lm2<=64/\Hid (Todo a b a' b' d d2)/\Hid (At w blk d2 X))
    case first=>
     cases wb
     ·have HC:=Ab (break63 blk cap a' b' d1 wr (Aa hA).1 (by omega) (by have:=Aa HDS;omega) (by have:=Aa HDS;omega))
      rw[Aa HDS] at HC
      have z4:IntKind.i64.wrap ((lm:Int) - 1)=((lm - 1:Nat):Int):=by rw[IntKind.wrap_i64];omega
      go_wp2_with fail
      refine(Aa HC).mono ?_
      rintro e w1 ⟨rfl,d2,hP2,hL2,hG2⟩
      have HT2:=Ab ((Aa hT).perm h2 hP2)
      have HA2:Hid (At w blk d2 w1):=Ab ⟨hL2,Bt (Aa hA).2 hG2⟩
      clear hP2 hL2 hG2
      go_wp2
      go_meet
      case rel=>exact⟨lm - 1,d2,by go_num,by omega,HT2,HA2⟩
     ·go_wp2
      go_meet
      case rel=>exact⟨lm,d1,rfl,h5,hT,hA⟩
    case rest=>
     obtain⟨lm2,d2,rfl,h6,hT2,hA2⟩:=hcut
     clear hT hA
     have HC:=Ab (pivot64 blk cap a' b' d2 wc (Aa hA2).1 (by omega) (by have:=(Aa hT2).size;omega) (by have:=(Aa hT2).size;omega))
     rw[(Aa hT2).size] at HC
     go_wp2_with fail
     refine(Aa HC).mono ?_
     rintro e w2 ⟨p,hint,rfl,hp1,hp2,hh,hG2⟩
     have hA3:=Ab ((Aa hA2).none hG2)
     clear hG2 HC hA2
     go_upto_if 50 with fail
     go_cut [11,12] from 19 to 183 (fun s11 s12 X=> ∃(p3 h3:Nat) (d3:Array Nat),s11= .int .i64 p3/\s12= .int .i64 h3/\a'<=p3/\p3<b'/\h3<=1/\Hid (Todo a b a' b' d d3)/\Hid (At w blk d3 X))
     case first=>
      by_cases hh2:hint=2
      ·subst hh2
       have HC:=Ab (ZdF blk cap a' b' d2 w2 (Aa hA3).1 (by omega) (by have:=(Aa hT2).size;omega) (by have:=(Aa hT2).size;omega))
       rw[(Aa hT2).size] at HC
       have HT3:=Ab ((Aa hT2).perm h2 (reverseRange_holds d2 a' b' h1 (by have:=(Aa hT2).size;omega)))
       obtain⟨e1,he1⟩: ∃e,e=b' - 1:=⟨_,rfl⟩
       obtain⟨e2,he2⟩: ∃e,e=p - a':=⟨_,rfl⟩
       obtain⟨e3,he3⟩: ∃e,e=e1 - e2:=⟨_,rfl⟩
       have y1:IntKind.i64.wrap ((b':Int) - 1)=(e1:Int):=by rw[IntKind.wrap_i64];omega
       have y2:IntKind.i64.wrap ((p:Int) - a')=(e2:Int):=by rw[IntKind.wrap_i64];omega
       have y3:IntKind.i64.wrap ((e1:Int) - e2)=(e3:Int):=by rw[IntKind.wrap_i64];omega
       have hr3:=Ab (show a'<=e3/\e3<b' by omega)
       clear he1 he2 he3
       go_wp2_with fail
       refine(Aa HC).mono ?_
       rintro e w3 ⟨rfl,hL3,hG3⟩
       have HA3:=Ab ((Aa hA3).next hL3 hG3)
       clear hL3 hG3
       go_wp2
       go_meet
       case rel=>exact⟨e3,1,_,rfl,rfl,(Aa hr3).1,(Aa hr3).2,by omega,HT3,HA3⟩
      ·have y1: ¬(hint:Int)=2:=by omega
       have y2:((hint:Int)==2)=false:=by simp;omega
       go_wp2
       go_meet
       case rel=>exact⟨p,hint,d2,rfl,rfl,hp1,hp2,by omega,hT2,hA3⟩
     case rest=>
      clear hT2 hA3 hp1 hp2 hh
      obtain⟨p3,h3,d3,rfl,rfl,hq1,hq2,hh1,hT3,hA3⟩:=hcut
      obtain⟨w3,hw3⟩: ∃z,z=wc:=⟨_,rfl⟩
      subst hw3
      go_upto_region 15 with fail
      go_cut [12,68] from 19 to 183 (fun s12 s68 X=>s12= .int .i64 h3/\s68= .bool (wb && wp && decide (h3=1))/\Hid (X=w3))
      case first=>
       have h01:h3=0∨h3=1:=by omega
       rcases h01 with rfl|rfl
       all_goals
        cases wb
        all_goals
         cases wp
         all_goals
          go_wp2
          go_meet
          case rel=>exact⟨rfl,rfl,Ab rfl⟩
      case rest=>
       obtain⟨rfl,rfl,hX⟩:=hcut
       have hX':=Aa hX
       subst hX'
       clear hX
       go_upto_if 68 with fail
       go_cut [] from 19 to 183 (fun X=> ∃d4:Array Nat,Hid (Todo a b a' b' d d4)/\Hid (At w blk d4 X))
       case first=>
        generalize (wb && wp && decide (h3=1))=c at *
        cases c
        ·go_wp2
         go_meet
         case rel=>exact⟨d3,hT3,hA3⟩
        ·have HC:=Ab (ZdK blk cap a' b' d3 wc (Aa hA3).1 (by omega) (by have:=(Aa hT3).size;omega) (by have:=(Aa hT3).size;omega))
         rw[(Aa hT3).size] at HC
         have HP:=Ab (partialInsertionSort_holds (lt:=ltN) ZdA d3 a' b' (by omega) (by have:=(Aa hT3).size;omega) (Aa hT3).low)
         generalize hpi:partialInsertionSort ltN d3 a' b'=pr at *
         obtain⟨d4,fl⟩:=pr
         clear hpi
         dsimp only at HC HP
         cases fl
         ·go_wp2_with fail
          refine(Aa HC).mono ?_
          rintro e w4 ⟨rfl,hL4,hG4⟩
          have HA4:=Ab ((Aa hA3).next hL4 hG4)
          have HT4:=Ab ((Aa hT3).perm h2 (Aa HP).1)
          clear hL4 hG4
          go_wp2
          go_meet
          case rel=>exact⟨d4,HT4,HA4⟩
         ·go_wp2_with fail
          refine(Aa HC).mono ?_
          rintro e w4 ⟨rfl,hL4,hG4⟩
          have HA4:=Ab ((Aa hA3).next hL4 hG4)
          have HF:=Ab ((Aa hT3).fin d4 (Aa HP).1 ((Aa HP).2 trivial))
          clear hL4 hG4
          go_wp2
          (try simp only[Exit.inBlock,Exit.then])
          refine bodyPost_ret (results_none rfl _ _ _) rfl ?_
          exact⟨rfl,d4,(Aa HF).1,(Aa HF).2,(Aa HA4).1,(Aa HA4).2⟩
       case rest=>
        obtain⟨w4,hw4⟩: ∃z,z=wc:=⟨_,rfl⟩
        clear hT3 hA3
        obtain⟨d4,hT4,hA4⟩:=hcut
        rw[←hw4] at hA4 ⊢
        clear hw4
        have hds:=(Aa hT4).size
        have HL4:=Ab hds
        have hll:=Aa HLl
        by_cases hE:0<a'/\ltN d4[a' - 1]! d4[p3]! =false
        ·obtain⟨u,hu⟩: ∃u,u=a' - 1:=⟨_,rfl⟩
         obtain⟨c1,f1⟩:=(Aa hA4).1.cell u (by omega)
         obtain⟨c2,f2⟩:=(Aa hA4).1.cell p3 (by omega)
         have HCl:=Ab (Ef d4[u]! d4[p3]!)
         have hr:ltN d4[u]! d4[p3]! =false:=by rw[hu];exact hE.2
         have y1:(0:Int)<a':=by omega
         have y2:IntKind.i64.wrap ((a':Int) - 1)=(u:Int):=by rw[IntKind.wrap_i64];omega
         have y3:(u:Int)<d.size:=by omega
         have y4:(p3:Int)<d.size:=by omega
         rw[hr] at HCl
         have HC:=Ab (fun X hX=>parteq68 blk cap a' b' p3 d4 X hX hq1 hq2 (by omega) (by omega))
         rw[hds] at HC
         have HE:=Ab (fun mid d5=>todo_eq (mid:=mid) (d4:=d5) (Aa hT4) h2 hE.1 hq1 hq2 hE.2)
         generalize hpq:partitionEqual ltN d4 a' b' p3=pr at *
         obtain⟨mid,d5⟩:=pr
         have HR:=Ab (Aa HE mid d5 rfl)
         clear hpq HE hE hr hds hu hll
         dsimp only at HC
         generalize d4[u]! =xv at *
         generalize d4[p3]! =yv at *
         go_wp2_with fail
         have y5:decide ((0:Int)<a')=true:=decide_eq_true (by omega)
         have y6:0<a':=by omega
         have y7:decide (0<a')=true:=decide_eq_true y6
         go_quiet ((go_at_call 204;refine(Aa HCl _).mono ?_;rintro e w9 ⟨rfl,rfl⟩;exact⟨rfl,_,rfl⟩))
         go_wp2_with fail
         refine(Aa HC _ ((Aa hA4).drew _).1).mono ?_
         rintro e w5 ⟨rfl,hL5,hG5⟩
         have HA5:=Ab (((Aa hA4).drew _).next hL5 hG5)
         clear hL5 hG5
         go_wp2
         go_roundg (b' - mid)
         case measure=>(have:=Aa HR;have:=Aa HLl;omega)
         case rel=>exact⟨mid,b',lm2,wb,wp,d5,rfl,rfl,rfl,rfl,rfl,(Aa HR).2.1,h2,Nat.le_refl _,by have:=Aa HR;omega,h6,Ab (Aa HR).2.2,HA5⟩
        ·have hE':a'=0∨(0<a'/\ltN d4[a' - 1]! d4[p3]! =true):=by
          rcases Nat.eq_zero_or_pos a' with e|e
          ·exact .inl e
          ·refine .inr ⟨e, ?_⟩
           cases hr:ltN d4[a' - 1]! d4[p3]!
           ·exact absurd ⟨e,hr⟩ hE
           ·rfl
         have HC:=Ab (fun X hX=>part69 blk cap a' b' p3 d4 X hX hq1 hq2 (by omega) (by omega))
         rw[hds] at HC
         have HE:=Ab (fun mid ap d5=>Zdy (mid:=mid) (ap:=ap) (d4:=d5) (Aa hT4) h2 hq1 hq2)
         generalize hpq:partition ltN d4 a' b' p3=pr at *
         obtain⟨mid,ap,d5⟩:=pr
         have HR:=Ab (Aa HE mid ap d5 rfl)
         clear hpq HE hE
         dsimp only at HC
         obtain⟨x1,hx1⟩: ∃x,x=mid - a':=⟨_,rfl⟩
         obtain⟨x2,hx2⟩: ∃x,x=b' - mid:=⟨_,rfl⟩
         obtain⟨x8,hx8⟩: ∃x,x=l / 8:=⟨_,rfl⟩
         have hrr:=Aa HR
         have v1:IntKind.i64.wrap ((mid:Int) - a')=(x1:Int):=by rw[IntKind.wrap_i64];omega
         have v2:IntKind.i64.wrap ((b':Int) - mid)=(x2:Int):=by rw[IntKind.wrap_i64];omega
         have v3:(l:Int).tdiv 8=(x8:Int):=by rw[Int.tdiv_eq_ediv_of_nonneg (by omega)];omega
         have v3':(l:Int) / 8=(x8:Int):=by omega
         have v4:IntKind.i64.wrap ((mid:Int)+1)=((mid+1:Nat):Int):=by rw[IntKind.wrap_i64];omega
         have v5:IntKind.i64.wrap (x8:Int)=(x8:Int):=by rw[IntKind.wrap_i64];omega
         have HXX:=Ab (And.intro hx1 (And.intro hx2 hx8))
         have HI1:=Ab (fun X hX=>Aa IH cap a' mid lm2 d5 X (by omega) hX (by omega) (by omega) (by omega) h6 hrr.2.2.2.1)
         have HI2:=Ab (fun X hX=>Aa IH cap (mid+1) b' lm2 d5 X (by omega) hX (by omega) (by omega) (by omega) h6 hrr.2.2.2.2.1)
         rw[hrr.2.2.1] at HI1 HI2
         clear hx1 hx2 hx8 hrr hll
         rcases hE' with hE'|hE'
         all_goals
          first
          |(have hz0:a'=0:=hE'
            have HZ0:=Ab hz0
            clear hds hz0 hE'
            go_wp2_with fail
            have y5:decide ((0:Int)<a')=false:=decide_eq_false (by have:=Aa HZ0;omega)
            have y6: ¬0<a':=(by have:=Aa HZ0;omega)
            have y7:decide (0<a')=false:=decide_eq_false y6
            go_quiet (fail)
            clear y5 y6 y7)
          |(obtain⟨u,hu⟩: ∃u,u=a' - 1:=⟨_,rfl⟩
            obtain⟨c1,f1⟩:=(Aa hA4).1.cell u (by omega)
            obtain⟨c2,f2⟩:=(Aa hA4).1.cell p3 (by omega)
            have HCl:=Ab (Ef d4[u]! d4[p3]!)
            have hr:ltN d4[u]! d4[p3]! =true:=(by rw[hu];exact hE'.2)
            have y2:IntKind.i64.wrap ((a':Int) - 1)=(u:Int):=(by rw[IntKind.wrap_i64];omega)
            have y3:(u:Int)<d.size:=(by omega)
            have y4:(p3:Int)<d.size:=(by omega)
            have hpos:=hE'.1
            rw[hr] at HCl
            clear hE' hr hds hu
            generalize d4[u]! =xv at *
            generalize d4[p3]! =yv at *
            go_wp2_with fail
            have y5:decide ((0:Int)<a')=true:=decide_eq_true (by omega)
            have y6:0<a':=(by omega)
            have y7:decide (0<a')=true:=decide_eq_true y6
            go_quiet ((go_at_call 204;refine(Aa HCl _).mono ?_;rintro e w9 ⟨rfl,rfl⟩;exact⟨rfl,_,rfl⟩))
            clear HCl c1 c2 f1 f2 y2 y3 y4 y5 y6 y7)
          go_wp2_with fail
          refine(Aa HC _ ((Aa hA4).drew _).1).mono ?_
          rintro e w5 ⟨rfl,hL5,hG5⟩
          have HA5:=Ab (((Aa hA4).drew _).next hL5 hG5)
          clear hL5 hG5
          by_cases hlr:x1<x2
          ·have q1:(x1:Int)<x2:=by omega
           go_wp2_with fail
           refine(Aa HI1 w5 (Aa HA5).1).mono ?_
           rintro e w6 ⟨rfl,d6,hP6,hS6,hL6,hG6⟩
           have HA6:=Ab ((Aa HA5).next hL6 hG6)
           have HT6:=Ab ((Aa HR).2.2.2.2.2.1 d6 hP6 hS6)
           clear hP6 hS6 hL6 hG6
           go_wp2
           go_roundg (b' - (mid+1))
           case measure=>(have:=Aa HR;have:=Aa HLl;omega)
           case rel=>exact⟨mid+1,b',lm2,_,ap,d6,by go_num,rfl,rfl,rfl,rfl,by have:=Aa HR;omega,h2,Nat.le_refl _,by have:=Aa HR;omega,h6,HT6,HA6⟩
          ·have q1: ¬(x1:Int)<x2:=by omega
           go_wp2_with fail
           refine(Aa HI2 w5 (Aa HA5).1).mono ?_
           rintro e w6 ⟨rfl,d6,hP6,hS6,hL6,hG6⟩
           have HA6:=Ab ((Aa HA5).next hL6 hG6)
           have HT6:=Ab ((Aa HR).2.2.2.2.2.2 d6 hP6 hS6)
           clear hP6 hS6 hL6 hG6
           go_wp2
           go_roundg (mid - a')
           case measure=>(have:=Aa HR;have:=Aa HLl;omega)
           case rel=>exact⟨_,mid,lm2,_,ap,d6,rfl,rfl,rfl,rfl,rfl,by have:=Aa HR;omega,by have:=Aa HR;omega,by omega,by have:=Aa HR;omega,h6,HT6,HA6⟩
theorem ZcY (blk:Nat): ∀n,PdqP blk n
 |0=>fun _ _ _ _ _ _ h=>by omega
 |n+1=>pdq_step blk n (ZcY blk n)
