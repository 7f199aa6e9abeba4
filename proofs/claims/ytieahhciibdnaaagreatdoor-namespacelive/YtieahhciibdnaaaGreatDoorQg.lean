import Derived.Test.YtieahhciibdnaaaGreatDoorQd
import Derived.Sort.LotC
set_option linter.all false
namespace Go.Proofs.YtieahhciibdnaaaGreatDoor
set_option maxRecDepth 100000
set_option maxHeartbeats 0
section
open Go Go.Proofs Go.RowKit Go.Sort
theorem ZcR (p:Nat->Bool) (d:Array Nat) (j i:Nat) (h:i<=j) (hp:p d[i]! =true):scanUp p d j i=scanUp p d j (i+1):=by
 rw[scanUp,if_pos (by simp[h,hp])]
theorem Pp (p:Nat->Bool) (d:Array Nat) (j i:Nat) (h: ¬i<=j∨p d[i]! =false):scanUp p d j i=i:=by
 rw[scanUp,if_neg]
 rcases h with h|h
 ·simp[h]
 ·simp[h]
theorem Zch (p:Nat->Bool) (d:Array Nat) (i j:Nat) (h:i<=j) (h0:0<i) (hp:p d[j]! =true):scanDown p d i j=scanDown p d i (j - 1):=by
 cases j with
 |zero=>omega
 |succ j=>rw[scanDown,if_pos (by simp[h,hp])];rfl
theorem Vj (p:Nat->Bool) (d:Array Nat) (i j:Nat) (h: ¬i<=j∨p d[j]! =false):scanDown p d i j=j:=by
 cases j with
 |zero=>rfl
 |succ j=>
  rw[scanDown,if_neg]
  rcases h with h|h
  ·simp[h]
  ·simp[h]
theorem su_ge (p:Nat->Bool) (d:Array Nat) (j:Nat): ∀(n i:Nat),j+1 - i<=n->i<=scanUp p d j i/\(i<=j+1->scanUp p d j i<=j+1):=by
 intro n
 induction n with
 |zero=>intro i h;rw[Pp p d j i (.inl (by omega))];omega
 |succ n ih=>
  intro i h
  by_cases hc:i<=j/\p d[i]! =true
  ·rw[ZcR p d j i hc.1 hc.2]
   have:=ih (i+1) (by omega)
   omega
  ·rw[Pp p d j i (by by_cases e:i<=j;exact .inr (by cases h:p d[i]!;rfl;exact absurd ⟨e,h⟩ hc);exact .inl e)]
   omega
theorem sdn_le (p:Nat->Bool) (d:Array Nat) (i:Nat): ∀j,scanDown p d i j<=j/\(i<=j+1->i<=scanDown p d i j+1):=by
 intro j
 induction j with
 |zero=>simp[scanDown]
 |succ j ih=>
  unfold scanDown
  split
  ·rename_i h
   simp at h
   omega
  ·omega
theorem pl_eq (a i j:Nat) (d:Array Nat) (i2 j2:Nat) (h1:scanUp (fun x=>ltN x d[a]!) d j i=i2) (h2:scanDown (fun x=> !ltN x d[a]!) d i2 j=j2):
  partLoop ltN a i j d=if i2>j2 then (j2,d) else partLoop ltN a (i2+1) (j2 - 1) (swp d i2 j2):=by
 have g1:=(su_ge (fun x=>ltN x d[a]!) d j _ i (Nat.le_refl _)).1
 have g2:=(sdn_le (fun x=> !ltN x d[a]!) d i2 j).1
 rw[h1] at g1
 rw[h2] at g2
 rw[partLoop]
 simp only[h1,h2]
 split
 ·rfl
 ·rw[dif_pos (by omega)]
theorem pe_eq (a i j:Nat) (d:Array Nat) (i2 j2:Nat) (h1:scanUp (fun x=> !ltN d[a]! x) d j i=i2) (h2:scanDown (fun x=>ltN d[a]! x) d i2 j=j2):
  partEqLoop ltN a i j d=if i2>j2 then (i2,d) else partEqLoop ltN a (i2+1) (j2 - 1) (swp d i2 j2):=by
 have g1:=(su_ge (fun x=> !ltN d[a]! x) d j _ i (Nat.le_refl _)).1
 have g2:=(sdn_le (fun x=>ltN d[a]! x) d i2 j).1
 rw[h1] at g1
 rw[h2] at g2
 rw[partEqLoop]
 simp only[h1,h2]
 split
 ·rfl
 ·rw[dif_pos (by omega)]
theorem parteq68 (blk cap a b p:Nat) (d:Array Nat) (w:World) (hL:LiesU w blk d) (hap:a<=p) (hpb:p<b) (hb:b<=d.size) (hsz:d.size<=1500000):
  Calls Tryz.prog 205 #[.slice (some ⟨blk,0,none⟩) d.size cap, .int .i64 a, .int .i64 b, .int .i64 p] w fun e w'=>e= .returned (.int .i64 ((partitionEqual ltN d a b p).1:Nat))/\LiesU w' blk (partitionEqual ltN d a b p).2/\w.grownBy w' (some blk):=by
 have HL:=Ab hL
 obtain⟨c1,f1⟩:=hL.cell a (by omega)
 obtain⟨c2,f2⟩:=hL.cell p (by omega)
 have HSw:=Ab (fun n=>(hL.drew n).swap a p (by omega) (by omega))
 clear hL
 have z1:(a:Int)<d.size:=by omega
 have z2:(p:Int)<d.size:=by omega
 have z3:IntKind.i64.wrap ((a:Int)+1)=((a+1:Nat):Int):=by rw[IntKind.wrap_i64];omega
 have z4:IntKind.i64.wrap ((b:Int) - 1)=((b - 1:Nat):Int):=by rw[IntKind.wrap_i64];omega
 have HD:Hid (partitionEqual ltN d a b p=partEqLoop ltN a (a+1) (b - 1) (swp d a p)):=Ab rfl
 have HZ:=Ab (Dn d a p)
 generalize partitionEqual ltN d a b p=res at *
 generalize swp d a p=d1 at *
 have hcase:=Classical.em (a=p)
 rcases hcase with hne|hne
 all_goals
  first
  |(subst hne
    generalize d[a]! =x at *
    go_enter Tryz.func205,Tryz.ntmps205
    go_wp2_with fail
    go_region
    all_goals go_wp2_with fail
    obtain⟨X,hX⟩: ∃X,X=((w.setCell ⟨blk,a,none⟩ (.int .u32 (x:Nat))).setCell ⟨blk,a,none⟩ (.int .u32 (x:Nat))).drew:=⟨_,rfl⟩
    rw[←hX]
    have HLX:Hid (LiesU X blk d1):=Ab (by rw[hX];exact LiesU.grown (Aa HSw 0) rfl)
    have HGX:Hid (w.grownBy X (some blk)):=Ab (by rw[hX];exact(have g0:=Dq w blk a a _ _;⟨g0.os,g0.tape,g0.output,g0.size,g0.block⟩))
    clear hX)
  |(have n1: ¬p=a:=(by omega)
    generalize d[a]! =x at *
    generalize d[p]! =y at *
    go_enter Tryz.func205,Tryz.ntmps205
    go_wp2_with fail
    go_region
    all_goals go_wp2_with fail
    obtain⟨X,hX⟩: ∃X,X=((w.setCell ⟨blk,a,none⟩ (.int .u32 (y:Nat))).setCell ⟨blk,p,none⟩ (.int .u32 (x:Nat))).drew:=⟨_,rfl⟩
    rw[←hX]
    have HLX:Hid (LiesU X blk d1):=Ab (by rw[hX];exact LiesU.grown (Aa HSw 0) rfl)
    have HGX:Hid (w.grownBy X (some blk)):=Ab (by rw[hX];exact(have g0:=Dq w blk a p _ _;⟨g0.os,g0.tape,g0.output,g0.size,g0.block⟩))
    clear hX)
  clear c1 c2 f1 f2 HSw
  go_loopg [9,10] (d.size+1) (fun g s9 s10 wr=> ∃(i j:Nat) (dk:Array Nat),s9= .int .i64 i/\s10= .int .i64 j/\a+1<=i/\i<=b/\j<b/\a<=j/\d.size+1 - i<=g/\Hid (dk.size=d.size)/\Hid (LiesU wr blk dk)/\Hid (w.grownBy wr (some blk))/\Hid (partEqLoop ltN a i j dk=res))
  case atStart=>exact⟨a+1,b - 1,d1,by go_num,rfl,Nat.le_refl _,by omega,by omega,by omega,by omega,HZ,HLX,HGX,Ab (Aa HD).symm⟩
  case round=>
   obtain⟨i,j,dk,rfl,rfl,hai,hib,hjb,haj,hg,hsk,hLk,hGk,hOk⟩:=hrel
   obtain⟨w0,hw0⟩: ∃w0,w0=wr:=⟨wr,rfl⟩
   subst hw0
   go_wp2_with fail
   go_loopg [9] (d.size+1) (fun g s wr=> ∃i2:Nat,s= .int .i64 i2/\i<=i2/\i2<=d.size/\(i2<=j+1∨i2=i)/\d.size+1 - i2<=g/\Hid (LiesU wr blk dk)/\Hid (w.grownBy wr (some blk))/\Hid (scanUp (fun x=> !ltN dk[a]! x) dk j i2=scanUp (fun x=> !ltN dk[a]! x) dk j i))
   case atStart=>exact⟨i,rfl,Nat.le_refl _,by omega, .inr rfl,by omega,hLk,hGk,Ab rfl⟩
   case round=>
    obtain⟨i2,rfl,hi1,hi2,hi3,hgi,hLi,hGi,hSi⟩:=hrel
    have hds:=Aa hsk
    by_cases hcont:i2<=j/\ltN dk[a]! dk[i2]! =false
    ·obtain⟨c1,f1⟩:=(Aa hLi).cell a (by omega)
     obtain⟨c2,f2⟩:=(Aa hLi).cell i2 (by omega)
     have HE:=Ab (ZcR (fun x=> !ltN dk[a]! x) dk j i2 hcont.1 (by simp[hcont.2]))
     have HC:=Ab (Ef dk[a]! dk[i2]!)
     have y1:(i2:Int)<=j:=by omega
     have y2:(i2:Int)<d.size:=by omega
     have y3:IntKind.i64.wrap ((i2:Int)+1)=((i2+1:Nat):Int):=by rw[IntKind.wrap_i64];omega
     rw[hcont.2] at HC
     have hle:=hcont.1
     clear hds hcont
     generalize dk[a]! =pv at *
     generalize dk[i2]! =xv at *
     go_wp2_with fail
     go_quiet ((go_at_call 204;refine(Aa HC _).mono ?_;rintro e w9 ⟨rfl,rfl⟩;exact⟨rfl,_,rfl⟩))
     go_wp2
     go_roundg (d.size+1 - (i2+1))
     case measure=>omega
     case rel=>exact⟨i2+1,by go_num,by omega,by omega, .inl (by omega),Nat.le_refl _,Ab ((Aa hLi).grown rfl),Ab ⟨(Aa hGi).os,(Aa hGi).tape,(Aa hGi).output,(Aa hGi).size,(Aa hGi).block⟩,Ab (by rw[←Aa HE];exact Aa hSi)⟩
    ·have hstop: ¬i2<=j∨ltN dk[a]! dk[i2]! = !false:=by
      by_cases e:i2<=j
      ·right
       cases h:ltN dk[a]! dk[i2]!
       all_goals first|rfl|exact absurd ⟨e,h⟩ hcont
      ·exact .inl e
     have HSA:=Ab hstop
     have HI2:Hid (scanUp (fun x=> !ltN dk[a]! x) dk j i=i2):=Ab (by rw[←Aa hSi];exact Pp _ _ _ _ (by rcases hstop with h|h;exact .inl h;exact .inr (by simp[h])))
     clear hstop hSi
     have hle:=Classical.em (i2<=j)
     rcases hle with hle|hle
     all_goals
      first
      |(obtain⟨c1,f1⟩:=(Aa hLi).cell a (by omega)
        obtain⟨c2,f2⟩:=(Aa hLi).cell i2 (by omega)
        have HC:=Ab (Ef dk[a]! dk[i2]!)
        have hr:ltN dk[a]! dk[i2]! = !false:=(by rcases Aa HSA with h|h;exact absurd hle h;exact h)
        rw[hr] at HC
        have y1:(i2:Int)<=j:=(by omega)
        have y2:(i2:Int)<d.size:=(by omega)
        clear hds hcont hr
        generalize dk[a]! =pv at c1 HC
        generalize dk[i2]! =xv at c2 HC
        go_wp2_with fail
        go_quiet ((go_at_call 204;refine(Aa HC _).mono ?_;rintro e w9 ⟨rfl,rfl⟩;exact⟨rfl,_,rfl⟩))
        clear HC c1 c2 f1 f2 y1 y2)
      |(have y0: ¬(i2:Int)<=j:=(by omega)
        clear hds hcont
        go_wp2_with fail
        have y1:decide ((i2:Int)<=j)=false:=decide_eq_false (by omega)
        go_quiet (fail)
        clear y0 y1)
      obtain⟨w1,hw1⟩: ∃w1,w1=wr.drewN nq:=⟨_,rfl⟩
      have HL1:Hid (LiesU w1 blk dk):=Ab (by rw[hw1];exact(Aa hLi).grown rfl)
      have HG1:Hid (w.grownBy w1 (some blk)):=Ab (by rw[hw1];exact Dm (Aa hGi) _)
      rw[←hw1]
      clear hw1 hLi hGi
      go_wp2_with fail
      go_loopg [10] (d.size+1) (fun g s wr=> ∃j2:Nat,s= .int .i64 j2/\j2<=j/\(i2<=j2+1∨j2=j)/\a<=j2/\j2<=g/\Hid (LiesU wr blk dk)/\Hid (w.grownBy wr (some blk))/\Hid (scanDown (fun x=>ltN dk[a]! x) dk i2 j2=scanDown (fun x=>ltN dk[a]! x) dk i2 j))
      case atStart=>exact⟨j,rfl,Nat.le_refl _, .inr rfl,by omega,by have:=Aa hsk;omega,HL1,HG1,Ab rfl⟩
      case round=>
       obtain⟨j2,rfl,hj1,hj2,hj3,hgj,hLj,hGj,hSj⟩:=hrel
       have hds:=Aa hsk
       by_cases hcont2:i2<=j2/\ltN dk[a]! dk[j2]! =true
       ·obtain⟨c1,f1⟩:=(Aa hLj).cell a (by omega)
        obtain⟨c2,f2⟩:=(Aa hLj).cell j2 (by omega)
        have HE:=Ab (Zch (fun x=>ltN dk[a]! x) dk i2 j2 hcont2.1 (by omega) (by simp[hcont2.2]))
        have HC:=Ab (Ef dk[a]! dk[j2]!)
        have y1:(i2:Int)<=j2:=by omega
        have y2:(j2:Int)<d.size:=by omega
        have y3:IntKind.i64.wrap ((j2:Int) - 1)=((j2 - 1:Nat):Int):=by rw[IntKind.wrap_i64];omega
        rw[hcont2.2] at HC
        have hle2:=hcont2.1
        clear hds hcont2
        generalize dk[a]! =pv at c1 HC
        generalize dk[j2]! =xv at c2 HC
        go_wp2_with fail
        go_quiet ((go_at_call 204;refine(Aa HC _).mono ?_;rintro e w9 ⟨rfl,rfl⟩;exact⟨rfl,_,rfl⟩))
        go_wp2
        go_roundg (j2 - 1)
        case measure=>omega
        case rel=>exact⟨j2 - 1,by go_num,by omega, .inl (by omega),by omega,Nat.le_refl _,Ab ((Aa hLj).grown rfl),Ab ⟨(Aa hGj).os,(Aa hGj).tape,(Aa hGj).output,(Aa hGj).size,(Aa hGj).block⟩,Ab (by rw[←Aa HE];exact Aa hSj)⟩
       ·have hstop2: ¬i2<=j2∨ltN dk[a]! dk[j2]! = !true:=by
         by_cases e:i2<=j2
         ·right
          cases h:ltN dk[a]! dk[j2]!
          all_goals first|rfl|exact absurd ⟨e,h⟩ hcont2
         ·exact .inl e
        have HJ2:Hid (scanDown (fun x=>ltN dk[a]! x) dk i2 j=j2):=Ab (by rw[←Aa hSj];exact Vj _ _ _ _ (by rcases hstop2 with h|h;exact .inl h;exact .inr (by simp[h])))
        clear hSj
        by_cases hle2:i2<=j2
        ·obtain⟨c1,f1⟩:=(Aa hLj).cell a (by omega)
         obtain⟨c2,f2⟩:=(Aa hLj).cell j2 (by omega)
         have hrB:ltN dk[a]! dk[j2]! = !true:=by rcases hstop2 with h|h;exact absurd hle2 h;exact h
         have hij:i2≠j2:=by
          intro e
          rcases Aa HSA with h|h
          ·omega
          ·rw[e] at h
           rw[hrB] at h
           simp at h
         have HC:=Ab (Ef dk[a]! dk[j2]!)
         rw[hrB] at HC
         have y1:(i2:Int)<=j2:=by omega
         have y2:(j2:Int)<d.size:=by omega
         clear hcont2 hstop2 hrB
         have HDS:=Ab hds
         clear hds
         generalize dk[a]! =pv at c1 HC
         generalize hxv:dk[j2]! =xv at c2 HC
         clear hxv
         go_wp2_with fail
         go_quiet ((go_at_call 204;refine(Aa HC _).mono ?_;rintro e w9 ⟨rfl,rfl⟩;exact⟨rfl,_,rfl⟩))
         clear HC c1 c2 f1 f2
         have HLw:Hid (LiesU (wr.drewN nq) blk dk):=Ab ((Aa hLj).grown rfl)
         have HGw:Hid (w.grownBy (wr.drewN nq) (some blk)):=Ab (Dm (Aa hGj) _)
         obtain⟨wx,hwx⟩: ∃wx,wx=wr.drewN nq:=⟨_,rfl⟩
         rw[←hwx] at HLw HGw ⊢
         clear hwx hLj hGj
         have hds:=Aa HDS
         obtain⟨c1,f1⟩:=(Aa HLw).cell i2 (by omega)
         obtain⟨c2,f2⟩:=(Aa HLw).cell j2 (by omega)
         have HSw:=Ab (fun n=>((Aa HLw).drew n).swap i2 j2 (by omega) (by omega))
         have HE:=Ab (pe_eq a i j dk i2 j2 (Aa HI2) (Aa HJ2))
         rw[if_neg (by omega)] at HE
         have y3:(i2:Int)<d.size:=by omega
         have y4:IntKind.i64.wrap ((i2:Int)+1)=((i2+1:Nat):Int):=by rw[IntKind.wrap_i64];omega
         have y5:IntKind.i64.wrap ((j2:Int) - 1)=((j2 - 1:Nat):Int):=by rw[IntKind.wrap_i64];omega
         have n2: ¬j2=i2:=fun e=>hij e.symm
         clear hds
         generalize dk[i2]! =xv at *
         generalize dk[j2]! =yv at *
         first
         |(exfalso;omega)
         |(go_wp2_with fail
           go_region
           all_goals go_wp2
           go_roundg (d.size+1 - (i2+1))
           case measure=>omega
           case rel=>exact⟨i2+1,j2 - 1,swp dk i2 j2,by go_num,by go_num,by omega,by omega,by omega,by omega,Nat.le_refl _,Ab (by rw[Dn];exact Aa hsk),Ab (LiesU.grown (Aa HSw 0) rfl),Ab (have g0:=Bt (Aa HGw) (Dq wx blk i2 j2 _ _);⟨g0.os,g0.tape,g0.output,g0.size,g0.block⟩),Ab (by rw[←Aa HE];exact Aa hOk)⟩)
        ·have y0: ¬(i2:Int)<=j2:=by omega
         clear hcont2 hstop2
         go_wp2_with fail
         have y1:decide ((i2:Int)<=j2)=false:=decide_eq_false (by omega)
         go_quiet (fail)
         have HLw:Hid (LiesU (wr.drewN nq) blk dk):=Ab ((Aa hLj).grown rfl)
         have HGw:Hid (w.grownBy (wr.drewN nq) (some blk)):=Ab (Dm (Aa hGj) _)
         obtain⟨wx,hwx⟩: ∃wx,wx=wr.drewN nq:=⟨_,rfl⟩
         rw[←hwx] at HLw HGw ⊢
         clear hwx hLj hGj y1
         have y2:(j2:Int)<i2:=by omega
         have HE:=Ab (pe_eq a i j dk i2 j2 (Aa HI2) (Aa HJ2))
         rw[if_pos (by omega)] at HE
         go_wp2
         go_ret
         rw[←Aa hOk,Aa HE]
         exact⟨rfl,Aa HLw,Aa HGw⟩
theorem part_eq (d:Array Nat) (a b p i2 j2:Nat) (d1:Array Nat) (h0:d1=swp d a p) (h1:scanUp (fun x=>ltN x d1[a]!) d1 (b - 1) (a+1)=i2) (h2:scanDown (fun x=> !ltN x d1[a]!) d1 i2 (b - 1)=j2):
  partition ltN d a b p=if i2>j2 then (j2,true,swp d1 j2 a) else ((partLoop ltN a (i2+1) (j2 - 1) (swp d1 i2 j2)).1,false,swp (partLoop ltN a (i2+1) (j2 - 1) (swp d1 i2 j2)).2 (partLoop ltN a (i2+1) (j2 - 1) (swp d1 i2 j2)).1 a):=by
 subst h0
 unfold partition
 simp only[h1,h2]
theorem part69 (blk cap a b p:Nat) (d:Array Nat) (w:World) (hL:LiesU w blk d) (hap:a<=p) (hpb:p<b) (hb:b<=d.size) (hsz:d.size<=1500000):
  Calls Tryz.prog 206 #[.slice (some ⟨blk,0,none⟩) d.size cap, .int .i64 a, .int .i64 b, .int .i64 p] w fun e w'=>e= .returned (.tuple #[.int .i64 ((partition ltN d a b p).1:Nat), .bool (partition ltN d a b p).2.1])/\LiesU w' blk (partition ltN d a b p).2.2/\w.grownBy w' (some blk):=by
 obtain⟨c1,f1⟩:=hL.cell a (by omega)
 obtain⟨c2,f2⟩:=hL.cell p (by omega)
 have HSw:=Ab (fun n=>(hL.drew n).swap a p (by omega) (by omega))
 clear hL
 have z1:(a:Int)<d.size:=by omega
 have z2:(p:Int)<d.size:=by omega
 have z3:IntKind.i64.wrap ((a:Int)+1)=((a+1:Nat):Int):=by rw[IntKind.wrap_i64];omega
 have z4:IntKind.i64.wrap ((b:Int) - 1)=((b - 1:Nat):Int):=by rw[IntKind.wrap_i64];omega
 have HD:=Ab (fun i2 j2=>part_eq d a b p i2 j2 (swp d a p) rfl)
 have HZ:=Ab (Dn d a p)
 generalize partition ltN d a b p=res at *
 generalize swp d a p=d1 at *
 have hcase:=Classical.em (a=p)
 rcases hcase with hne|hne
 all_goals
  first
  |(subst hne
    generalize d[a]! =x at *
    go_enter Tryz.func206,Tryz.ntmps206
    go_wp2_with fail
    go_region
    all_goals go_wp2_with fail
    obtain⟨wr,hX⟩: ∃X,X=((w.setCell ⟨blk,a,none⟩ (.int .u32 (x:Nat))).setCell ⟨blk,a,none⟩ (.int .u32 (x:Nat))).drew:=⟨_,rfl⟩
    rw[←hX]
    have hLk:Hid (LiesU wr blk d1):=Ab (by rw[hX];exact LiesU.grown (Aa HSw 0) rfl)
    have hGk:Hid (w.grownBy wr (some blk)):=Ab (by rw[hX];exact(have g0:=Dq w blk a a _ _;⟨g0.os,g0.tape,g0.output,g0.size,g0.block⟩))
    clear hX)
  |(have n1: ¬p=a:=(by omega)
    generalize d[a]! =x at *
    generalize d[p]! =y at *
    go_enter Tryz.func206,Tryz.ntmps206
    go_wp2_with fail
    go_region
    all_goals go_wp2_with fail
    obtain⟨wr,hX⟩: ∃X,X=((w.setCell ⟨blk,a,none⟩ (.int .u32 (y:Nat))).setCell ⟨blk,p,none⟩ (.int .u32 (x:Nat))).drew:=⟨_,rfl⟩
    rw[←hX]
    have hLk:Hid (LiesU wr blk d1):=Ab (by rw[hX];exact LiesU.grown (Aa HSw 0) rfl)
    have hGk:Hid (w.grownBy wr (some blk)):=Ab (by rw[hX];exact(have g0:=Dq w blk a p _ _;⟨g0.os,g0.tape,g0.output,g0.size,g0.block⟩))
    clear hX)
  clear c1 c2 f1 f2 HSw
  obtain⟨i,hi⟩: ∃i,i=a+1:=⟨_,rfl⟩
  obtain⟨j,hj⟩: ∃j,j=b - 1:=⟨_,rfl⟩
  obtain⟨dk,hdk⟩: ∃dk,dk=d1:=⟨_,rfl⟩
  have ei:(a:Int)+1=(i:Int):=by omega
  try rw[ei]
  rw[←hj]
  rw[←hdk] at hLk HZ
  have hsk:=HZ
  have hai:a+1<=i:=by omega
  have hib:i<=b:=by omega
  have hjb:j<b:=by omega
  have haj:a<=j:=by omega
  have HIJ:=Ab (And.intro hi (And.intro hj hdk))
  clear hi hj hdk z3 z4 ei
  obtain⟨w0,hw0⟩: ∃w0,w0=wr:=⟨wr,rfl⟩
  subst hw0
  go_wp2_with fail
  go_loopg [10] (d.size+1) (fun g s wr=> ∃i2:Nat,s= .int .i64 i2/\i<=i2/\i2<=d.size/\(i2<=j+1∨i2=i)/\d.size+1 - i2<=g/\Hid (LiesU wr blk dk)/\Hid (w.grownBy wr (some blk))/\Hid (scanUp (fun x=>ltN x dk[a]!) dk j i2=scanUp (fun x=>ltN x dk[a]!) dk j i))
  case atStart=>exact⟨i,rfl,Nat.le_refl _,by omega, .inr rfl,by omega,hLk,hGk,Ab rfl⟩
  case round=>
   obtain⟨i2,rfl,hi1,hi2,hi3,hgi,hLi,hGi,hSi⟩:=hrel
   have hds:=Aa hsk
   by_cases hcont:i2<=j/\ltN dk[i2]! dk[a]! =true
   ·obtain⟨c1,f1⟩:=(Aa hLi).cell a (by omega)
    obtain⟨c2,f2⟩:=(Aa hLi).cell i2 (by omega)
    have HE:=Ab (ZcR (fun x=>ltN x dk[a]!) dk j i2 hcont.1 (by simp[hcont.2]))
    have HC:=Ab (Ef dk[i2]! dk[a]!)
    have y1:(i2:Int)<=j:=by omega
    have y2:(i2:Int)<d.size:=by omega
    have y3:IntKind.i64.wrap ((i2:Int)+1)=((i2+1:Nat):Int):=by rw[IntKind.wrap_i64];omega
    rw[hcont.2] at HC
    have hle:=hcont.1
    clear hds hcont
    generalize dk[a]! =pv at *
    generalize dk[i2]! =xv at *
    go_wp2_with fail
    go_quiet ((go_at_call 204;refine(Aa HC _).mono ?_;rintro e w9 ⟨rfl,rfl⟩;exact⟨rfl,_,rfl⟩))
    go_wp2
    go_roundg (d.size+1 - (i2+1))
    case measure=>omega
    case rel=>exact⟨i2+1,by go_num,by omega,by omega, .inl (by omega),Nat.le_refl _,Ab ((Aa hLi).grown rfl),Ab ⟨(Aa hGi).os,(Aa hGi).tape,(Aa hGi).output,(Aa hGi).size,(Aa hGi).block⟩,Ab (by rw[←Aa HE];exact Aa hSi)⟩
   ·have hstop: ¬i2<=j∨ltN dk[i2]! dk[a]! = !true:=by
     by_cases e:i2<=j
     ·right
      cases h:ltN dk[i2]! dk[a]!
      all_goals first|rfl|exact absurd ⟨e,h⟩ hcont
     ·exact .inl e
    have HSA:=Ab hstop
    have HI2:Hid (scanUp (fun x=>ltN x dk[a]!) dk j i=i2):=Ab (by rw[←Aa hSi];exact Pp _ _ _ _ (by rcases hstop with h|h;exact .inl h;exact .inr (by simp[h])))
    clear hstop hSi
    have hle:=Classical.em (i2<=j)
    rcases hle with hle|hle
    all_goals
     first
     |(obtain⟨c1,f1⟩:=(Aa hLi).cell a (by omega)
       obtain⟨c2,f2⟩:=(Aa hLi).cell i2 (by omega)
       have HC:=Ab (Ef dk[i2]! dk[a]!)
       have hr:ltN dk[i2]! dk[a]! = !true:=(by rcases Aa HSA with h|h;exact absurd hle h;exact h)
       rw[hr] at HC
       have y1:(i2:Int)<=j:=(by omega)
       have y2:(i2:Int)<d.size:=(by omega)
       clear hds hcont hr
       generalize dk[a]! =pv at c1 HC
       generalize dk[i2]! =xv at c2 HC
       go_wp2_with fail
       go_quiet ((go_at_call 204;refine(Aa HC _).mono ?_;rintro e w9 ⟨rfl,rfl⟩;exact⟨rfl,_,rfl⟩))
       clear HC c1 c2 f1 f2 y1 y2)
     |(have y0: ¬(i2:Int)<=j:=(by omega)
       clear hds hcont
       go_wp2_with fail
       have y1:decide ((i2:Int)<=j)=false:=decide_eq_false (by omega)
       go_quiet (fail)
       clear y0 y1)
     obtain⟨w1,hw1⟩: ∃w1,w1=wr.drewN nq:=⟨_,rfl⟩
     have HL1:Hid (LiesU w1 blk dk):=Ab (by rw[hw1];exact(Aa hLi).grown rfl)
     have HG1:Hid (w.grownBy w1 (some blk)):=Ab (by rw[hw1];exact Dm (Aa hGi) _)
     rw[←hw1]
     clear hw1 hLi hGi
     go_wp2_with fail
     go_loopg [11] (d.size+1) (fun g s wr=> ∃j2:Nat,s= .int .i64 j2/\j2<=j/\(i2<=j2+1∨j2=j)/\a<=j2/\j2<=g/\Hid (LiesU wr blk dk)/\Hid (w.grownBy wr (some blk))/\Hid (scanDown (fun x=> !ltN x dk[a]!) dk i2 j2=scanDown (fun x=> !ltN x dk[a]!) dk i2 j))
     case atStart=>exact⟨j,rfl,Nat.le_refl _, .inr rfl,by omega,by have:=Aa hsk;omega,HL1,HG1,Ab rfl⟩
     case round=>
      obtain⟨j2,rfl,hj1,hj2,hj3,hgj,hLj,hGj,hSj⟩:=hrel
      have hds:=Aa hsk
      by_cases hcont2:i2<=j2/\ltN dk[j2]! dk[a]! =false
      ·obtain⟨c1,f1⟩:=(Aa hLj).cell a (by omega)
       obtain⟨c2,f2⟩:=(Aa hLj).cell j2 (by omega)
       have HE:=Ab (Zch (fun x=> !ltN x dk[a]!) dk i2 j2 hcont2.1 (by omega) (by simp[hcont2.2]))
       have HC:=Ab (Ef dk[j2]! dk[a]!)
       have y1:(i2:Int)<=j2:=by omega
       have y2:(j2:Int)<d.size:=by omega
       have y3:IntKind.i64.wrap ((j2:Int) - 1)=((j2 - 1:Nat):Int):=by rw[IntKind.wrap_i64];omega
       rw[hcont2.2] at HC
       have hle2:=hcont2.1
       clear hds hcont2
       generalize dk[a]! =pv at c1 HC
       generalize dk[j2]! =xv at c2 HC
       go_wp2_with fail
       go_quiet ((go_at_call 204;refine(Aa HC _).mono ?_;rintro e w9 ⟨rfl,rfl⟩;exact⟨rfl,_,rfl⟩))
       go_wp2
       go_roundg (j2 - 1)
       case measure=>omega
       case rel=>exact⟨j2 - 1,by go_num,by omega, .inl (by omega),by omega,Nat.le_refl _,Ab ((Aa hLj).grown rfl),Ab ⟨(Aa hGj).os,(Aa hGj).tape,(Aa hGj).output,(Aa hGj).size,(Aa hGj).block⟩,Ab (by rw[←Aa HE];exact Aa hSj)⟩
      ·have hstop2: ¬i2<=j2∨ltN dk[j2]! dk[a]! = !false:=by
        by_cases e:i2<=j2
        ·right
         cases h:ltN dk[j2]! dk[a]!
         all_goals first|rfl|exact absurd ⟨e,h⟩ hcont2
        ·exact .inl e
       have HJ2:Hid (scanDown (fun x=> !ltN x dk[a]!) dk i2 j=j2):=Ab (by rw[←Aa hSj];exact Vj _ _ _ _ (by rcases hstop2 with h|h;exact .inl h;exact .inr (by simp[h])))
       clear hSj
       by_cases hle2:i2<=j2
       ·obtain⟨c1,f1⟩:=(Aa hLj).cell a (by omega)
        obtain⟨c2,f2⟩:=(Aa hLj).cell j2 (by omega)
        have hrB:ltN dk[j2]! dk[a]! = !false:=by rcases hstop2 with h|h;exact absurd hle2 h;exact h
        have hij:i2≠j2:=by
         intro e
         rcases Aa HSA with h|h
         ·omega
         ·rw[e] at h
          rw[hrB] at h
          simp at h
        have HC:=Ab (Ef dk[j2]! dk[a]!)
        rw[hrB] at HC
        have y1:(i2:Int)<=j2:=by omega
        have y2:(j2:Int)<d.size:=by omega
        clear hcont2 hstop2 hrB
        have HDS:=Ab hds
        clear hds
        generalize dk[a]! =pv at c1 HC
        generalize hxv:dk[j2]! =xv at c2 HC
        clear hxv
        go_wp2_with fail
        go_quiet ((go_at_call 204;refine(Aa HC _).mono ?_;rintro e w9 ⟨rfl,rfl⟩;exact⟨rfl,_,rfl⟩))
        clear HC c1 c2 f1 f2
        have HLw:Hid (LiesU (wr.drewN nq) blk dk):=Ab ((Aa hLj).grown rfl)
        have HGw:Hid (w.grownBy (wr.drewN nq) (some blk)):=Ab (Dm (Aa hGj) _)
        obtain⟨wx,hwx⟩: ∃wx,wx=wr.drewN nq:=⟨_,rfl⟩
        rw[←hwx] at HLw HGw ⊢
        clear hwx hLj hGj
        have hds:=Aa HDS
        obtain⟨c1,f1⟩:=(Aa HLw).cell i2 (by omega)
        obtain⟨c2,f2⟩:=(Aa HLw).cell j2 (by omega)
        have HSw:=Ab (fun n=>((Aa HLw).drew n).swap i2 j2 (by omega) (by omega))
        have HRS:Hid (res=((partLoop ltN a (i2+1) (j2 - 1) (swp dk i2 j2)).1,false,swp (partLoop ltN a (i2+1) (j2 - 1) (swp dk i2 j2)).2 (partLoop ltN a (i2+1) (j2 - 1) (swp dk i2 j2)).1 a)):=Ab (by
         obtain⟨e1,e2,e3⟩:=Aa HIJ
         have h1:=Aa HI2
         have h2:=Aa HJ2
         rw[e1,e2,e3] at h1
         rw[e2,e3] at h2
         rw[Aa HD i2 j2 h1 h2,if_neg (by omega),e3])
        have HSZ:=Ab (show (swp dk i2 j2).size=d.size by rw[Dn];exact Aa hsk)
        have y3:(i2:Int)<d.size:=by omega
        have y4:IntKind.i64.wrap ((i2:Int)+1)=((i2+1:Nat):Int):=by rw[IntKind.wrap_i64];omega
        have y5:IntKind.i64.wrap ((j2:Int) - 1)=((j2 - 1:Nat):Int):=by rw[IntKind.wrap_i64];omega
        have n2: ¬j2=i2:=fun e=>hij e.symm
        clear hds
        generalize dk[i2]! =xv at *
        generalize dk[j2]! =yv at *
        first
        |(exfalso;omega)
        |(go_wp2_with fail
          go_region
          all_goals go_wp2_with fail
          generalize hrl:partLoop ltN a (i2+1) (j2 - 1) (swp dk i2 j2)=rl at *
          have HRL:=Ab hrl
          clear hrl
          go_loopg [10,11] (d.size+1) (fun g s10 s11 wr=> ∃(i j:Nat) (dk:Array Nat),s10= .int .i64 i/\s11= .int .i64 j/\a+1<=i/\i<=b/\j<b/\a<=j/\d.size+1 - i<=g/\Hid (dk.size=d.size)/\Hid (LiesU wr blk dk)/\Hid (w.grownBy wr (some blk))/\Hid (partLoop ltN a i j dk=rl))
          case atStart=>exact⟨i2+1,j2 - 1,swp dk i2 j2,by go_num,by go_num,by omega,by omega,by omega,by omega,by omega,HSZ,Ab (LiesU.grown (Aa HSw 0) rfl),Ab (have g0:=Bt (Aa HGw) (Dq wx blk i2 j2 _ _);⟨g0.os,g0.tape,g0.output,g0.size,g0.block⟩),HRL⟩
          case round=>
          clear HRL HSw HSZ c1 c2 f1 f2 HLw HGw y3 y4 y5 n2 HI2 HJ2 HSA hij HD HIJ HDS
          clear hsk
          clear hai hib hjb haj
          obtain⟨i,j,dk,rfl,rfl,hai,hib,hjb,haj,hg,hsk,hLk,hGk,hOk⟩:=hrel
          obtain⟨w0,hw0⟩: ∃w0,w0=wr:=⟨wr,rfl⟩
          subst hw0
          go_wp2_with fail
          go_loopg [10] (d.size+1) (fun g s wr=> ∃i2:Nat,s= .int .i64 i2/\i<=i2/\i2<=d.size/\(i2<=j+1∨i2=i)/\d.size+1 - i2<=g/\Hid (LiesU wr blk dk)/\Hid (w.grownBy wr (some blk))/\Hid (scanUp (fun x=>ltN x dk[a]!) dk j i2=scanUp (fun x=>ltN x dk[a]!) dk j i))
          case atStart=>exact⟨i,rfl,Nat.le_refl _,by omega, .inr rfl,by omega,hLk,hGk,Ab rfl⟩
          case round=>
           obtain⟨i2,rfl,hi1,hi2,hi3,hgi,hLi,hGi,hSi⟩:=hrel
           have hds:=Aa hsk
           by_cases hcont:i2<=j/\ltN dk[i2]! dk[a]! =true
           ·obtain⟨c1,f1⟩:=(Aa hLi).cell a (by omega)
            obtain⟨c2,f2⟩:=(Aa hLi).cell i2 (by omega)
            have HE:=Ab (ZcR (fun x=>ltN x dk[a]!) dk j i2 hcont.1 (by simp[hcont.2]))
            have HC:=Ab (Ef dk[i2]! dk[a]!)
            have y1:(i2:Int)<=j:=by omega
            have y2:(i2:Int)<d.size:=by omega
            have y3:IntKind.i64.wrap ((i2:Int)+1)=((i2+1:Nat):Int):=by rw[IntKind.wrap_i64];omega
            rw[hcont.2] at HC
            have hle:=hcont.1
            clear hds hcont
            generalize dk[a]! =pv at *
            generalize dk[i2]! =xv at *
            go_wp2_with fail
            go_quiet ((go_at_call 204;refine(Aa HC _).mono ?_;rintro e w9 ⟨rfl,rfl⟩;exact⟨rfl,_,rfl⟩))
            go_wp2
            go_roundg (d.size+1 - (i2+1))
            case measure=>omega
            case rel=>exact⟨i2+1,by go_num,by omega,by omega, .inl (by omega),Nat.le_refl _,Ab ((Aa hLi).grown rfl),Ab ⟨(Aa hGi).os,(Aa hGi).tape,(Aa hGi).output,(Aa hGi).size,(Aa hGi).block⟩,Ab (by rw[←Aa HE];exact Aa hSi)⟩
           ·have hstop: ¬i2<=j∨ltN dk[i2]! dk[a]! = !true:=by
             by_cases e:i2<=j
             ·right
              cases h:ltN dk[i2]! dk[a]!
              all_goals first|rfl|exact absurd ⟨e,h⟩ hcont
             ·exact .inl e
            have HSA:=Ab hstop
            have HI2:Hid (scanUp (fun x=>ltN x dk[a]!) dk j i=i2):=Ab (by rw[←Aa hSi];exact Pp _ _ _ _ (by rcases hstop with h|h;exact .inl h;exact .inr (by simp[h])))
            clear hstop hSi
            have hle:=Classical.em (i2<=j)
            rcases hle with hle|hle
            all_goals
             first
             |(obtain⟨c1,f1⟩:=(Aa hLi).cell a (by omega)
               obtain⟨c2,f2⟩:=(Aa hLi).cell i2 (by omega)
               have HC:=Ab (Ef dk[i2]! dk[a]!)
               have hr:ltN dk[i2]! dk[a]! = !true:=(by rcases Aa HSA with h|h;exact absurd hle h;exact h)
               rw[hr] at HC
               have y1:(i2:Int)<=j:=(by omega)
               have y2:(i2:Int)<d.size:=(by omega)
               clear hds hcont hr
               generalize dk[a]! =pv at c1 HC
               generalize dk[i2]! =xv at c2 HC
               go_wp2_with fail
               go_quiet ((go_at_call 204;refine(Aa HC _).mono ?_;rintro e w9 ⟨rfl,rfl⟩;exact⟨rfl,_,rfl⟩))
               clear HC c1 c2 f1 f2 y1 y2)
             |(have y0: ¬(i2:Int)<=j:=(by omega)
               clear hds hcont
               go_wp2_with fail
               have y1:decide ((i2:Int)<=j)=false:=decide_eq_false (by omega)
               go_quiet (fail)
               clear y0 y1)
             obtain⟨w1,hw1⟩: ∃w1,w1=wr.drewN nq:=⟨_,rfl⟩
             have HL1:Hid (LiesU w1 blk dk):=Ab (by rw[hw1];exact(Aa hLi).grown rfl)
             have HG1:Hid (w.grownBy w1 (some blk)):=Ab (by rw[hw1];exact Dm (Aa hGi) _)
             rw[←hw1]
             clear hw1 hLi hGi
             go_wp2_with fail
             go_loopg [11] (d.size+1) (fun g s wr=> ∃j2:Nat,s= .int .i64 j2/\j2<=j/\(i2<=j2+1∨j2=j)/\a<=j2/\j2<=g/\Hid (LiesU wr blk dk)/\Hid (w.grownBy wr (some blk))/\Hid (scanDown (fun x=> !ltN x dk[a]!) dk i2 j2=scanDown (fun x=> !ltN x dk[a]!) dk i2 j))
             case atStart=>exact⟨j,rfl,Nat.le_refl _, .inr rfl,by omega,by have:=Aa hsk;omega,HL1,HG1,Ab rfl⟩
             case round=>
              obtain⟨j2,rfl,hj1,hj2,hj3,hgj,hLj,hGj,hSj⟩:=hrel
              have hds:=Aa hsk
              by_cases hcont2:i2<=j2/\ltN dk[j2]! dk[a]! =false
              ·obtain⟨c1,f1⟩:=(Aa hLj).cell a (by omega)
               obtain⟨c2,f2⟩:=(Aa hLj).cell j2 (by omega)
               have HE:=Ab (Zch (fun x=> !ltN x dk[a]!) dk i2 j2 hcont2.1 (by omega) (by simp[hcont2.2]))
               have HC:=Ab (Ef dk[j2]! dk[a]!)
               have y1:(i2:Int)<=j2:=by omega
               have y2:(j2:Int)<d.size:=by omega
               have y3:IntKind.i64.wrap ((j2:Int) - 1)=((j2 - 1:Nat):Int):=by rw[IntKind.wrap_i64];omega
               rw[hcont2.2] at HC
               have hle2:=hcont2.1
               clear hds hcont2
               generalize dk[a]! =pv at c1 HC
               generalize dk[j2]! =xv at c2 HC
               go_wp2_with fail
               go_quiet ((go_at_call 204;refine(Aa HC _).mono ?_;rintro e w9 ⟨rfl,rfl⟩;exact⟨rfl,_,rfl⟩))
               go_wp2
               go_roundg (j2 - 1)
               case measure=>omega
               case rel=>exact⟨j2 - 1,by go_num,by omega, .inl (by omega),by omega,Nat.le_refl _,Ab ((Aa hLj).grown rfl),Ab ⟨(Aa hGj).os,(Aa hGj).tape,(Aa hGj).output,(Aa hGj).size,(Aa hGj).block⟩,Ab (by rw[←Aa HE];exact Aa hSj)⟩
              ·have hstop2: ¬i2<=j2∨ltN dk[j2]! dk[a]! = !false:=by
                by_cases e:i2<=j2
                ·right
                 cases h:ltN dk[j2]! dk[a]!
                 all_goals first|rfl|exact absurd ⟨e,h⟩ hcont2
                ·exact .inl e
               have HJ2:Hid (scanDown (fun x=> !ltN x dk[a]!) dk i2 j=j2):=Ab (by rw[←Aa hSj];exact Vj _ _ _ _ (by rcases hstop2 with h|h;exact .inl h;exact .inr (by simp[h])))
               clear hSj
               by_cases hle2:i2<=j2
               ·obtain⟨c1,f1⟩:=(Aa hLj).cell a (by omega)
                obtain⟨c2,f2⟩:=(Aa hLj).cell j2 (by omega)
                have hrB:ltN dk[j2]! dk[a]! = !false:=by rcases hstop2 with h|h;exact absurd hle2 h;exact h
                have hij:i2≠j2:=by
                 intro e
                 rcases Aa HSA with h|h
                 ·omega
                 ·rw[e] at h
                  rw[hrB] at h
                  simp at h
                have HC:=Ab (Ef dk[j2]! dk[a]!)
                rw[hrB] at HC
                have y1:(i2:Int)<=j2:=by omega
                have y2:(j2:Int)<d.size:=by omega
                clear hcont2 hstop2 hrB
                have HDS:=Ab hds
                clear hds
                generalize dk[a]! =pv at c1 HC
                generalize hxv:dk[j2]! =xv at c2 HC
                clear hxv
                go_wp2_with fail
                go_quiet ((go_at_call 204;refine(Aa HC _).mono ?_;rintro e w9 ⟨rfl,rfl⟩;exact⟨rfl,_,rfl⟩))
                clear HC c1 c2 f1 f2
                have HLw:Hid (LiesU (wr.drewN nq) blk dk):=Ab ((Aa hLj).grown rfl)
                have HGw:Hid (w.grownBy (wr.drewN nq) (some blk)):=Ab (Dm (Aa hGj) _)
                obtain⟨wx,hwx⟩: ∃wx,wx=wr.drewN nq:=⟨_,rfl⟩
                rw[←hwx] at HLw HGw ⊢
                clear hwx hLj hGj
                have hds:=Aa HDS
                obtain⟨c1,f1⟩:=(Aa HLw).cell i2 (by omega)
                obtain⟨c2,f2⟩:=(Aa HLw).cell j2 (by omega)
                have HSw:=Ab (fun n=>((Aa HLw).drew n).swap i2 j2 (by omega) (by omega))
                have HE:=Ab (pl_eq a i j dk i2 j2 (Aa HI2) (Aa HJ2))
                rw[if_neg (by omega)] at HE
                have y3:(i2:Int)<d.size:=by omega
                have y4:IntKind.i64.wrap ((i2:Int)+1)=((i2+1:Nat):Int):=by rw[IntKind.wrap_i64];omega
                have y5:IntKind.i64.wrap ((j2:Int) - 1)=((j2 - 1:Nat):Int):=by rw[IntKind.wrap_i64];omega
                have n2: ¬j2=i2:=fun e=>hij e.symm
                clear hds
                generalize dk[i2]! =xv at *
                generalize dk[j2]! =yv at *
                first
                |(exfalso;omega)
                |(go_wp2_with fail
                  go_region
                  all_goals go_wp2
                  go_roundg (d.size+1 - (i2+1))
                  case measure=>omega
                  case rel=>exact⟨i2+1,j2 - 1,swp dk i2 j2,by go_num,by go_num,by omega,by omega,by omega,by omega,Nat.le_refl _,Ab (by rw[Dn];exact Aa hsk),Ab (LiesU.grown (Aa HSw 0) rfl),Ab (have g0:=Bt (Aa HGw) (Dq wx blk i2 j2 _ _);⟨g0.os,g0.tape,g0.output,g0.size,g0.block⟩),Ab (by rw[←Aa HE];exact Aa hOk)⟩)
               ·have y0: ¬(i2:Int)<=j2:=by omega
                clear hcont2 hstop2
                go_wp2_with fail
                have y1:decide ((i2:Int)<=j2)=false:=decide_eq_false (by omega)
                go_quiet (fail)
                have HLw:Hid (LiesU (wr.drewN nq) blk dk):=Ab ((Aa hLj).grown rfl)
                have HGw:Hid (w.grownBy (wr.drewN nq) (some blk)):=Ab (Dm (Aa hGj) _)
                obtain⟨wx,hwx⟩: ∃wx,wx=wr.drewN nq:=⟨_,rfl⟩
                rw[←hwx] at HLw HGw ⊢
                clear hwx hLj hGj y1
                have y2:(j2:Int)<i2:=by omega
                obtain⟨c1,f1⟩:=(Aa HLw).cell a (by have:=Aa hsk;omega)
                obtain⟨c2,f2⟩:=(Aa HLw).cell j2 (by have:=Aa hsk;omega)
                have HSw:=Ab (fun n=>((Aa HLw).drew n).swap j2 a (by have:=Aa hsk;omega) (by have:=Aa hsk;omega))
                have y6:(j2:Int)<d.size:=by omega
                have HRES:Hid (res=(j2,false,swp dk j2 a)):=Ab (by rw[Aa HRS,←Aa hOk,pl_eq a i j dk i2 j2 (Aa HI2) (Aa HJ2),if_pos (by omega)])
                have hcf:=Classical.em (j2=a)
                rcases hcf with hcf|hcf
                all_goals
                 first
                 |(subst hcf
                   generalize dk[j2]! =xv at *
                   go_wp2_with fail
                   go_region
                   all_goals go_wp2
                   go_ret2
                   rw[Aa HRES]
                   exact⟨rfl,LiesU.grown (Aa HSw 0) rfl,(have g0:=Bt (Aa HGw) (Dq wx blk j2 j2 (.int .u32 (xv:Nat)) (.int .u32 (xv:Nat)));⟨g0.os,g0.tape,g0.output,g0.size,g0.block⟩)⟩)
                 |(have n3: ¬a=j2:=(fun e=>hcf e.symm)
                   generalize dk[j2]! =xv at *
                   generalize dk[a]! =pv at *
                   go_wp2_with fail
                   go_region
                   all_goals go_wp2
                   go_ret2
                   rw[Aa HRES]
                   exact⟨rfl,LiesU.grown (Aa HSw 0) rfl,(have g0:=Bt (Aa HGw) (Dq wx blk j2 a (.int .u32 (pv:Nat)) (.int .u32 (xv:Nat)));⟨g0.os,g0.tape,g0.output,g0.size,g0.block⟩)⟩))
       ·have y0: ¬(i2:Int)<=j2:=by omega
        clear hcont2 hstop2
        go_wp2_with fail
        have y1:decide ((i2:Int)<=j2)=false:=decide_eq_false (by omega)
        go_quiet (fail)
        have HLw:Hid (LiesU (wr.drewN nq) blk dk):=Ab ((Aa hLj).grown rfl)
        have HGw:Hid (w.grownBy (wr.drewN nq) (some blk)):=Ab (Dm (Aa hGj) _)
        obtain⟨wx,hwx⟩: ∃wx,wx=wr.drewN nq:=⟨_,rfl⟩
        rw[←hwx] at HLw HGw ⊢
        clear hwx hLj hGj y1
        have y2:(j2:Int)<i2:=by omega
        obtain⟨c1,f1⟩:=(Aa HLw).cell a (by have:=Aa hsk;omega)
        obtain⟨c2,f2⟩:=(Aa HLw).cell j2 (by have:=Aa hsk;omega)
        have HSw:=Ab (fun n=>((Aa HLw).drew n).swap j2 a (by have:=Aa hsk;omega) (by have:=Aa hsk;omega))
        have y6:(j2:Int)<d.size:=by omega
        have HRES:Hid (res=(j2,true,swp dk j2 a)):=Ab (by
         obtain⟨e1,e2,e3⟩:=Aa HIJ
         have h1:=Aa HI2
         have h2:=Aa HJ2
         rw[e1,e2,e3] at h1
         rw[e2,e3] at h2
         rw[Aa HD i2 j2 h1 h2,if_pos (by omega),e3])
        have hcf:=Classical.em (j2=a)
        rcases hcf with hcf|hcf
        all_goals
         first
         |(subst hcf
           generalize dk[j2]! =xv at *
           go_wp2_with fail
           go_region
           all_goals go_wp2
           go_ret2
           rw[Aa HRES]
           exact⟨rfl,LiesU.grown (Aa HSw 0) rfl,(have g0:=Bt (Aa HGw) (Dq wx blk j2 j2 (.int .u32 (xv:Nat)) (.int .u32 (xv:Nat)));⟨g0.os,g0.tape,g0.output,g0.size,g0.block⟩)⟩)
         |(have n3: ¬a=j2:=(fun e=>hcf e.symm)
           generalize dk[j2]! =xv at *
           generalize dk[a]! =pv at *
           go_wp2_with fail
           go_region
           all_goals go_wp2
           go_ret2
           rw[Aa HRES]
           exact⟨rfl,LiesU.grown (Aa HSw 0) rfl,(have g0:=Bt (Aa HGw) (Dq wx blk j2 a (.int .u32 (pv:Nat)) (.int .u32 (xv:Nat)));⟨g0.os,g0.tape,g0.output,g0.size,g0.block⟩)⟩)
