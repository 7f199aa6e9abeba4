import Derived.Test.YthcmamjpfigdfaaGreatDoorQl
import Derived.Sort.LotC
import Derived.Sort.LotA
import Derived.Sort.LotB
import Derived.Sort.LotD3
import Derived.Deep.CutRange
set_option linter.all false
namespace Go.Proofs.YthcmamjpfigdfaaGreatDoor
set_option maxRecDepth 100000
set_option maxHeartbeats 0
section
open Go Go.Proofs Go.RowKit Go.Sort
theorem ZeZ (p:Nat->Bool) (d:Array Nat) (j i:Nat) (h:i<=j) (hp:p d[i]! =true):scanUp p d j i=scanUp p d j (i+1):=by
 rw[scanUp,if_pos (by simp[h,hp])]
theorem Uv (p:Nat->Bool) (d:Array Nat) (j i:Nat) (h: ¬i<=j∨p d[i]! =false):scanUp p d j i=i:=by
 rw[scanUp,if_neg]
 rcases h with h|h
 ·simp[h]
 ·simp[h]
theorem Zd1 (p:Nat->Bool) (d:Array Nat) (i j:Nat) (h:i<=j)  (hp:p d[j]! =true) (h0:0<i:=by omega):scanDown p d i j=scanDown p d i (j - 1):=by
 cases j with
 |zero=>omega
 |succ j=>rw[scanDown,if_pos (by simp[h,hp])];rfl
theorem Zae (p:Nat->Bool) (d:Array Nat) (i j:Nat) (h: ¬i<=j∨p d[j]! =false):scanDown p d i j=j:=by
 cases j with
 |zero=>rfl
 |succ j=>
  rw[scanDown,if_neg]
  rcases h with h|h
  ·simp[h]
  ·simp[h]
theorem su_ge (p:Nat->Bool) (d:Array Nat) (j:Nat): ∀(n i:Nat),j+1 - i<=n->i<=scanUp p d j i/\(i<=j+1->scanUp p d j i<=j+1):=by
 intro n
 induction n with
 |zero=>intro i h;rw[Uv p d j i (.inl (by omega))];omega
 |succ n ih=>
  intro i h
  by_cases hc:i<=j/\p d[i]! =true
  ·rw[ZeZ p d j i hc.1 hc.2]
   have:=ih (i+1) (by omega)
   omega
  ·rw[Uv p d j i (by by_cases e:i<=j;exact .inr (by cases h:p d[i]!;rfl;exact absurd ⟨e,h⟩ hc);exact .inl e)]
   omega
theorem sdn_le (p:Nat->Bool) (d:Array Nat) (i:Nat): ∀j,scanDown p d i j<=j/\(i<=j+1->i<=scanDown p d i j+1):=by
 intro j
 induction j with
 |zero=>simp[scanDown]
 |succ j ih=>
  unfold scanDown
  split
  ·rename_i h
   simp at h
   omega
  ·omega
theorem pl_eq (a i j:Nat) (d:Array Nat) (i2 j2:Nat) (h1:scanUp (fun x=>ltN x d[a]!) d j i=i2) (h2:scanDown (fun x=> !ltN x d[a]!) d i2 j=j2):
  partLoop ltN a i j d=if i2>j2 then (j2,d) else partLoop ltN a (i2+1) (j2 - 1) (swp d i2 j2):=by
 have g1:=(su_ge (fun x=>ltN x d[a]!) d j _ i (Nat.le_refl _)).1
 have g2:=(sdn_le (fun x=> !ltN x d[a]!) d i2 j).1
 rw[h1] at g1
 rw[h2] at g2
 rw[partLoop]
 simp only[h1,h2]
 split
 ·rfl
 ·rw[dif_pos (by omega)]
theorem pe_eq (a i j:Nat) (d:Array Nat) (i2 j2:Nat) (h1:scanUp (fun x=> !ltN d[a]! x) d j i=i2) (h2:scanDown (fun x=>ltN d[a]! x) d i2 j=j2):
  partEqLoop ltN a i j d=if i2>j2 then (i2,d) else partEqLoop ltN a (i2+1) (j2 - 1) (swp d i2 j2):=by
 have g1:=(su_ge (fun x=> !ltN d[a]! x) d j _ i (Nat.le_refl _)).1
 have g2:=(sdn_le (fun x=>ltN d[a]! x) d i2 j).1
 rw[h1] at g1
 rw[h2] at g2
 rw[partEqLoop]
 simp only[h1,h2]
 split
 ·rfl
 ·rw[dif_pos (by omega)]
theorem parteq68 (blk cap a b p:Nat) (d:Array Nat) (w:World) (hL:LiesU w blk d) (hap:a<=p) (hpb:p<b) (hb:b<=d.size) (hsz:d.size<=1500000):
  Calls Tryz.prog 241 #[.slice (some ⟨blk,0,none⟩) d.size cap, .int .i64 a, .int .i64 b, .int .i64 p] w fun e w'=>e= .returned (.int .i64 ((partitionEqual ltN d a b p).1:Nat))/\LiesU w' blk (partitionEqual ltN d a b p).2/\w.grownBy w' (some blk):=by
 have HL:=Ab hL
 obtain⟨c1,f1⟩:=hL.cell a (by omega)
 obtain⟨c2,f2⟩:=hL.cell p (by omega)
 have HSw:=Ab (fun n=>(hL.drew n).swap a p (by omega) (by omega))
 clear hL
 have z1:(a:Int)<d.size:=by omega
 have z2:(p:Int)<d.size:=by omega
 have z3:IntKind.i64.wrap ((a:Int)+1)=((a+1:Nat):Int):=by rw[IntKind.wrap_i64];omega
 have z4:IntKind.i64.wrap ((b:Int) - 1)=((b - 1:Nat):Int):=by rw[IntKind.wrap_i64];omega
 have HD:Hid (partitionEqual ltN d a b p=partEqLoop ltN a (a+1) (b - 1) (swp d a p)):=Ab rfl
 have HZ:=Ab (Dl d a p)
 generalize partitionEqual ltN d a b p=res at *
 generalize swp d a p=d1 at *
 have hcase:=Classical.em (a=p)
 rcases hcase with hne|hne
 all_goals
  first
  |(subst hne
    generalize d[a]! =x at *
    go_enter Tryz.func241,Tryz.ntmps241
    go_wp2_with fail
    go_region
    all_goals go_wp2_with fail
    obtain⟨X,hX⟩: ∃X,X=((w.setCell ⟨blk,a,none⟩ (.int .u32 (x:Nat))).setCell ⟨blk,a,none⟩ (.int .u32 (x:Nat))).drew:=⟨_,rfl⟩
    rw[←hX]
    have HLX:Hid (LiesU X blk d1):=Ab (by rw[hX];exact LiesU.grown (Aa HSw 0) rfl)
    have HGX:Hid (w.grownBy X (some blk)):=Ab (by rw[hX];exact(have g0:=Dt w blk a a _ _;⟨g0.os,g0.tape,g0.output,g0.size,g0.block⟩))
    clear hX)
  |(have n1: ¬p=a:=(by omega)
    generalize d[a]! =x at *
    generalize d[p]! =y at *
    go_enter Tryz.func241,Tryz.ntmps241
    go_wp2_with fail
    go_region
    all_goals go_wp2_with fail
    obtain⟨X,hX⟩: ∃X,X=((w.setCell ⟨blk,a,none⟩ (.int .u32 (y:Nat))).setCell ⟨blk,p,none⟩ (.int .u32 (x:Nat))).drew:=⟨_,rfl⟩
    rw[←hX]
    have HLX:Hid (LiesU X blk d1):=Ab (by rw[hX];exact LiesU.grown (Aa HSw 0) rfl)
    have HGX:Hid (w.grownBy X (some blk)):=Ab (by rw[hX];exact(have g0:=Dt w blk a p _ _;⟨g0.os,g0.tape,g0.output,g0.size,g0.block⟩))
    clear hX)
  clear c1 c2 f1 f2 HSw
  go_loopg [9,10] (d.size+1) (fun g s9 s10 wr=> ∃(i j:Nat) (dk:Array Nat),s9= .int .i64 i/\s10= .int .i64 j/\a+1<=i/\i<=b/\j<b/\a<=j/\d.size+1 - i<=g/\Hid (dk.size=d.size)/\Hid (LiesU wr blk dk)/\Hid (w.grownBy wr (some blk))/\Hid (partEqLoop ltN a i j dk=res))
  case atStart=>exact⟨a+1,b - 1,d1,by go_num,rfl,Nat.le_refl _,by omega,by omega,by omega,by omega,HZ,HLX,HGX,Ab (Aa HD).symm⟩
  case round=>
   obtain⟨i,j,dk,rfl,rfl,hai,hib,hjb,haj,hg,hsk,hLk,hGk,hOk⟩:=hrel
   obtain⟨w0,hw0⟩: ∃w0,w0=wr:=⟨wr,rfl⟩
   subst hw0
   go_wp2_with fail
   go_loopg [9] (d.size+1) (fun g s wr=> ∃i2:Nat,s= .int .i64 i2/\i<=i2/\i2<=d.size/\(i2<=j+1∨i2=i)/\d.size+1 - i2<=g/\Hid (LiesU wr blk dk)/\Hid (w.grownBy wr (some blk))/\Hid (scanUp (fun x=> !ltN dk[a]! x) dk j i2=scanUp (fun x=> !ltN dk[a]! x) dk j i))
   case atStart=>exact⟨i,rfl,Nat.le_refl _,by omega, .inr rfl,by omega,hLk,hGk,Ab rfl⟩
   case round=>
    obtain⟨i2,rfl,hi1,hi2,hi3,hgi,hLi,hGi,hSi⟩:=hrel
    have hds:=Aa hsk
    by_cases hcont:i2<=j/\ltN dk[a]! dk[i2]! =false
    ·obtain⟨c1,f1⟩:=(Aa hLi).cell a (by omega)
     obtain⟨c2,f2⟩:=(Aa hLi).cell i2 (by omega)
     have HE:=Ab (ZeZ (fun x=> !ltN dk[a]! x) dk j i2 hcont.1 (by simp[hcont.2]))
     have HC:=Ab (Em dk[a]! dk[i2]!)
     have y1:(i2:Int)<=j:=by omega
     have y2:(i2:Int)<d.size:=by omega
     have y3:IntKind.i64.wrap ((i2:Int)+1)=((i2+1:Nat):Int):=by rw[IntKind.wrap_i64];omega
     rw[hcont.2] at HC
     have hle:=hcont.1
     clear hds hcont
     generalize dk[a]! =pv at *
     generalize dk[i2]! =xv at *
     go_wp2_with fail
     go_quiet ((go_at_call 240;refine(Aa HC _).mono ?_;rintro e w9 ⟨rfl,rfl⟩;exact⟨rfl,_,rfl⟩))
     go_wp2
     go_roundg (d.size+1 - (i2+1))
     case measure=>omega
     case rel=>exact⟨i2+1,by go_num,by omega,by omega, .inl (by omega),Nat.le_refl _,Ab ((Aa hLi).grown rfl),Ab ⟨(Aa hGi).os,(Aa hGi).tape,(Aa hGi).output,(Aa hGi).size,(Aa hGi).block⟩,Ab (by rw[←Aa HE];exact Aa hSi)⟩
    ·have hstop: ¬i2<=j∨ltN dk[a]! dk[i2]! = !false:=by
      by_cases e:i2<=j
      ·right
       cases h:ltN dk[a]! dk[i2]!
       all_goals first|rfl|exact absurd ⟨e,h⟩ hcont
      ·exact .inl e
     have HSA:=Ab hstop
     have HI2:Hid (scanUp (fun x=> !ltN dk[a]! x) dk j i=i2):=Ab (by rw[←Aa hSi];exact Uv _ _ _ _ (by rcases hstop with h|h;exact .inl h;exact .inr (by simp[h])))
     clear hstop hSi
     have hle:=Classical.em (i2<=j)
     rcases hle with hle|hle
     all_goals
      first
      |(obtain⟨c1,f1⟩:=(Aa hLi).cell a (by omega)
        obtain⟨c2,f2⟩:=(Aa hLi).cell i2 (by omega)
        have HC:=Ab (Em dk[a]! dk[i2]!)
        have hr:ltN dk[a]! dk[i2]! = !false:=(by rcases Aa HSA with h|h;exact absurd hle h;exact h)
        rw[hr] at HC
        have y1:(i2:Int)<=j:=(by omega)
        have y2:(i2:Int)<d.size:=(by omega)
        clear hds hcont hr
        generalize dk[a]! =pv at c1 HC
        generalize dk[i2]! =xv at c2 HC
        go_wp2_with fail
        go_quiet ((go_at_call 240;refine(Aa HC _).mono ?_;rintro e w9 ⟨rfl,rfl⟩;exact⟨rfl,_,rfl⟩))
        clear HC c1 c2 f1 f2 y1 y2)
      |(have y0: ¬(i2:Int)<=j:=(by omega)
        clear hds hcont
        go_wp2_with fail
        have y1:decide ((i2:Int)<=j)=false:=decide_eq_false (by omega)
        go_quiet (fail)
        clear y0 y1)
      obtain⟨w1,hw1⟩: ∃w1,w1=wr.drewN nq:=⟨_,rfl⟩
      have HL1:Hid (LiesU w1 blk dk):=Ab (by rw[hw1];exact(Aa hLi).grown rfl)
      have HG1:Hid (w.grownBy w1 (some blk)):=Ab (by rw[hw1];exact Dj (Aa hGi) _)
      rw[←hw1]
      clear hw1 hLi hGi
      go_wp2_with fail
      go_loopg [10] (d.size+1) (fun g s wr=> ∃j2:Nat,s= .int .i64 j2/\j2<=j/\(i2<=j2+1∨j2=j)/\a<=j2/\j2<=g/\Hid (LiesU wr blk dk)/\Hid (w.grownBy wr (some blk))/\Hid (scanDown (fun x=>ltN dk[a]! x) dk i2 j2=scanDown (fun x=>ltN dk[a]! x) dk i2 j))
      case atStart=>exact⟨j,rfl,Nat.le_refl _, .inr rfl,by omega,by have:=Aa hsk;omega,HL1,HG1,Ab rfl⟩
      case round=>
       obtain⟨j2,rfl,hj1,hj2,hj3,hgj,hLj,hGj,hSj⟩:=hrel
       have hds:=Aa hsk
       by_cases hcont2:i2<=j2/\ltN dk[a]! dk[j2]! =true
       ·obtain⟨c1,f1⟩:=(Aa hLj).cell a (by omega)
        obtain⟨c2,f2⟩:=(Aa hLj).cell j2 (by omega)
        have HE:=Ab (Zd1 (fun x=>ltN dk[a]! x) dk i2 j2 hcont2.1 (by simp[hcont2.2]))
        have HC:=Ab (Em dk[a]! dk[j2]!)
        have y1:(i2:Int)<=j2:=by omega
        have y2:(j2:Int)<d.size:=by omega
        have y3:IntKind.i64.wrap ((j2:Int) - 1)=((j2 - 1:Nat):Int):=by rw[IntKind.wrap_i64];omega
        rw[hcont2.2] at HC
        have hle2:=hcont2.1
        clear hds hcont2
        generalize dk[a]! =pv at c1 HC
        generalize dk[j2]! =xv at c2 HC
        go_wp2_with fail
        go_quiet ((go_at_call 240;refine(Aa HC _).mono ?_;rintro e w9 ⟨rfl,rfl⟩;exact⟨rfl,_,rfl⟩))
        go_wp2
        go_roundg (j2 - 1)
        case measure=>omega
        case rel=>exact⟨j2 - 1,by go_num,by omega, .inl (by omega),by omega,Nat.le_refl _,Ab ((Aa hLj).grown rfl),Ab ⟨(Aa hGj).os,(Aa hGj).tape,(Aa hGj).output,(Aa hGj).size,(Aa hGj).block⟩,Ab (by rw[←Aa HE];exact Aa hSj)⟩
       ·have hstop2: ¬i2<=j2∨ltN dk[a]! dk[j2]! = !true:=by
         by_cases e:i2<=j2
         ·right
          cases h:ltN dk[a]! dk[j2]!
          all_goals first|rfl|exact absurd ⟨e,h⟩ hcont2
         ·exact .inl e
        have HJ2:Hid (scanDown (fun x=>ltN dk[a]! x) dk i2 j=j2):=Ab (by rw[←Aa hSj];exact Zae _ _ _ _ (by rcases hstop2 with h|h;exact .inl h;exact .inr (by simp[h])))
        clear hSj
        by_cases hle2:i2<=j2
        ·obtain⟨c1,f1⟩:=(Aa hLj).cell a (by omega)
         obtain⟨c2,f2⟩:=(Aa hLj).cell j2 (by omega)
         have hrB:ltN dk[a]! dk[j2]! = !true:=by rcases hstop2 with h|h;exact absurd hle2 h;exact h
         have hij:i2≠j2:=by
          intro e
          rcases Aa HSA with h|h
          ·omega
          ·rw[e] at h
           rw[hrB] at h
           simp at h
         have HC:=Ab (Em dk[a]! dk[j2]!)
         rw[hrB] at HC
         have y1:(i2:Int)<=j2:=by omega
         have y2:(j2:Int)<d.size:=by omega
         clear hcont2 hstop2 hrB
         have HDS:=Ab hds
         clear hds
         generalize dk[a]! =pv at c1 HC
         generalize hxv:dk[j2]! =xv at c2 HC
         clear hxv
         go_wp2_with fail
         go_quiet ((go_at_call 240;refine(Aa HC _).mono ?_;rintro e w9 ⟨rfl,rfl⟩;exact⟨rfl,_,rfl⟩))
         clear HC c1 c2 f1 f2
         have HLw:Hid (LiesU (wr.drewN nq) blk dk):=Ab ((Aa hLj).grown rfl)
         have HGw:Hid (w.grownBy (wr.drewN nq) (some blk)):=Ab (Dj (Aa hGj) _)
         obtain⟨wx,hwx⟩: ∃wx,wx=wr.drewN nq:=⟨_,rfl⟩
         rw[←hwx] at HLw HGw ⊢
         clear hwx hLj hGj
         have hds:=Aa HDS
         obtain⟨c1,f1⟩:=(Aa HLw).cell i2 (by omega)
         obtain⟨c2,f2⟩:=(Aa HLw).cell j2 (by omega)
         have HSw:=Ab (fun n=>((Aa HLw).drew n).swap i2 j2 (by omega) (by omega))
         have HE:=Ab (pe_eq a i j dk i2 j2 (Aa HI2) (Aa HJ2))
         rw[if_neg (by omega)] at HE
         have y3:(i2:Int)<d.size:=by omega
         have y4:IntKind.i64.wrap ((i2:Int)+1)=((i2+1:Nat):Int):=by rw[IntKind.wrap_i64];omega
         have y5:IntKind.i64.wrap ((j2:Int) - 1)=((j2 - 1:Nat):Int):=by rw[IntKind.wrap_i64];omega
         have n2: ¬j2=i2:=fun e=>hij e.symm
         clear hds
         generalize dk[i2]! =xv at *
         generalize dk[j2]! =yv at *
         first
         |(exfalso;omega)
         |(go_wp2_with fail
           go_region
           all_goals go_wp2
           go_roundg (d.size+1 - (i2+1))
           case measure=>omega
           case rel=>exact⟨i2+1,j2 - 1,swp dk i2 j2,by go_num,by go_num,by omega,by omega,by omega,by omega,Nat.le_refl _,Ab (by rw[Dl];exact Aa hsk),Ab (LiesU.grown (Aa HSw 0) rfl),Ab (have g0:=Bx (Aa HGw) (Dt wx blk i2 j2 _ _);⟨g0.os,g0.tape,g0.output,g0.size,g0.block⟩),Ab (by rw[←Aa HE];exact Aa hOk)⟩)
        ·have y0: ¬(i2:Int)<=j2:=by omega
         clear hcont2 hstop2
         go_wp2_with fail
         have y1:decide ((i2:Int)<=j2)=false:=decide_eq_false (by omega)
         go_quiet (fail)
         have HLw:Hid (LiesU (wr.drewN nq) blk dk):=Ab ((Aa hLj).grown rfl)
         have HGw:Hid (w.grownBy (wr.drewN nq) (some blk)):=Ab (Dj (Aa hGj) _)
         obtain⟨wx,hwx⟩: ∃wx,wx=wr.drewN nq:=⟨_,rfl⟩
         rw[←hwx] at HLw HGw ⊢
         clear hwx hLj hGj y1
         have y2:(j2:Int)<i2:=by omega
         have HE:=Ab (pe_eq a i j dk i2 j2 (Aa HI2) (Aa HJ2))
         rw[if_pos (by omega)] at HE
         go_wp2
         go_ret
         rw[←Aa hOk,Aa HE]
         exact⟨rfl,Aa HLw,Aa HGw⟩
theorem part_eq (d:Array Nat) (a b p i2 j2:Nat) (d1:Array Nat) (h0:d1=swp d a p) (h1:scanUp (fun x=>ltN x d1[a]!) d1 (b - 1) (a+1)=i2) (h2:scanDown (fun x=> !ltN x d1[a]!) d1 i2 (b - 1)=j2):
  partition ltN d a b p=if i2>j2 then (j2,true,swp d1 j2 a) else ((partLoop ltN a (i2+1) (j2 - 1) (swp d1 i2 j2)).1,false,swp (partLoop ltN a (i2+1) (j2 - 1) (swp d1 i2 j2)).2 (partLoop ltN a (i2+1) (j2 - 1) (swp d1 i2 j2)).1 a):=by
 subst h0
 unfold partition
 simp only[h1,h2]
theorem part69 (blk cap a b p:Nat) (d:Array Nat) (w:World) (hL:LiesU w blk d) (hap:a<=p) (hpb:p<b) (hb:b<=d.size) (hsz:d.size<=1500000):
  Calls Tryz.prog 242 #[.slice (some ⟨blk,0,none⟩) d.size cap, .int .i64 a, .int .i64 b, .int .i64 p] w fun e w'=>e= .returned (.tuple #[.int .i64 ((partition ltN d a b p).1:Nat), .bool (partition ltN d a b p).2.1])/\LiesU w' blk (partition ltN d a b p).2.2/\w.grownBy w' (some blk):=by
 obtain⟨c1,f1⟩:=hL.cell a (by omega)
 obtain⟨c2,f2⟩:=hL.cell p (by omega)
 have HSw:=Ab (fun n=>(hL.drew n).swap a p (by omega) (by omega))
 clear hL
 have z1:(a:Int)<d.size:=by omega
 have z2:(p:Int)<d.size:=by omega
 have z3:IntKind.i64.wrap ((a:Int)+1)=((a+1:Nat):Int):=by rw[IntKind.wrap_i64];omega
 have z4:IntKind.i64.wrap ((b:Int) - 1)=((b - 1:Nat):Int):=by rw[IntKind.wrap_i64];omega
 have HD:=Ab (fun i2 j2=>part_eq d a b p i2 j2 (swp d a p) rfl)
 have HZ:=Ab (Dl d a p)
 generalize partition ltN d a b p=res at *
 generalize swp d a p=d1 at *
 have hcase:=Classical.em (a=p)
 rcases hcase with hne|hne
 all_goals
  first
  |(subst hne
    generalize d[a]! =x at *
    go_enter Tryz.func242,Tryz.ntmps242
    go_wp2_with fail
    go_region
    all_goals go_wp2_with fail
    obtain⟨wr,hX⟩: ∃X,X=((w.setCell ⟨blk,a,none⟩ (.int .u32 (x:Nat))).setCell ⟨blk,a,none⟩ (.int .u32 (x:Nat))).drew:=⟨_,rfl⟩
    rw[←hX]
    have hLk:Hid (LiesU wr blk d1):=Ab (by rw[hX];exact LiesU.grown (Aa HSw 0) rfl)
    have hGk:Hid (w.grownBy wr (some blk)):=Ab (by rw[hX];exact(have g0:=Dt w blk a a _ _;⟨g0.os,g0.tape,g0.output,g0.size,g0.block⟩))
    clear hX)
  |(have n1: ¬p=a:=(by omega)
    generalize d[a]! =x at *
    generalize d[p]! =y at *
    go_enter Tryz.func242,Tryz.ntmps242
    go_wp2_with fail
    go_region
    all_goals go_wp2_with fail
    obtain⟨wr,hX⟩: ∃X,X=((w.setCell ⟨blk,a,none⟩ (.int .u32 (y:Nat))).setCell ⟨blk,p,none⟩ (.int .u32 (x:Nat))).drew:=⟨_,rfl⟩
    rw[←hX]
    have hLk:Hid (LiesU wr blk d1):=Ab (by rw[hX];exact LiesU.grown (Aa HSw 0) rfl)
    have hGk:Hid (w.grownBy wr (some blk)):=Ab (by rw[hX];exact(have g0:=Dt w blk a p _ _;⟨g0.os,g0.tape,g0.output,g0.size,g0.block⟩))
    clear hX)
  clear c1 c2 f1 f2 HSw
  obtain⟨i,hi⟩: ∃i,i=a+1:=⟨_,rfl⟩
  obtain⟨j,hj⟩: ∃j,j=b - 1:=⟨_,rfl⟩
  obtain⟨dk,hdk⟩: ∃dk,dk=d1:=⟨_,rfl⟩
  have ei:(a:Int)+1=(i:Int):=by omega
  try rw[ei]
  rw[←hj]
  rw[←hdk] at hLk HZ
  have hsk:=HZ
  have hai:a+1<=i:=by omega
  have hib:i<=b:=by omega
  have hjb:j<b:=by omega
  have haj:a<=j:=by omega
  have HIJ:=Ab (And.intro hi (And.intro hj hdk))
  clear hi hj hdk z3 z4 ei
  obtain⟨w0,hw0⟩: ∃w0,w0=wr:=⟨wr,rfl⟩
  subst hw0
  go_wp2_with fail
  go_loopg [10] (d.size+1) (fun g s wr=> ∃i2:Nat,s= .int .i64 i2/\i<=i2/\i2<=d.size/\(i2<=j+1∨i2=i)/\d.size+1 - i2<=g/\Hid (LiesU wr blk dk)/\Hid (w.grownBy wr (some blk))/\Hid (scanUp (fun x=>ltN x dk[a]!) dk j i2=scanUp (fun x=>ltN x dk[a]!) dk j i))
  case atStart=>exact⟨i,rfl,Nat.le_refl _,by omega, .inr rfl,by omega,hLk,hGk,Ab rfl⟩
  case round=>
   obtain⟨i2,rfl,hi1,hi2,hi3,hgi,hLi,hGi,hSi⟩:=hrel
   have hds:=Aa hsk
   by_cases hcont:i2<=j/\ltN dk[i2]! dk[a]! =true
   ·obtain⟨c1,f1⟩:=(Aa hLi).cell a (by omega)
    obtain⟨c2,f2⟩:=(Aa hLi).cell i2 (by omega)
    have HE:=Ab (ZeZ (fun x=>ltN x dk[a]!) dk j i2 hcont.1 (by simp[hcont.2]))
    have HC:=Ab (Em dk[i2]! dk[a]!)
    have y1:(i2:Int)<=j:=by omega
    have y2:(i2:Int)<d.size:=by omega
    have y3:IntKind.i64.wrap ((i2:Int)+1)=((i2+1:Nat):Int):=by rw[IntKind.wrap_i64];omega
    rw[hcont.2] at HC
    have hle:=hcont.1
    clear hds hcont
    generalize dk[a]! =pv at *
    generalize dk[i2]! =xv at *
    go_wp2_with fail
    go_quiet ((go_at_call 240;refine(Aa HC _).mono ?_;rintro e w9 ⟨rfl,rfl⟩;exact⟨rfl,_,rfl⟩))
    go_wp2
    go_roundg (d.size+1 - (i2+1))
    case measure=>omega
    case rel=>exact⟨i2+1,by go_num,by omega,by omega, .inl (by omega),Nat.le_refl _,Ab ((Aa hLi).grown rfl),Ab ⟨(Aa hGi).os,(Aa hGi).tape,(Aa hGi).output,(Aa hGi).size,(Aa hGi).block⟩,Ab (by rw[←Aa HE];exact Aa hSi)⟩
   ·have hstop: ¬i2<=j∨ltN dk[i2]! dk[a]! = !true:=by
     by_cases e:i2<=j
     ·right
      cases h:ltN dk[i2]! dk[a]!
      all_goals first|rfl|exact absurd ⟨e,h⟩ hcont
     ·exact .inl e
    have HSA:=Ab hstop
    have HI2:Hid (scanUp (fun x=>ltN x dk[a]!) dk j i=i2):=Ab (by rw[←Aa hSi];exact Uv _ _ _ _ (by rcases hstop with h|h;exact .inl h;exact .inr (by simp[h])))
    clear hstop hSi
    have hle:=Classical.em (i2<=j)
    rcases hle with hle|hle
    all_goals
     first
     |(obtain⟨c1,f1⟩:=(Aa hLi).cell a (by omega)
       obtain⟨c2,f2⟩:=(Aa hLi).cell i2 (by omega)
       have HC:=Ab (Em dk[i2]! dk[a]!)
       have hr:ltN dk[i2]! dk[a]! = !true:=(by rcases Aa HSA with h|h;exact absurd hle h;exact h)
       rw[hr] at HC
       have y1:(i2:Int)<=j:=(by omega)
       have y2:(i2:Int)<d.size:=(by omega)
       clear hds hcont hr
       generalize dk[a]! =pv at c1 HC
       generalize dk[i2]! =xv at c2 HC
       go_wp2_with fail
       go_quiet ((go_at_call 240;refine(Aa HC _).mono ?_;rintro e w9 ⟨rfl,rfl⟩;exact⟨rfl,_,rfl⟩))
       clear HC c1 c2 f1 f2 y1 y2)
     |(have y0: ¬(i2:Int)<=j:=(by omega)
       clear hds hcont
       go_wp2_with fail
       have y1:decide ((i2:Int)<=j)=false:=decide_eq_false (by omega)
       go_quiet (fail)
       clear y0 y1)
     obtain⟨w1,hw1⟩: ∃w1,w1=wr.drewN nq:=⟨_,rfl⟩
     have HL1:Hid (LiesU w1 blk dk):=Ab (by rw[hw1];exact(Aa hLi).grown rfl)
     have HG1:Hid (w.grownBy w1 (some blk)):=Ab (by rw[hw1];exact Dj (Aa hGi) _)
     rw[←hw1]
     clear hw1 hLi hGi
     go_wp2_with fail
     go_loopg [11] (d.size+1) (fun g s wr=> ∃j2:Nat,s= .int .i64 j2/\j2<=j/\(i2<=j2+1∨j2=j)/\a<=j2/\j2<=g/\Hid (LiesU wr blk dk)/\Hid (w.grownBy wr (some blk))/\Hid (scanDown (fun x=> !ltN x dk[a]!) dk i2 j2=scanDown (fun x=> !ltN x dk[a]!) dk i2 j))
     case atStart=>exact⟨j,rfl,Nat.le_refl _, .inr rfl,by omega,by have:=Aa hsk;omega,HL1,HG1,Ab rfl⟩
     case round=>
      obtain⟨j2,rfl,hj1,hj2,hj3,hgj,hLj,hGj,hSj⟩:=hrel
      have hds:=Aa hsk
      by_cases hcont2:i2<=j2/\ltN dk[j2]! dk[a]! =false
      ·obtain⟨c1,f1⟩:=(Aa hLj).cell a (by omega)
       obtain⟨c2,f2⟩:=(Aa hLj).cell j2 (by omega)
       have HE:=Ab (Zd1 (fun x=> !ltN x dk[a]!) dk i2 j2 hcont2.1 (by simp[hcont2.2]))
       have HC:=Ab (Em dk[j2]! dk[a]!)
       have y1:(i2:Int)<=j2:=by omega
       have y2:(j2:Int)<d.size:=by omega
       have y3:IntKind.i64.wrap ((j2:Int) - 1)=((j2 - 1:Nat):Int):=by rw[IntKind.wrap_i64];omega
       rw[hcont2.2] at HC
       have hle2:=hcont2.1
       clear hds hcont2
       generalize dk[a]! =pv at c1 HC
       generalize dk[j2]! =xv at c2 HC
       go_wp2_with fail
       go_quiet ((go_at_call 240;refine(Aa HC _).mono ?_;rintro e w9 ⟨rfl,rfl⟩;exact⟨rfl,_,rfl⟩))
       go_wp2
       go_roundg (j2 - 1)
       case measure=>omega
       case rel=>exact⟨j2 - 1,by go_num,by omega, .inl (by omega),by omega,Nat.le_refl _,Ab ((Aa hLj).grown rfl),Ab ⟨(Aa hGj).os,(Aa hGj).tape,(Aa hGj).output,(Aa hGj).size,(Aa hGj).block⟩,Ab (by rw[←Aa HE];exact Aa hSj)⟩
      ·have hstop2: ¬i2<=j2∨ltN dk[j2]! dk[a]! = !false:=by
        by_cases e:i2<=j2
        ·right
         cases h:ltN dk[j2]! dk[a]!
         all_goals first|rfl|exact absurd ⟨e,h⟩ hcont2
        ·exact .inl e
       have HJ2:Hid (scanDown (fun x=> !ltN x dk[a]!) dk i2 j=j2):=Ab (by rw[←Aa hSj];exact Zae _ _ _ _ (by rcases hstop2 with h|h;exact .inl h;exact .inr (by simp[h])))
       clear hSj
       by_cases hle2:i2<=j2
       ·obtain⟨c1,f1⟩:=(Aa hLj).cell a (by omega)
        obtain⟨c2,f2⟩:=(Aa hLj).cell j2 (by omega)
        have hrB:ltN dk[j2]! dk[a]! = !false:=by rcases hstop2 with h|h;exact absurd hle2 h;exact h
        have hij:i2≠j2:=by
         intro e
         rcases Aa HSA with h|h
         ·omega
         ·rw[e] at h
          rw[hrB] at h
          simp at h
        have HC:=Ab (Em dk[j2]! dk[a]!)
        rw[hrB] at HC
        have y1:(i2:Int)<=j2:=by omega
        have y2:(j2:Int)<d.size:=by omega
        clear hcont2 hstop2 hrB
        have HDS:=Ab hds
        clear hds
        generalize dk[a]! =pv at c1 HC
        generalize hxv:dk[j2]! =xv at c2 HC
        clear hxv
        go_wp2_with fail
        go_quiet ((go_at_call 240;refine(Aa HC _).mono ?_;rintro e w9 ⟨rfl,rfl⟩;exact⟨rfl,_,rfl⟩))
        clear HC c1 c2 f1 f2
        have HLw:Hid (LiesU (wr.drewN nq) blk dk):=Ab ((Aa hLj).grown rfl)
        have HGw:Hid (w.grownBy (wr.drewN nq) (some blk)):=Ab (Dj (Aa hGj) _)
        obtain⟨wx,hwx⟩: ∃wx,wx=wr.drewN nq:=⟨_,rfl⟩
        rw[←hwx] at HLw HGw ⊢
        clear hwx hLj hGj
        have hds:=Aa HDS
        obtain⟨c1,f1⟩:=(Aa HLw).cell i2 (by omega)
        obtain⟨c2,f2⟩:=(Aa HLw).cell j2 (by omega)
        have HSw:=Ab (fun n=>((Aa HLw).drew n).swap i2 j2 (by omega) (by omega))
        have HRS:Hid (res=((partLoop ltN a (i2+1) (j2 - 1) (swp dk i2 j2)).1,false,swp (partLoop ltN a (i2+1) (j2 - 1) (swp dk i2 j2)).2 (partLoop ltN a (i2+1) (j2 - 1) (swp dk i2 j2)).1 a)):=Ab (by
         obtain⟨e1,e2,e3⟩:=Aa HIJ
         have h1:=Aa HI2
         have h2:=Aa HJ2
         rw[e1,e2,e3] at h1
         rw[e2,e3] at h2
         rw[Aa HD i2 j2 h1 h2,if_neg (by omega),e3])
        have HSZ:=Ab (show (swp dk i2 j2).size=d.size by rw[Dl];exact Aa hsk)
        have y3:(i2:Int)<d.size:=by omega
        have y4:IntKind.i64.wrap ((i2:Int)+1)=((i2+1:Nat):Int):=by rw[IntKind.wrap_i64];omega
        have y5:IntKind.i64.wrap ((j2:Int) - 1)=((j2 - 1:Nat):Int):=by rw[IntKind.wrap_i64];omega
        have n2: ¬j2=i2:=fun e=>hij e.symm
        clear hds
        generalize dk[i2]! =xv at *
        generalize dk[j2]! =yv at *
        first
        |(exfalso;omega)
        |(go_wp2_with fail
          go_region
          all_goals go_wp2_with fail
          generalize hrl:partLoop ltN a (i2+1) (j2 - 1) (swp dk i2 j2)=rl at *
          have HRL:=Ab hrl
          clear hrl
          go_loopg [10,11] (d.size+1) (fun g s10 s11 wr=> ∃(i j:Nat) (dk:Array Nat),s10= .int .i64 i/\s11= .int .i64 j/\a+1<=i/\i<=b/\j<b/\a<=j/\d.size+1 - i<=g/\Hid (dk.size=d.size)/\Hid (LiesU wr blk dk)/\Hid (w.grownBy wr (some blk))/\Hid (partLoop ltN a i j dk=rl))
          case atStart=>exact⟨i2+1,j2 - 1,swp dk i2 j2,by go_num,by go_num,by omega,by omega,by omega,by omega,by omega,HSZ,Ab (LiesU.grown (Aa HSw 0) rfl),Ab (have g0:=Bx (Aa HGw) (Dt wx blk i2 j2 _ _);⟨g0.os,g0.tape,g0.output,g0.size,g0.block⟩),HRL⟩
          case round=>
          clear HRL HSw HSZ c1 c2 f1 f2 HLw HGw y3 y4 y5 n2 HI2 HJ2 HSA hij HD HIJ HDS
          clear hsk
          clear hai hib hjb haj
          obtain⟨i,j,dk,rfl,rfl,hai,hib,hjb,haj,hg,hsk,hLk,hGk,hOk⟩:=hrel
          obtain⟨w0,hw0⟩: ∃w0,w0=wr:=⟨wr,rfl⟩
          subst hw0
          go_wp2_with fail
          go_loopg [10] (d.size+1) (fun g s wr=> ∃i2:Nat,s= .int .i64 i2/\i<=i2/\i2<=d.size/\(i2<=j+1∨i2=i)/\d.size+1 - i2<=g/\Hid (LiesU wr blk dk)/\Hid (w.grownBy wr (some blk))/\Hid (scanUp (fun x=>ltN x dk[a]!) dk j i2=scanUp (fun x=>ltN x dk[a]!) dk j i))
          case atStart=>exact⟨i,rfl,Nat.le_refl _,by omega, .inr rfl,by omega,hLk,hGk,Ab rfl⟩
          case round=>
           obtain⟨i2,rfl,hi1,hi2,hi3,hgi,hLi,hGi,hSi⟩:=hrel
           have hds:=Aa hsk
           by_cases hcont:i2<=j/\ltN dk[i2]! dk[a]! =true
           ·obtain⟨c1,f1⟩:=(Aa hLi).cell a (by omega)
            obtain⟨c2,f2⟩:=(Aa hLi).cell i2 (by omega)
            have HE:=Ab (ZeZ (fun x=>ltN x dk[a]!) dk j i2 hcont.1 (by simp[hcont.2]))
            have HC:=Ab (Em dk[i2]! dk[a]!)
            have y1:(i2:Int)<=j:=by omega
            have y2:(i2:Int)<d.size:=by omega
            have y3:IntKind.i64.wrap ((i2:Int)+1)=((i2+1:Nat):Int):=by rw[IntKind.wrap_i64];omega
            rw[hcont.2] at HC
            have hle:=hcont.1
            clear hds hcont
            generalize dk[a]! =pv at *
            generalize dk[i2]! =xv at *
            go_wp2_with fail
            go_quiet ((go_at_call 240;refine(Aa HC _).mono ?_;rintro e w9 ⟨rfl,rfl⟩;exact⟨rfl,_,rfl⟩))
            go_wp2
            go_roundg (d.size+1 - (i2+1))
            case measure=>omega
            case rel=>exact⟨i2+1,by go_num,by omega,by omega, .inl (by omega),Nat.le_refl _,Ab ((Aa hLi).grown rfl),Ab ⟨(Aa hGi).os,(Aa hGi).tape,(Aa hGi).output,(Aa hGi).size,(Aa hGi).block⟩,Ab (by rw[←Aa HE];exact Aa hSi)⟩
           ·have hstop: ¬i2<=j∨ltN dk[i2]! dk[a]! = !true:=by
             by_cases e:i2<=j
             ·right
              cases h:ltN dk[i2]! dk[a]!
              all_goals first|rfl|exact absurd ⟨e,h⟩ hcont
             ·exact .inl e
            have HSA:=Ab hstop
            have HI2:Hid (scanUp (fun x=>ltN x dk[a]!) dk j i=i2):=Ab (by rw[←Aa hSi];exact Uv _ _ _ _ (by rcases hstop with h|h;exact .inl h;exact .inr (by simp[h])))
            clear hstop hSi
            have hle:=Classical.em (i2<=j)
            rcases hle with hle|hle
            all_goals
             first
             |(obtain⟨c1,f1⟩:=(Aa hLi).cell a (by omega)
               obtain⟨c2,f2⟩:=(Aa hLi).cell i2 (by omega)
               have HC:=Ab (Em dk[i2]! dk[a]!)
               have hr:ltN dk[i2]! dk[a]! = !true:=(by rcases Aa HSA with h|h;exact absurd hle h;exact h)
               rw[hr] at HC
               have y1:(i2:Int)<=j:=(by omega)
               have y2:(i2:Int)<d.size:=(by omega)
               clear hds hcont hr
               generalize dk[a]! =pv at c1 HC
               generalize dk[i2]! =xv at c2 HC
               go_wp2_with fail
               go_quiet ((go_at_call 240;refine(Aa HC _).mono ?_;rintro e w9 ⟨rfl,rfl⟩;exact⟨rfl,_,rfl⟩))
               clear HC c1 c2 f1 f2 y1 y2)
             |(have y0: ¬(i2:Int)<=j:=(by omega)
               clear hds hcont
               go_wp2_with fail
               have y1:decide ((i2:Int)<=j)=false:=decide_eq_false (by omega)
               go_quiet (fail)
               clear y0 y1)
             obtain⟨w1,hw1⟩: ∃w1,w1=wr.drewN nq:=⟨_,rfl⟩
             have HL1:Hid (LiesU w1 blk dk):=Ab (by rw[hw1];exact(Aa hLi).grown rfl)
             have HG1:Hid (w.grownBy w1 (some blk)):=Ab (by rw[hw1];exact Dj (Aa hGi) _)
             rw[←hw1]
             clear hw1 hLi hGi
             go_wp2_with fail
             go_loopg [11] (d.size+1) (fun g s wr=> ∃j2:Nat,s= .int .i64 j2/\j2<=j/\(i2<=j2+1∨j2=j)/\a<=j2/\j2<=g/\Hid (LiesU wr blk dk)/\Hid (w.grownBy wr (some blk))/\Hid (scanDown (fun x=> !ltN x dk[a]!) dk i2 j2=scanDown (fun x=> !ltN x dk[a]!) dk i2 j))
             case atStart=>exact⟨j,rfl,Nat.le_refl _, .inr rfl,by omega,by have:=Aa hsk;omega,HL1,HG1,Ab rfl⟩
             case round=>
              obtain⟨j2,rfl,hj1,hj2,hj3,hgj,hLj,hGj,hSj⟩:=hrel
              have hds:=Aa hsk
              by_cases hcont2:i2<=j2/\ltN dk[j2]! dk[a]! =false
              ·obtain⟨c1,f1⟩:=(Aa hLj).cell a (by omega)
               obtain⟨c2,f2⟩:=(Aa hLj).cell j2 (by omega)
               have HE:=Ab (Zd1 (fun x=> !ltN x dk[a]!) dk i2 j2 hcont2.1 (by simp[hcont2.2]))
               have HC:=Ab (Em dk[j2]! dk[a]!)
               have y1:(i2:Int)<=j2:=by omega
               have y2:(j2:Int)<d.size:=by omega
               have y3:IntKind.i64.wrap ((j2:Int) - 1)=((j2 - 1:Nat):Int):=by rw[IntKind.wrap_i64];omega
               rw[hcont2.2] at HC
               have hle2:=hcont2.1
               clear hds hcont2
               generalize dk[a]! =pv at c1 HC
               generalize dk[j2]! =xv at c2 HC
               go_wp2_with fail
               go_quiet ((go_at_call 240;refine(Aa HC _).mono ?_;rintro e w9 ⟨rfl,rfl⟩;exact⟨rfl,_,rfl⟩))
               go_wp2
               go_roundg (j2 - 1)
               case measure=>omega
               case rel=>exact⟨j2 - 1,by go_num,by omega, .inl (by omega),by omega,Nat.le_refl _,Ab ((Aa hLj).grown rfl),Ab ⟨(Aa hGj).os,(Aa hGj).tape,(Aa hGj).output,(Aa hGj).size,(Aa hGj).block⟩,Ab (by rw[←Aa HE];exact Aa hSj)⟩
              ·have hstop2: ¬i2<=j2∨ltN dk[j2]! dk[a]! = !false:=by
                by_cases e:i2<=j2
                ·right
                 cases h:ltN dk[j2]! dk[a]!
                 all_goals first|rfl|exact absurd ⟨e,h⟩ hcont2
                ·exact .inl e
               have HJ2:Hid (scanDown (fun x=> !ltN x dk[a]!) dk i2 j=j2):=Ab (by rw[←Aa hSj];exact Zae _ _ _ _ (by rcases hstop2 with h|h;exact .inl h;exact .inr (by simp[h])))
               clear hSj
               by_cases hle2:i2<=j2
               ·obtain⟨c1,f1⟩:=(Aa hLj).cell a (by omega)
                obtain⟨c2,f2⟩:=(Aa hLj).cell j2 (by omega)
                have hrB:ltN dk[j2]! dk[a]! = !false:=by rcases hstop2 with h|h;exact absurd hle2 h;exact h
                have hij:i2≠j2:=by
                 intro e
                 rcases Aa HSA with h|h
                 ·omega
                 ·rw[e] at h
                  rw[hrB] at h
                  simp at h
                have HC:=Ab (Em dk[j2]! dk[a]!)
                rw[hrB] at HC
                have y1:(i2:Int)<=j2:=by omega
                have y2:(j2:Int)<d.size:=by omega
                clear hcont2 hstop2 hrB
                have HDS:=Ab hds
                clear hds
                generalize dk[a]! =pv at c1 HC
                generalize hxv:dk[j2]! =xv at c2 HC
                clear hxv
                go_wp2_with fail
                go_quiet ((go_at_call 240;refine(Aa HC _).mono ?_;rintro e w9 ⟨rfl,rfl⟩;exact⟨rfl,_,rfl⟩))
                clear HC c1 c2 f1 f2
                have HLw:Hid (LiesU (wr.drewN nq) blk dk):=Ab ((Aa hLj).grown rfl)
                have HGw:Hid (w.grownBy (wr.drewN nq) (some blk)):=Ab (Dj (Aa hGj) _)
                obtain⟨wx,hwx⟩: ∃wx,wx=wr.drewN nq:=⟨_,rfl⟩
                rw[←hwx] at HLw HGw ⊢
                clear hwx hLj hGj
                have hds:=Aa HDS
                obtain⟨c1,f1⟩:=(Aa HLw).cell i2 (by omega)
                obtain⟨c2,f2⟩:=(Aa HLw).cell j2 (by omega)
                have HSw:=Ab (fun n=>((Aa HLw).drew n).swap i2 j2 (by omega) (by omega))
                have HE:=Ab (pl_eq a i j dk i2 j2 (Aa HI2) (Aa HJ2))
                rw[if_neg (by omega)] at HE
                have y3:(i2:Int)<d.size:=by omega
                have y4:IntKind.i64.wrap ((i2:Int)+1)=((i2+1:Nat):Int):=by rw[IntKind.wrap_i64];omega
                have y5:IntKind.i64.wrap ((j2:Int) - 1)=((j2 - 1:Nat):Int):=by rw[IntKind.wrap_i64];omega
                have n2: ¬j2=i2:=fun e=>hij e.symm
                clear hds
                generalize dk[i2]! =xv at *
                generalize dk[j2]! =yv at *
                first
                |(exfalso;omega)
                |(go_wp2_with fail
                  go_region
                  all_goals go_wp2
                  go_roundg (d.size+1 - (i2+1))
                  case measure=>omega
                  case rel=>exact⟨i2+1,j2 - 1,swp dk i2 j2,by go_num,by go_num,by omega,by omega,by omega,by omega,Nat.le_refl _,Ab (by rw[Dl];exact Aa hsk),Ab (LiesU.grown (Aa HSw 0) rfl),Ab (have g0:=Bx (Aa HGw) (Dt wx blk i2 j2 _ _);⟨g0.os,g0.tape,g0.output,g0.size,g0.block⟩),Ab (by rw[←Aa HE];exact Aa hOk)⟩)
               ·have y0: ¬(i2:Int)<=j2:=by omega
                clear hcont2 hstop2
                go_wp2_with fail
                have y1:decide ((i2:Int)<=j2)=false:=decide_eq_false (by omega)
                go_quiet (fail)
                have HLw:Hid (LiesU (wr.drewN nq) blk dk):=Ab ((Aa hLj).grown rfl)
                have HGw:Hid (w.grownBy (wr.drewN nq) (some blk)):=Ab (Dj (Aa hGj) _)
                obtain⟨wx,hwx⟩: ∃wx,wx=wr.drewN nq:=⟨_,rfl⟩
                rw[←hwx] at HLw HGw ⊢
                clear hwx hLj hGj y1
                have y2:(j2:Int)<i2:=by omega
                obtain⟨c1,f1⟩:=(Aa HLw).cell a (by have:=Aa hsk;omega)
                obtain⟨c2,f2⟩:=(Aa HLw).cell j2 (by have:=Aa hsk;omega)
                have HSw:=Ab (fun n=>((Aa HLw).drew n).swap j2 a (by have:=Aa hsk;omega) (by have:=Aa hsk;omega))
                have y6:(j2:Int)<d.size:=by omega
                have HRES:Hid (res=(j2,false,swp dk j2 a)):=Ab (by rw[Aa HRS,←Aa hOk,pl_eq a i j dk i2 j2 (Aa HI2) (Aa HJ2),if_pos (by omega)])
                have hcf:=Classical.em (j2=a)
                rcases hcf with hcf|hcf
                all_goals
                 first
                 |(subst hcf
                   generalize dk[j2]! =xv at *
                   go_wp2_with fail
                   go_region
                   all_goals go_wp2
                   go_ret2
                   rw[Aa HRES]
                   exact⟨rfl,LiesU.grown (Aa HSw 0) rfl,(have g0:=Bx (Aa HGw) (Dt wx blk j2 j2 (.int .u32 (xv:Nat)) (.int .u32 (xv:Nat)));⟨g0.os,g0.tape,g0.output,g0.size,g0.block⟩)⟩)
                 |(have n3: ¬a=j2:=(fun e=>hcf e.symm)
                   generalize dk[j2]! =xv at *
                   generalize dk[a]! =pv at *
                   go_wp2_with fail
                   go_region
                   all_goals go_wp2
                   go_ret2
                   rw[Aa HRES]
                   exact⟨rfl,LiesU.grown (Aa HSw 0) rfl,(have g0:=Bx (Aa HGw) (Dt wx blk j2 a (.int .u32 (pv:Nat)) (.int .u32 (xv:Nat)));⟨g0.os,g0.tape,g0.output,g0.size,g0.block⟩)⟩))
       ·have y0: ¬(i2:Int)<=j2:=by omega
        clear hcont2 hstop2
        go_wp2_with fail
        have y1:decide ((i2:Int)<=j2)=false:=decide_eq_false (by omega)
        go_quiet (fail)
        have HLw:Hid (LiesU (wr.drewN nq) blk dk):=Ab ((Aa hLj).grown rfl)
        have HGw:Hid (w.grownBy (wr.drewN nq) (some blk)):=Ab (Dj (Aa hGj) _)
        obtain⟨wx,hwx⟩: ∃wx,wx=wr.drewN nq:=⟨_,rfl⟩
        rw[←hwx] at HLw HGw ⊢
        clear hwx hLj hGj y1
        have y2:(j2:Int)<i2:=by omega
        obtain⟨c1,f1⟩:=(Aa HLw).cell a (by have:=Aa hsk;omega)
        obtain⟨c2,f2⟩:=(Aa HLw).cell j2 (by have:=Aa hsk;omega)
        have HSw:=Ab (fun n=>((Aa HLw).drew n).swap j2 a (by have:=Aa hsk;omega) (by have:=Aa hsk;omega))
        have y6:(j2:Int)<d.size:=by omega
        have HRES:Hid (res=(j2,true,swp dk j2 a)):=Ab (by
         obtain⟨e1,e2,e3⟩:=Aa HIJ
         have h1:=Aa HI2
         have h2:=Aa HJ2
         rw[e1,e2,e3] at h1
         rw[e2,e3] at h2
         rw[Aa HD i2 j2 h1 h2,if_pos (by omega),e3])
        have hcf:=Classical.em (j2=a)
        rcases hcf with hcf|hcf
        all_goals
         first
         |(subst hcf
           generalize dk[j2]! =xv at *
           go_wp2_with fail
           go_region
           all_goals go_wp2
           go_ret2
           rw[Aa HRES]
           exact⟨rfl,LiesU.grown (Aa HSw 0) rfl,(have g0:=Bx (Aa HGw) (Dt wx blk j2 j2 (.int .u32 (xv:Nat)) (.int .u32 (xv:Nat)));⟨g0.os,g0.tape,g0.output,g0.size,g0.block⟩)⟩)
         |(have n3: ¬a=j2:=(fun e=>hcf e.symm)
           generalize dk[j2]! =xv at *
           generalize dk[a]! =pv at *
           go_wp2_with fail
           go_region
           all_goals go_wp2
           go_ret2
           rw[Aa HRES]
           exact⟨rfl,LiesU.grown (Aa HSw 0) rfl,(have g0:=Bx (Aa HGw) (Dt wx blk j2 a (.int .u32 (pv:Nat)) (.int .u32 (xv:Nat)));⟨g0.os,g0.tape,g0.output,g0.size,g0.block⟩)⟩)
theorem ss_go (d:Array Nat) (b i:Nat) (h:i<b) (hr:ltN d[i]! d[i - 1]! =false):scanSorted ltN d b i=scanSorted ltN d b (i+1):=by rw[scanSorted,if_pos (by simp[h,hr])]
theorem Ze0 (d:Array Nat) (b i:Nat) (h: ¬i<b∨ltN d[i]! d[i - 1]! =true):scanSorted ltN d b i=i:=by
 rw[scanSorted,if_neg]
 rcases h with h|h
 ·simp[h]
 ·simp[h]
theorem dn_go (d:Array Nat) (j:Nat) (hj:1<=j) (hr:ltN d[j]! d[j - 1]! =true):shiftDown ltN j d=shiftDown ltN (j - 1) (swp d j (j - 1)):=by
 cases j with
 |zero=>omega
 |succ j=>
  simp only[Nat.add_sub_cancel] at hr ⊢
  rw[shiftDown,if_neg (by simp[hr])]
theorem Zfz (d:Array Nat) (j:Nat) (hr:j=0∨ltN d[j]! d[j - 1]! =false):shiftDown ltN j d=d:=by
 cases j with
 |zero=>rfl
 |succ j=>
  simp only[Nat.add_sub_cancel] at hr
  rw[shiftDown,if_pos (by rcases hr with h|h;omega;simp[h])]
theorem up_go (d:Array Nat) (b j:Nat) (hj:j<b) (hr:ltN d[j]! d[j - 1]! =true):shiftUp ltN b j d=shiftUp ltN b (j+1) (swp d j (j - 1)):=by
 rw[shiftUp,if_pos hj,if_neg (by simp[hr])]
theorem Qs (d:Array Nat) (b j:Nat) (hr: ¬j<b∨ltN d[j]! d[j - 1]! =false):shiftUp ltN b j d=d:=by
 rw[shiftUp]
 rcases hr with h|h
 ·rw[if_neg h]
 ·split
  ·rw[if_pos (by simp[h])]
  ·rfl
theorem pi_step (a b s i i2:Nat) (d:Array Nat) (h:scanSorted ltN d b i=i2):partialIns ltN a b (s+1) i d=if i2=b then (d,true) else if b - a<50 then (d,false) else
  partialIns ltN a b s i2 (if b - i2≥2 then shiftUp ltN b (i2+1) (if i2 - a≥2 then shiftDown ltN (i2 - 1) (swp d i2 (i2 - 1)) else swp d i2 (i2 - 1)) else (if i2 - a≥2 then shiftDown ltN (i2 - 1) (swp d i2 (i2 - 1)) else swp d i2 (i2 - 1))):=by
 rw[partialIns]
 simp only[h]
theorem Zf5 (blk cap a b:Nat) (d:Array Nat) (w:World) (hL:LiesU w blk d) (hab:a<b) (hb:b<=d.size) (hsz:d.size<=1500000):
  Calls Tryz.prog 239 #[.slice (some ⟨blk,0,none⟩) d.size cap, .int .i64 a, .int .i64 b] w fun e w'=>e= .returned (.bool (partialInsertionSort ltN d a b).2)/\LiesU w' blk (partialInsertionSort ltN d a b).1/\w.grownBy w' (some blk):=by
 have HL:=Ab hL
 clear hL
 have HD:Hid (partialIns ltN a b 5 (a+1) d=partialInsertionSort ltN d a b):=Ab rfl
 generalize partialInsertionSort ltN d a b=res at *
 have z0:IntKind.i64.wrap ((b:Int) - a)=((b - a:Nat):Int):=by rw[IntKind.wrap_i64];omega
 go_enter Tryz.func239,Tryz.ntmps239
 go_wp2_with fail
 go_loopg [7,8] 5 (fun g s7 s8 wr=> ∃(i jj:Nat) (dk:Array Nat),s7= .int .i64 i/\s8= .int .i64 jj/\jj<=5/\5 - jj<=g/\a+1<=i/\i<=b/\Hid (dk.size=d.size)/\Hid (LiesU wr blk dk)/\Hid (w.grownBy wr (some blk))/\Hid (partialIns ltN a b (5 - jj) i dk=res))
 case atStart=>exact⟨a+1,0,d,by go_num,rfl,by omega,by omega,by omega,by omega,Ab rfl,HL,Ab (Kl _ _),HD⟩
 case round=>
  obtain⟨i,jj,dk,rfl,rfl,hj5,hg,hai,hib,hsk,hLk,hGk,hOk⟩:=hrel
  by_cases hjl:jj<5
  ·have hjz:(jj:Int)<5:=by omega
   have HST:=Ab (fun i2 (h:scanSorted ltN dk b i=i2)=>pi_step a b (5 - (jj+1)) i i2 dk h)
   have e5:5 - jj=(5 - (jj+1))+1:=by omega
   rw[e5] at hOk
   clear e5
   go_wp2_with fail
   go_loopg [7] (b+1) (fun g s7 wr=> ∃i2:Nat,s7= .int .i64 i2/\i<=i2/\i2<=b/\b+1 - i2<=g/\Hid (LiesU wr blk dk)/\Hid (w.grownBy wr (some blk))/\Hid (scanSorted ltN dk b i2=scanSorted ltN dk b i))
   case atStart=>exact⟨i,rfl,Nat.le_refl _,hib,by omega,hLk,hGk,Ab rfl⟩
   case round=>
    obtain⟨i2,rfl,hi1,hi2,hgi,hLi,hGi,hSi⟩:=hrel
    have hds:=Aa hsk
    by_cases hlt:i2<b
    ·obtain⟨c1,f1⟩:=(Aa hLi).cell i2 (by omega)
     obtain⟨c2,f2⟩:=(Aa hLi).cell (i2 - 1) (by omega)
     have HGo:=Ab (ss_go dk b i2 hlt)
     have HSt:=Ab (fun h=>Ze0 dk b i2 (.inr h))
     have HSw:=Ab (fun n=>((Aa hLi).drew n).swap i2 (i2 - 1) (by omega) (by omega))
     have z1:(i2:Int)<b:=by omega
     have z2:(i2:Int)<d.size:=by omega
     have z3:(i2:Int) - 1<d.size:=by omega
     have z4:(0:Int)<=(i2:Int) - 1:=by omega
     have z5:((i2:Int) - 1).toNat=i2 - 1:=by omega
     have z6:IntKind.i64.wrap ((i2:Int) - 1)=(i2:Int) - 1:=by rw[IntKind.wrap_i64];omega
     have z7:IntKind.i64.wrap ((i2:Int)+1)=((i2+1:Nat):Int):=by rw[IntKind.wrap_i64];omega
     have n1: ¬i2 - 1=i2:=by omega
     have n2: ¬i2=i2 - 1:=by omega
     have HDS:=Ab hds
     clear hds
     generalize dk[i2]! =x at *
     generalize dk[i2 - 1]! =y at *
     have HC:=Ab (Em x y)
     generalize ltN x y=r at *
     cases r
     ·have HE:=Ab (Aa HGo rfl)
      clear HSt HGo HSw
      go_wp2_with fail
      go_quiet ((go_at_call 240;refine(Aa HC _).mono ?_;rintro e w9 ⟨rfl,rfl⟩;exact⟨rfl,_,rfl⟩))
      go_wp2
      go_roundg (b+1 - (i2+1))
      case measure=>omega
      case rel=>exact⟨i2+1,by go_num,by omega,by omega,Nat.le_refl _,Ab ((Aa hLi).grown rfl),Ab ⟨(Aa hGi).os,(Aa hGi).tape,(Aa hGi).output,(Aa hGi).size,(Aa hGi).block⟩,Ab (by rw[←Aa HE];exact Aa hSi)⟩
     ·have HRS:=Ab (Aa HST i2 (by rw[←Aa hSi];exact Aa HSt rfl))
      rw[if_neg (by omega)] at HRS
      clear HSt HGo HST
      go_wp2_with fail
      go_quiet ((go_at_call 240;refine(Aa HC _).mono ?_;rintro e w9 ⟨rfl,rfl⟩;exact⟨rfl,_,rfl⟩))
      have zne:decide ((i2:Int)=b)=false:=decide_eq_false (by omega)
      have zne':((i2:Int)==b)=false:=by simp;omega
      have zne2: ¬i2=b:=by omega
      by_cases h50:b - a<50
      ·rw[if_pos h50] at HRS
       have y1:((b - a:Nat):Int)<50:=by omega
       go_wp2
       go_ret
       rw[←Aa hOk,Aa HRS]
       exact⟨rfl,(Aa hLi).grown rfl,⟨(Aa hGi).os,(Aa hGi).tape,(Aa hGi).output,(Aa hGi).size,(Aa hGi).block⟩⟩
      ·rw[if_neg h50] at HRS
       have y1: ¬((b - a:Nat):Int)<50:=by omega
       have HGw:Hid (w.grownBy (wr.drewN nq) (some blk)):=Ab (Dj (Aa hGi) _)
       obtain⟨wx,hwx⟩: ∃wx,wx=wr.drewN nq:=⟨_,rfl⟩
       have HSx:Hid (LiesU ((wx.setCell ⟨blk,i2,none⟩ (.int .u32 (y:Nat))).setCell ⟨blk,i2 - 1,none⟩ (.int .u32 (x:Nat))).drew blk (swp dk i2 (i2 - 1))):=Ab (by rw[hwx];exact LiesU.grown (Aa HSw nq) rfl)
       have k1:wx.cell? ⟨blk,i2,none⟩=some (.int .u32 (x:Nat)):=by rw[hwx];exact c1
       have k2:wx.cell? ⟨blk,i2 - 1,none⟩=some (.int .u32 (y:Nat)):=by rw[hwx];exact c2
       have k3:wx.frozen? ⟨blk,i2,none⟩=false:=by rw[hwx];exact f1
       have k4:wx.frozen? ⟨blk,i2 - 1,none⟩=false:=by rw[hwx];exact f2
       rw[←hwx] at HGw ⊢
       clear hwx hLi hGi c1 c2 f1 f2 HC HSw
       have HZ2:=Ab (show (swp dk i2 (i2 - 1)).size=d.size by rw[Dl];exact Aa HDS)
       generalize swp dk i2 (i2 - 1)=dk2 at *
       obtain⟨q1,hq1⟩: ∃q,q=i2 - a:=⟨_,rfl⟩
       obtain⟨q2,hq2⟩: ∃q,q=b - i2:=⟨_,rfl⟩
       have y2:IntKind.i64.wrap ((i2:Int) - a)=(q1:Int):=by rw[IntKind.wrap_i64];omega
       have y3:IntKind.i64.wrap ((b:Int) - i2)=(q2:Int):=by rw[IntKind.wrap_i64];omega
       obtain⟨p1,hp1⟩: ∃p,p=i2 - 1:=⟨_,rfl⟩
       have hp1z:(i2:Int) - 1=(p1:Int):=by omega
       rw[←hq1,←hq2,←hp1] at HRS
       rw[←hp1] at HSx k2 k4 n1 n2
       have z6':IntKind.i64.wrap ((i2:Int) - 1)=(p1:Int):=by rw[IntKind.wrap_i64];omega
       have z3':(p1:Int)<d.size:=by omega
       have HQ:=Ab (And.intro hq1 (And.intro hq2 hp1))
       clear hq1 hq2 hp1 hp1z z5 HDS z3 z4 z6
       have HGx:Hid (w.grownBy (((wx.setCell ⟨blk,i2,none⟩ (.int .u32 (y:Nat))).setCell ⟨blk,p1,none⟩ (.int .u32 (x:Nat))).drew) (some blk)):=Ab (have g0:=Bx (Aa HGw) (Dt wx blk i2 p1 (.int .u32 (y:Nat)) (.int .u32 (x:Nat)));⟨g0.os,g0.tape,g0.output,g0.size,g0.block⟩)
       by_cases h2:q1≥2
       ·rw[if_pos h2] at HRS
        have x1:(2:Int)<=q1:=by omega
        go_wp2_with fail
        go_region
        all_goals go_wp2_with fail
        go_loopg [9] p1 (fun g s9 wr=> ∃(j:Nat) (dj:Array Nat),s9= .int .i64 j/\j<=p1/\j<=g/\Hid (dj.size=d.size)/\Hid (LiesU wr blk dj)/\Hid (w.grownBy wr (some blk))/\Hid (shiftDown ltN j dj=shiftDown ltN p1 dk2))
        case atStart=>exact⟨p1,dk2,rfl,Nat.le_refl _,Nat.le_refl _,HZ2,HSx,HGx,Ab rfl⟩
        case round=>
         obtain⟨j,dj,rfl,hjp,hgj,hsj,hLj,hGj,hSj⟩:=hrel
         clear k1 k2 k3 k4 HSx HGx HZ2
         by_cases hj0:j=0
         ·have HD3:=Ab (show shiftDown ltN p1 dk2=dj by rw[←Aa hSj,Zfz dj j (.inl hj0)])
          rw[Aa HD3] at HRS
          have x2: ¬(1:Int)<=j:=by omega
          by_cases h3:q2≥2
          ·rw[if_pos h3] at HRS
           have w1:(2:Int)<=q2:=by omega
           obtain⟨e1,he1⟩: ∃e,e=i2+1:=⟨_,rfl⟩
           have w2:IntKind.i64.wrap ((i2:Int)+1)=(e1:Int):=by rw[IntKind.wrap_i64];omega
           rw[←he1] at HRS
           have HE1:=Ab he1
           clear he1 z7
           go_wp2_with fail
           go_loopg [10] (b+1) (fun g s10 wr=> ∃(j':Nat) (dn:Array Nat),s10= .int .i64 j'/\e1<=j'/\j'<=b/\b+1 - j'<=g/\Hid (dn.size=d.size)/\Hid (LiesU wr blk dn)/\Hid (w.grownBy wr (some blk))/\Hid (shiftUp ltN b j' dn=shiftUp ltN b e1 dj))
           case atStart=>exact⟨e1,dj,rfl,Nat.le_refl _,by have:=Aa HE1;omega,by have:=Aa HE1;omega,hsj,hLj,hGj,Ab rfl⟩
           case round=>
            obtain⟨j',dn,rfl,hje,hjb,hgn,hsn,hLn,hGn,hSn⟩:=hrel
            by_cases hjl2:j'<b
            ·obtain⟨u',hu2⟩: ∃u,u=j' - 1:=⟨_,rfl⟩
             have hds:=Aa hsn
             have hee:=Aa HE1
             obtain⟨c1,f1⟩:=(Aa hLn).cell j' (by omega)
             obtain⟨c2,f2⟩:=(Aa hLn).cell u' (by omega)
             have HGo:=Ab (up_go dn b j' hjl2)
             have HSt:=Ab (fun h=>Qs dn b j' (.inr h))
             have HSw:=Ab (fun n=>((Aa hLn).drew n).swap j' u' (by omega) (by omega))
             rw[←hu2] at HGo HSt
             have v1:(j':Int)<b:=by omega
             have v2:IntKind.i64.wrap ((j':Int) - 1)=(u':Int):=by rw[IntKind.wrap_i64];omega
             have v3:(j':Int)<d.size:=by omega
             have v4:(u':Int)<d.size:=by omega
             have v5:IntKind.i64.wrap ((j':Int)+1)=((j'+1:Nat):Int):=by rw[IntKind.wrap_i64];omega
             have m3: ¬j'=u':=by omega
             have m4: ¬u'=j':=by omega
             clear hds hee hu2
             generalize dn[j']! =x2' at *
             generalize dn[u']! =y2' at *
             have HC:=Ab (Em x2' y2')
             generalize ltN x2' y2'=r at *
             cases r
             ·have HD4:=Ab (show shiftUp ltN b e1 dj=dn by rw[←Aa hSn,Aa HSt rfl])
              rw[Aa HD4] at HRS
              clear HSt HGo HSw
              go_wp2_with fail
              go_quiet ((go_at_call 240;refine(Aa HC _).mono ?_;rintro e w9 ⟨rfl,rfl⟩;exact⟨rfl,_,rfl⟩))
              go_wp2
              go_roundg (5 - (jj+1))
              case measure=>omega
              case rel=>exact⟨i2,jj+1,dn,by go_num,by go_num,by omega,Nat.le_refl _,by omega,by omega,hsn,Ab ((Aa hLn).grown rfl),Ab ⟨(Aa hGn).os,(Aa hGn).tape,(Aa hGn).output,(Aa hGn).size,(Aa hGn).block⟩,Ab (by rw[←Aa hOk,Aa HRS])⟩
             ·have HE:=Ab (Aa HGo rfl)
              clear HSt HGo
              go_wp2_with fail
              go_quiet ((go_at_call 240;refine(Aa HC _).mono ?_;rintro e w9 ⟨rfl,rfl⟩;exact⟨rfl,_,rfl⟩))
              go_wp2_with fail
              go_region
              all_goals go_wp2
              go_roundg (b+1 - (j'+1))
              case measure=>omega
              case rel=>exact⟨j'+1,swp dn j' u',by go_num,by omega,by omega,Nat.le_refl _,Ab (by rw[Dl];exact Aa hsn),Ab (Aa HSw _),Ab (Bx (Dj (Aa hGn) _) (Dt _ _ _ _ _ _)),Ab (by rw[←Aa HE];exact Aa hSn)⟩
            ·have HD4:=Ab (show shiftUp ltN b e1 dj=dn by rw[←Aa hSn,Qs dn b j' (.inl hjl2)])
             rw[Aa HD4] at HRS
             have v1: ¬(j':Int)<b:=by omega
             go_wp2
             go_roundg (5 - (jj+1))
             case measure=>omega
             case rel=>exact⟨i2,jj+1,dn,by go_num,by go_num,by omega,Nat.le_refl _,by omega,by omega,hsn,hLn,hGn,Ab (by rw[←Aa hOk,Aa HRS])⟩
          ·rw[if_neg h3] at HRS
           have w1: ¬(2:Int)<=q2:=by omega
           go_wp2
           go_roundg (5 - (jj+1))
           case measure=>omega
           case rel=>exact⟨i2,jj+1,dj,by go_num,by go_num,by omega,Nat.le_refl _,by omega,by omega,hsj,hLj,hGj,Ab (by rw[←Aa hOk,Aa HRS])⟩
         ·obtain⟨u,hu⟩: ∃u,u=j - 1:=⟨_,rfl⟩
          have hds:=Aa hsj
          have hpq:=Aa HQ
          obtain⟨c1,f1⟩:=(Aa hLj).cell j (by omega)
          obtain⟨c2,f2⟩:=(Aa hLj).cell u (by omega)
          have HGo:=Ab (dn_go dj j (by omega))
          have HSt:=Ab (fun h=>Zfz dj j (.inr h))
          have HSw:=Ab (fun n=>((Aa hLj).drew n).swap j u (by omega) (by omega))
          rw[←hu] at HGo HSt
          have x2:(1:Int)<=j:=by omega
          have x3:IntKind.i64.wrap ((j:Int) - 1)=(u:Int):=by rw[IntKind.wrap_i64];omega
          have x4:(j:Int)<d.size:=by omega
          have x5:(u:Int)<d.size:=by omega
          have m1: ¬j=u:=by omega
          have m2: ¬u=j:=by omega
          have hu':=Ab hu
          clear hds hpq hu
          generalize dj[j]! =x' at *
          generalize dj[u]! =y' at *
          have HC:=Ab (Em x' y')
          generalize ltN x' y'=r at *
          cases r
          ·have HD3:=Ab (show shiftDown ltN p1 dk2=dj by rw[←Aa hSj,Aa HSt rfl])
           rw[Aa HD3] at HRS
           clear HSt HGo HSw
           by_cases h3:q2≥2
           ·rw[if_pos h3] at HRS
            have w1:(2:Int)<=q2:=by omega
            obtain⟨e1,he1⟩: ∃e,e=i2+1:=⟨_,rfl⟩
            have w2:IntKind.i64.wrap ((i2:Int)+1)=(e1:Int):=by rw[IntKind.wrap_i64];omega
            rw[←he1] at HRS
            have HE1:=Ab he1
            clear he1 z7
            go_wp2_with fail
            go_quiet ((go_at_call 240;refine(Aa HC _).mono ?_;rintro e w9 ⟨rfl,rfl⟩;exact⟨rfl,_,rfl⟩))
            go_wp2_with fail
            go_loopg [10] (b+1) (fun g s10 wr=> ∃(j':Nat) (dn:Array Nat),s10= .int .i64 j'/\e1<=j'/\j'<=b/\b+1 - j'<=g/\Hid (dn.size=d.size)/\Hid (LiesU wr blk dn)/\Hid (w.grownBy wr (some blk))/\Hid (shiftUp ltN b j' dn=shiftUp ltN b e1 dj))
            case atStart=>exact⟨e1,dj,rfl,Nat.le_refl _,by have:=Aa HE1;omega,by have:=Aa HE1;omega,hsj,(Ab ((Aa hLj).grown rfl)),(Ab ⟨(Aa hGj).os,(Aa hGj).tape,(Aa hGj).output,(Aa hGj).size,(Aa hGj).block⟩),Ab rfl⟩
            case round=>
             obtain⟨j',dn,rfl,hje,hjb,hgn,hsn,hLn,hGn,hSn⟩:=hrel
             by_cases hjl2:j'<b
             ·obtain⟨u',hu2⟩: ∃u,u=j' - 1:=⟨_,rfl⟩
              have hds:=Aa hsn
              have hee:=Aa HE1
              obtain⟨c1,f1⟩:=(Aa hLn).cell j' (by omega)
              obtain⟨c2,f2⟩:=(Aa hLn).cell u' (by omega)
              have HGo:=Ab (up_go dn b j' hjl2)
              have HSt:=Ab (fun h=>Qs dn b j' (.inr h))
              have HSw:=Ab (fun n=>((Aa hLn).drew n).swap j' u' (by omega) (by omega))
              rw[←hu2] at HGo HSt
              have v1:(j':Int)<b:=by omega
              have v2:IntKind.i64.wrap ((j':Int) - 1)=(u':Int):=by rw[IntKind.wrap_i64];omega
              have v3:(j':Int)<d.size:=by omega
              have v4:(u':Int)<d.size:=by omega
              have v5:IntKind.i64.wrap ((j':Int)+1)=((j'+1:Nat):Int):=by rw[IntKind.wrap_i64];omega
              have m3: ¬j'=u':=by omega
              have m4: ¬u'=j':=by omega
              clear hds hee hu2
              generalize dn[j']! =x2' at *
              generalize dn[u']! =y2' at *
              have HC:=Ab (Em x2' y2')
              generalize ltN x2' y2'=r at *
              cases r
              ·have HD4:=Ab (show shiftUp ltN b e1 dj=dn by rw[←Aa hSn,Aa HSt rfl])
               rw[Aa HD4] at HRS
               clear HSt HGo HSw
               go_wp2_with fail
               go_quiet ((go_at_call 240;refine(Aa HC _).mono ?_;rintro e w9 ⟨rfl,rfl⟩;exact⟨rfl,_,rfl⟩))
               go_wp2
               go_roundg (5 - (jj+1))
               case measure=>omega
               case rel=>exact⟨i2,jj+1,dn,by go_num,by go_num,by omega,Nat.le_refl _,by omega,by omega,hsn,Ab ((Aa hLn).grown rfl),Ab ⟨(Aa hGn).os,(Aa hGn).tape,(Aa hGn).output,(Aa hGn).size,(Aa hGn).block⟩,Ab (by rw[←Aa hOk,Aa HRS])⟩
              ·have HE:=Ab (Aa HGo rfl)
               clear HSt HGo
               go_wp2_with fail
               go_quiet ((go_at_call 240;refine(Aa HC _).mono ?_;rintro e w9 ⟨rfl,rfl⟩;exact⟨rfl,_,rfl⟩))
               go_wp2_with fail
               go_region
               all_goals go_wp2
               go_roundg (b+1 - (j'+1))
               case measure=>omega
               case rel=>exact⟨j'+1,swp dn j' u',by go_num,by omega,by omega,Nat.le_refl _,Ab (by rw[Dl];exact Aa hsn),Ab (Aa HSw _),Ab (Bx (Dj (Aa hGn) _) (Dt _ _ _ _ _ _)),Ab (by rw[←Aa HE];exact Aa hSn)⟩
             ·have HD4:=Ab (show shiftUp ltN b e1 dj=dn by rw[←Aa hSn,Qs dn b j' (.inl hjl2)])
              rw[Aa HD4] at HRS
              have v1: ¬(j':Int)<b:=by omega
              go_wp2
              go_roundg (5 - (jj+1))
              case measure=>omega
              case rel=>exact⟨i2,jj+1,dn,by go_num,by go_num,by omega,Nat.le_refl _,by omega,by omega,hsn,hLn,hGn,Ab (by rw[←Aa hOk,Aa HRS])⟩
           ·rw[if_neg h3] at HRS
            have w1: ¬(2:Int)<=q2:=by omega
            go_wp2_with fail
            go_quiet ((go_at_call 240;refine(Aa HC _).mono ?_;rintro e w9 ⟨rfl,rfl⟩;exact⟨rfl,_,rfl⟩))
            go_wp2
            go_roundg (5 - (jj+1))
            case measure=>omega
            case rel=>exact⟨i2,jj+1,dj,by go_num,by go_num,by omega,Nat.le_refl _,by omega,by omega,hsj,(Ab ((Aa hLj).grown rfl)),(Ab ⟨(Aa hGj).os,(Aa hGj).tape,(Aa hGj).output,(Aa hGj).size,(Aa hGj).block⟩),Ab (by rw[←Aa hOk,Aa HRS])⟩
          ·have HE:=Ab (Aa HGo rfl)
           clear HSt HGo
           go_wp2_with fail
           go_quiet ((go_at_call 240;refine(Aa HC _).mono ?_;rintro e w9 ⟨rfl,rfl⟩;exact⟨rfl,_,rfl⟩))
           go_wp2_with fail
           go_region
           all_goals go_wp2
           go_roundg u
           case measure=>(have:=Aa hu';omega)
           case rel=>exact⟨u,swp dj j u,by go_num,by have:=Aa hu';omega,Nat.le_refl _,Ab (by rw[Dl];exact Aa hsj),Ab (Aa HSw _),Ab (Bx (Dj (Aa hGj) _) (Dt _ _ _ _ _ _)),Ab (by rw[←Aa HE];exact Aa hSj)⟩
       ·rw[if_neg h2] at HRS
        have x1: ¬(2:Int)<=q1:=by omega
        by_cases h3:q2≥2
        ·rw[if_pos h3] at HRS
         have w1:(2:Int)<=q2:=by omega
         obtain⟨e1,he1⟩: ∃e,e=i2+1:=⟨_,rfl⟩
         have w2:IntKind.i64.wrap ((i2:Int)+1)=(e1:Int):=by rw[IntKind.wrap_i64];omega
         rw[←he1] at HRS
         have HE1:=Ab he1
         clear he1 z7
         go_wp2_with fail
         go_region
         all_goals go_wp2_with fail
         go_loopg [10] (b+1) (fun g s10 wr=> ∃(j':Nat) (dn:Array Nat),s10= .int .i64 j'/\e1<=j'/\j'<=b/\b+1 - j'<=g/\Hid (dn.size=d.size)/\Hid (LiesU wr blk dn)/\Hid (w.grownBy wr (some blk))/\Hid (shiftUp ltN b j' dn=shiftUp ltN b e1 dk2))
         case atStart=>exact⟨e1,dk2,rfl,Nat.le_refl _,by have:=Aa HE1;omega,by have:=Aa HE1;omega,HZ2,HSx,HGx,Ab rfl⟩
         case round=>
          obtain⟨j',dn,rfl,hje,hjb,hgn,hsn,hLn,hGn,hSn⟩:=hrel
          by_cases hjl2:j'<b
          ·obtain⟨u',hu2⟩: ∃u,u=j' - 1:=⟨_,rfl⟩
           have hds:=Aa hsn
           have hee:=Aa HE1
           obtain⟨c1,f1⟩:=(Aa hLn).cell j' (by omega)
           obtain⟨c2,f2⟩:=(Aa hLn).cell u' (by omega)
           have HGo:=Ab (up_go dn b j' hjl2)
           have HSt:=Ab (fun h=>Qs dn b j' (.inr h))
           have HSw:=Ab (fun n=>((Aa hLn).drew n).swap j' u' (by omega) (by omega))
           rw[←hu2] at HGo HSt
           have v1:(j':Int)<b:=by omega
           have v2:IntKind.i64.wrap ((j':Int) - 1)=(u':Int):=by rw[IntKind.wrap_i64];omega
           have v3:(j':Int)<d.size:=by omega
           have v4:(u':Int)<d.size:=by omega
           have v5:IntKind.i64.wrap ((j':Int)+1)=((j'+1:Nat):Int):=by rw[IntKind.wrap_i64];omega
           have m3: ¬j'=u':=by omega
           have m4: ¬u'=j':=by omega
           clear hds hee hu2
           generalize dn[j']! =x2' at *
           generalize dn[u']! =y2' at *
           have HC:=Ab (Em x2' y2')
           generalize ltN x2' y2'=r at *
           cases r
           ·have HD4:=Ab (show shiftUp ltN b e1 dk2=dn by rw[←Aa hSn,Aa HSt rfl])
            rw[Aa HD4] at HRS
            clear HSt HGo HSw
            go_wp2_with fail
            go_quiet ((go_at_call 240;refine(Aa HC _).mono ?_;rintro e w9 ⟨rfl,rfl⟩;exact⟨rfl,_,rfl⟩))
            go_wp2
            go_roundg (5 - (jj+1))
            case measure=>omega
            case rel=>exact⟨i2,jj+1,dn,by go_num,by go_num,by omega,Nat.le_refl _,by omega,by omega,hsn,Ab ((Aa hLn).grown rfl),Ab ⟨(Aa hGn).os,(Aa hGn).tape,(Aa hGn).output,(Aa hGn).size,(Aa hGn).block⟩,Ab (by rw[←Aa hOk,Aa HRS])⟩
           ·have HE:=Ab (Aa HGo rfl)
            clear HSt HGo
            go_wp2_with fail
            go_quiet ((go_at_call 240;refine(Aa HC _).mono ?_;rintro e w9 ⟨rfl,rfl⟩;exact⟨rfl,_,rfl⟩))
            go_wp2_with fail
            go_region
            all_goals go_wp2
            go_roundg (b+1 - (j'+1))
            case measure=>omega
            case rel=>exact⟨j'+1,swp dn j' u',by go_num,by omega,by omega,Nat.le_refl _,Ab (by rw[Dl];exact Aa hsn),Ab (Aa HSw _),Ab (Bx (Dj (Aa hGn) _) (Dt _ _ _ _ _ _)),Ab (by rw[←Aa HE];exact Aa hSn)⟩
          ·have HD4:=Ab (show shiftUp ltN b e1 dk2=dn by rw[←Aa hSn,Qs dn b j' (.inl hjl2)])
           rw[Aa HD4] at HRS
           have v1: ¬(j':Int)<b:=by omega
           go_wp2
           go_roundg (5 - (jj+1))
           case measure=>omega
           case rel=>exact⟨i2,jj+1,dn,by go_num,by go_num,by omega,Nat.le_refl _,by omega,by omega,hsn,hLn,hGn,Ab (by rw[←Aa hOk,Aa HRS])⟩
        ·rw[if_neg h3] at HRS
         have w1: ¬(2:Int)<=q2:=by omega
         go_wp2_with fail
         go_region
         all_goals go_wp2
         go_roundg (5 - (jj+1))
         case measure=>omega
         case rel=>exact⟨i2,jj+1,dk2,by go_num,by go_num,by omega,Nat.le_refl _,by omega,by omega,HZ2,HSx,HGx,Ab (by rw[←Aa hOk,Aa HRS])⟩
    ·have hib2:i2=b:=by omega
     have HRS:=Ab (Aa HST i2 (by rw[←Aa hSi];exact Ze0 dk b i2 (.inl hlt)))
     rw[if_pos hib2] at HRS
     clear HST
     have z1: ¬(i2:Int)<b:=by omega
     clear hds
     go_wp2_with fail
     have z2:decide ((i2:Int)<b)=false:=decide_eq_false (by omega)
     go_quiet (fail)
     have z3:(i2:Int)=b:=by omega
     go_wp2
     go_ret
     rw[←Aa hOk,Aa HRS]
     exact⟨rfl,(Aa hLi).grown rfl,⟨(Aa hGi).os,(Aa hGi).tape,(Aa hGi).output,(Aa hGi).size,(Aa hGi).block⟩⟩
  ·have hj:jj=5:=by omega
   subst hj
   go_wp2
   go_ret
   have:=Aa hOk
   simp only[Nat.sub_self,partialIns] at this
   rw[←this]
   exact⟨rfl,Aa hLk,Aa hGk⟩
theorem ZfT:SWO ltN where
 irrefl x:=by simp[ltN]
 trans x y z h1 h2:=by simp[ltN] at *;omega
 ntrans x y z h1 h2:=by simp[ltN] at *;omega
structure Todo (a b a' b':Nat) (d d1:Array Nat):Prop where
 size:d1.size=d.size
 low:Sort.Below ltN a' b' d1
 fin: ∀R,PermIn a' b' d1 R->SortedIn ltN a' b' R->PermIn a b d R/\SortedIn ltN a b R
theorem Todo.perm {a b a' b':Nat} {d d1 d2:Array Nat} (h:Todo a b a' b' d d1) (hb:b'<=d.size) (hp:PermIn a' b' d1 d2):Todo a b a' b' d d2:=
 ⟨hp.1.trans h.size,h.low.perm (by rw[h.size];exact hb) hp,fun R h1 h2=>h.fin R (permIn_trans d1 d2 R a' b' hp h1) h2⟩
def At (w:World) (blk:Nat) (d1:Array Nat) (X:World):Prop:=LiesU X blk d1/\w.grownBy X (some blk)
theorem At.next {w X Y:World} {blk:Nat} {d1 d2:Array Nat} (h:At w blk d1 X) (hL:LiesU Y blk d2) (hg:X.grownBy Y (some blk)):At w blk d2 Y:=⟨hL,Bx h.2 hg⟩
theorem At.none {w X Y:World} {blk:Nat} {d1:Array Nat} (h:At w blk d1 X) (hg:X.grownBy Y none):At w blk d1 Y:=
 ⟨h.1.gb hg (by simp),⟨hg.os.trans h.2.os,hg.tape.trans h.2.tape,hg.output.trans h.2.output,Nat.le_trans h.2.size hg.size,fun c hc hne=>(hg.block c (Nat.lt_of_lt_of_le hc h.2.size) (by simp)).trans (h.2.block c hc hne)⟩⟩
theorem At.drew {w X:World} {blk:Nat} {d1:Array Nat} (h:At w blk d1 X) (n:Nat):At w blk d1 (X.drewN n):=⟨h.1.drew n,Dj h.2 n⟩
theorem todo_eq {a b a' b' p mid:Nat} {d d1 d4:Array Nat} (h:Todo a b a' b' d d1) (hb:b'<=d.size) (ha0:0<a') (hp1:a'<=p) (hp2:p<b') (hnl:ltN d1[a' - 1]! d1[p]! =false) (hx:partitionEqual ltN d1 a' b' p=(mid,d4)):
  a'<mid/\mid<=b'/\Todo a b mid b' d d4:=by
 obtain⟨g1,g2,g3,g4,g5⟩:=round_eq ZfT (partitionEqual_holds ltN) ha0 hp1 hp2 (by rw[h.size];exact hb) h.low hnl hx
 exact⟨g1,g2,⟨g3.trans h.size,g4,fun R h1 h2=>h.fin R (g5 R h1 h2).1 (g5 R h1 h2).2⟩⟩
theorem ZfQ {a b a' b' p mid:Nat} {ap:Bool} {d d1 d4:Array Nat} (h:Todo a b a' b' d d1) (hb:b'<=d.size) (hp1:a'<=p) (hp2:p<b') (hx:partition ltN d1 a' b' p=(mid,ap,d4)):
  a'<=mid/\mid<b'/\d4.size=d.size/\Sort.Below ltN a' mid d4/\Sort.Below ltN (mid+1) b' d4/\(∀L,PermIn a' mid d4 L->SortedIn ltN a' mid L->Todo a b (mid+1) b' d L)/\(∀L,PermIn (mid+1) b' d4 L->SortedIn ltN (mid+1) b' L->Todo a b a' mid d L):=by
 obtain⟨g1,g2,g3,g4,g5,g6,g7⟩:=round_part ZfT (partition_holds ltN) hp1 hp2 (by rw[h.size];exact hb) h.low hx
 refine⟨g1,g2,g3.trans h.size,g4,g5,fun L h1 h2=> ?_,fun L h1 h2=> ?_⟩
 ·obtain⟨k1,k2⟩:=g6 L h1 h2
  exact⟨h1.1.trans (g3.trans h.size),k1,fun R r1 r2=>h.fin R (k2 R r1 r2).1 (k2 R r1 r2).2⟩
 ·obtain⟨k1,k2⟩:=g7 L h1 h2
  exact⟨h1.1.trans (g3.trans h.size),k1,fun R r1 r2=>h.fin R (k2 R r1 r2).1 (k2 R r1 r2).2⟩
def PdqP (blk:Nat) (n:Nat):Prop:= ∀(cap a b lim:Nat) (d:Array Nat) (w:World),b - a<n->LiesU w blk d->a<=b->b<=d.size->d.size<=1500000->lim<=64->Sort.Below ltN a b d->
 Calls Tryz.prog 230 #[.slice (some ⟨blk,0,none⟩) d.size cap, .int .i64 a, .int .i64 b, .int .i64 lim] w fun e w'=>e= .returned (.tuple #[])/\ ∃d',PermIn a b d d'/\SortedIn ltN a b d'/\LiesU w' blk d'/\w.grownBy w' (some blk)
theorem pdq_step (blk n:Nat) (ih:PdqP blk n):PdqP blk (n+1):=by
 intro cap a b lim d w hn hL hab hb hsz hlim hBl
 have IH:=Ab ih
 have HL:=Ab hL
 have HB:=Ab hBl
 clear ih hL hBl
 go_enter Tryz.func230,Tryz.ntmps230
 go_wp2_with fail
 go_loopg [1,2,3,8,9] (b - a) (fun g s1 s2 s3 s8 s9 wr=> ∃(a' b' lm:Nat) (wb wp:Bool) (d1:Array Nat),s1= .int .i64 a'/\s2= .int .i64 b'/\s3= .int .i64 lm/\s8= .bool wb/\s9= .bool wp/\a'<=b'/\b'<=d.size/\b' - a'<=g/\b' - a'<=b - a/\lm<=64/\Hid (Todo a b a' b' d d1)/\Hid (At w blk d1 wr))
 case atStart=>exact⟨a,b,lim,true,true,d,rfl,rfl,rfl,rfl,rfl,hab,hb,Nat.le_refl _,Nat.le_refl _,hlim,Ab ⟨rfl,Aa HB,fun R h1 h2=>⟨h1,h2⟩⟩,Ab ⟨Aa HL,Kl _ _⟩⟩
 case round=>
  obtain⟨a',b',lm,wb,wp,d1,rfl,rfl,rfl,rfl,rfl,h1,h2,hg,h4,h5,hT,hA⟩:=hrel
  obtain⟨l,hl⟩: ∃l,l=b' - a':=⟨_,rfl⟩
  have z1:IntKind.i64.wrap ((b':Int) - a')=(l:Int):=by rw[IntKind.wrap_i64];omega
  have hds:=(Aa hT).size
  have HDS:=Ab hds
  by_cases h12:l<=12
  ·have HC:=Ab (Zdp blk cap a' b' d1 wr (Aa hA).1 h1 (by omega) (by omega))
   rw[hds] at HC
   have HP:=Ab (insertionSort_holds (lt:=ltN) ZfT d1 a' b' h1 (by omega))
   have z2:(l:Int)<=12:=by omega
   clear hds hl
   go_wp2_with fail
   refine(Aa HC).mono ?_
   rintro e w1 ⟨rfl,hL1,hG1⟩
   have HF:=Ab (And.intro hL1 (Bx (Aa hA).2 hG1))
   clear hL1 hG1
   go_wp2
   (try simp only[Exit.inBlock,Exit.then])
   refine bodyPost_ret (results_none rfl _ _ _) rfl ?_
   have hf:=(Aa hT).fin _ (Aa HP).1 (Aa HP).2
   exact⟨rfl,_,hf.1,hf.2,(Aa HF).1,(Aa HF).2⟩
  ·by_cases hl0:lm=0
   ·subst hl0
    have HC:=Ab (heap62 blk cap a' b' d1 wr (Aa hA).1 (by omega) (by omega) (by omega))
    rw[hds] at HC
    have HP:=Ab (heapSort_holds (lt:=ltN) ZfT d1 a' b' h1 (by omega))
    have z2: ¬(l:Int)<=12:=by omega
    clear hds hl
    go_wp2_with fail
    refine(Aa HC).mono ?_
    rintro e w1 ⟨rfl,hL1,hG1⟩
    have HF:=Ab (And.intro hL1 (Bx (Aa hA).2 hG1))
    clear hL1 hG1
    go_wp2
    (try simp only[Exit.inBlock,Exit.then])
    refine bodyPost_ret (results_none rfl _ _ _) rfl ?_
    have hf:=(Aa hT).fin _ (Aa HP).1 (Aa HP).2
    exact⟨rfl,_,hf.1,hf.2,(Aa HF).1,(Aa HF).2⟩
   ·have z2: ¬(l:Int)<=12:=by omega
    have z3: ¬(lm:Int)=0:=by omega
    have z3':((lm:Int)==0)=false:=by simp;omega
    have HLl:=Ab hl
    have hlen:a'+13<=b':=by omega
    clear hds hl
    go_upto_if 35 with fail
    go_cut [3] from 19 to 53 (fun s3 X=> ∃(lm2:Nat) (d2:Array Nat),s3= .int .i64 lm2/\lm2<=64/\Hid (Todo a b a' b' d d2)/\Hid (At w blk d2 X))
    case first=>
     cases wb
     ·have HC:=Ab (break63 blk cap a' b' d1 wr (Aa hA).1 (by omega) (by have:=Aa HDS;omega) (by have:=Aa HDS;omega))
      rw[Aa HDS] at HC
      have z4:IntKind.i64.wrap ((lm:Int) - 1)=((lm - 1:Nat):Int):=by rw[IntKind.wrap_i64];omega
      go_wp2_with fail
      refine(Aa HC).mono ?_
      rintro e w1 ⟨rfl,d2,hP2,hL2,hG2⟩
      have HT2:=Ab ((Aa hT).perm h2 hP2)
      have HA2:Hid (At w blk d2 w1):=Ab ⟨hL2,Bx (Aa hA).2 hG2⟩
      clear hP2 hL2 hG2
      go_wp2
      go_meet
      case rel=>exact⟨lm - 1,d2,by go_num,by omega,HT2,HA2⟩
     ·go_wp2
      go_meet
      case rel=>exact⟨lm,d1,rfl,h5,hT,hA⟩
    case rest=>
     obtain⟨lm2,d2,rfl,h6,hT2,hA2⟩:=hcut
     clear hT hA
     have HC:=Ab (pivot64 blk cap a' b' d2 wc (Aa hA2).1 (by omega) (by have:=(Aa hT2).size;omega) (by have:=(Aa hT2).size;omega))
     rw[(Aa hT2).size] at HC
     go_wp2_with fail
     refine(Aa HC).mono ?_
     rintro e w2 ⟨p,hint,rfl,hp1,hp2,hh,hG2⟩
     have hA3:=Ab ((Aa hA2).none hG2)
     clear hG2 HC hA2
     go_upto_if 50 with fail
     go_cut [11,12] from 19 to 53 (fun s11 s12 X=> ∃(p3 h3:Nat) (d3:Array Nat),s11= .int .i64 p3/\s12= .int .i64 h3/\a'<=p3/\p3<b'/\h3<=1/\Hid (Todo a b a' b' d d3)/\Hid (At w blk d3 X))
     case first=>
      by_cases hh2:hint=2
      ·subst hh2
       have HC:=Ab (Zf0 blk cap a' b' d2 w2 (Aa hA3).1 (by omega) (by have:=(Aa hT2).size;omega) (by have:=(Aa hT2).size;omega))
       rw[(Aa hT2).size] at HC
       have HT3:=Ab ((Aa hT2).perm h2 (reverseRange_holds d2 a' b' h1 (by have:=(Aa hT2).size;omega)))
       obtain⟨e1,he1⟩: ∃e,e=b' - 1:=⟨_,rfl⟩
       obtain⟨e2,he2⟩: ∃e,e=p - a':=⟨_,rfl⟩
       obtain⟨e3,he3⟩: ∃e,e=e1 - e2:=⟨_,rfl⟩
       have y1:IntKind.i64.wrap ((b':Int) - 1)=(e1:Int):=by rw[IntKind.wrap_i64];omega
       have y2:IntKind.i64.wrap ((p:Int) - a')=(e2:Int):=by rw[IntKind.wrap_i64];omega
       have y3:IntKind.i64.wrap ((e1:Int) - e2)=(e3:Int):=by rw[IntKind.wrap_i64];omega
       have hr3:=Ab (show a'<=e3/\e3<b' by omega)
       clear he1 he2 he3
       go_wp2_with fail
       refine(Aa HC).mono ?_
       rintro e w3 ⟨rfl,hL3,hG3⟩
       have HA3:=Ab ((Aa hA3).next hL3 hG3)
       clear hL3 hG3
       go_wp2
       go_meet
       case rel=>exact⟨e3,1,_,rfl,rfl,(Aa hr3).1,(Aa hr3).2,by omega,HT3,HA3⟩
      ·have y1: ¬(hint:Int)=2:=by omega
       have y2:((hint:Int)==2)=false:=by simp;omega
       go_wp2
       go_meet
       case rel=>exact⟨p,hint,d2,rfl,rfl,hp1,hp2,by omega,hT2,hA3⟩
     case rest=>
      clear hT2 hA3 hp1 hp2 hh
      obtain⟨p3,h3,d3,rfl,rfl,hq1,hq2,hh1,hT3,hA3⟩:=hcut
      obtain⟨w3,hw3⟩: ∃z,z=wc:=⟨_,rfl⟩
      subst hw3
      go_upto_region 15 with fail
      go_cut [12,68] from 19 to 53 (fun s12 s68 X=>s12= .int .i64 h3/\s68= .bool (wb && wp && decide (h3=1))/\Hid (X=w3))
      case first=>
       have h01:h3=0∨h3=1:=by omega
       rcases h01 with rfl|rfl
       all_goals
        cases wb
        all_goals
         cases wp
         all_goals
          go_wp2
          go_meet
          case rel=>exact⟨rfl,rfl,Ab rfl⟩
      case rest=>
       obtain⟨rfl,rfl,hX⟩:=hcut
       have hX':=Aa hX
       subst hX'
       clear hX
       go_upto_if 68 with fail
       go_cut [] from 19 to 53 (fun X=> ∃d4:Array Nat,Hid (Todo a b a' b' d d4)/\Hid (At w blk d4 X))
       case first=>
        generalize (wb && wp && decide (h3=1))=c at *
        cases c
        ·go_wp2
         go_meet
         case rel=>exact⟨d3,hT3,hA3⟩
        ·have HC:=Ab (Zf5 blk cap a' b' d3 wc (Aa hA3).1 (by omega) (by have:=(Aa hT3).size;omega) (by have:=(Aa hT3).size;omega))
         rw[(Aa hT3).size] at HC
         have HP:=Ab (partialInsertionSort_holds (lt:=ltN) ZfT d3 a' b' (by omega) (by have:=(Aa hT3).size;omega) (Aa hT3).low)
         generalize hpi:partialInsertionSort ltN d3 a' b'=pr at *
         obtain⟨d4,fl⟩:=pr
         clear hpi
         dsimp only at HC HP
         cases fl
         ·go_wp2_with fail
          refine(Aa HC).mono ?_
          rintro e w4 ⟨rfl,hL4,hG4⟩
          have HA4:=Ab ((Aa hA3).next hL4 hG4)
          have HT4:=Ab ((Aa hT3).perm h2 (Aa HP).1)
          clear hL4 hG4
          go_wp2
          go_meet
          case rel=>exact⟨d4,HT4,HA4⟩
         ·go_wp2_with fail
          refine(Aa HC).mono ?_
          rintro e w4 ⟨rfl,hL4,hG4⟩
          have HA4:=Ab ((Aa hA3).next hL4 hG4)
          have HF:=Ab ((Aa hT3).fin d4 (Aa HP).1 ((Aa HP).2 trivial))
          clear hL4 hG4
          go_wp2
          (try simp only[Exit.inBlock,Exit.then])
          refine bodyPost_ret (results_none rfl _ _ _) rfl ?_
          exact⟨rfl,d4,(Aa HF).1,(Aa HF).2,(Aa HA4).1,(Aa HA4).2⟩
       case rest=>
        obtain⟨w4,hw4⟩: ∃z,z=wc:=⟨_,rfl⟩
        clear hT3 hA3
        obtain⟨d4,hT4,hA4⟩:=hcut
        rw[←hw4] at hA4 ⊢
        clear hw4
        have hds:=(Aa hT4).size
        have HL4:=Ab hds
        have hll:=Aa HLl
        by_cases hE:0<a'/\ltN d4[a' - 1]! d4[p3]! =false
        ·obtain⟨u,hu⟩: ∃u,u=a' - 1:=⟨_,rfl⟩
         obtain⟨c1,f1⟩:=(Aa hA4).1.cell u (by omega)
         obtain⟨c2,f2⟩:=(Aa hA4).1.cell p3 (by omega)
         have HCl:=Ab (Em d4[u]! d4[p3]!)
         have hr:ltN d4[u]! d4[p3]! =false:=by rw[hu];exact hE.2
         have y1:(0:Int)<a':=by omega
         have y2:IntKind.i64.wrap ((a':Int) - 1)=(u:Int):=by rw[IntKind.wrap_i64];omega
         have y3:(u:Int)<d.size:=by omega
         have y4:(p3:Int)<d.size:=by omega
         rw[hr] at HCl
         have HC:=Ab (fun X hX=>parteq68 blk cap a' b' p3 d4 X hX hq1 hq2 (by omega) (by omega))
         rw[hds] at HC
         have HE:=Ab (fun mid d5=>todo_eq (mid:=mid) (d4:=d5) (Aa hT4) h2 hE.1 hq1 hq2 hE.2)
         generalize hpq:partitionEqual ltN d4 a' b' p3=pr at *
         obtain⟨mid,d5⟩:=pr
         have HR:=Ab (Aa HE mid d5 rfl)
         clear hpq HE hE hr hds hu hll
         dsimp only at HC
         generalize d4[u]! =xv at *
         generalize d4[p3]! =yv at *
         go_wp2_with fail
         have y5:decide ((0:Int)<a')=true:=decide_eq_true (by omega)
         have y6:0<a':=by omega
         have y7:decide (0<a')=true:=decide_eq_true y6
         go_quiet ((go_at_call 240;refine(Aa HCl _).mono ?_;rintro e w9 ⟨rfl,rfl⟩;exact⟨rfl,_,rfl⟩))
         go_wp2_with fail
         refine(Aa HC _ ((Aa hA4).drew _).1).mono ?_
         rintro e w5 ⟨rfl,hL5,hG5⟩
         have HA5:=Ab (((Aa hA4).drew _).next hL5 hG5)
         clear hL5 hG5
         go_wp2
         go_roundg (b' - mid)
         case measure=>(have:=Aa HR;have:=Aa HLl;omega)
         case rel=>exact⟨mid,b',lm2,wb,wp,d5,rfl,rfl,rfl,rfl,rfl,(Aa HR).2.1,h2,Nat.le_refl _,by have:=Aa HR;omega,h6,Ab (Aa HR).2.2,HA5⟩
        ·have hE':a'=0∨(0<a'/\ltN d4[a' - 1]! d4[p3]! =true):=by
          rcases Nat.eq_zero_or_pos a' with e|e
          ·exact .inl e
          ·refine .inr ⟨e, ?_⟩
           cases hr:ltN d4[a' - 1]! d4[p3]!
           ·exact absurd ⟨e,hr⟩ hE
           ·rfl
         have HC:=Ab (fun X hX=>part69 blk cap a' b' p3 d4 X hX hq1 hq2 (by omega) (by omega))
         rw[hds] at HC
         have HE:=Ab (fun mid ap d5=>ZfQ (mid:=mid) (ap:=ap) (d4:=d5) (Aa hT4) h2 hq1 hq2)
         generalize hpq:partition ltN d4 a' b' p3=pr at *
         obtain⟨mid,ap,d5⟩:=pr
         have HR:=Ab (Aa HE mid ap d5 rfl)
         clear hpq HE hE
         dsimp only at HC
         obtain⟨x1,hx1⟩: ∃x,x=mid - a':=⟨_,rfl⟩
         obtain⟨x2,hx2⟩: ∃x,x=b' - mid:=⟨_,rfl⟩
         obtain⟨x8,hx8⟩: ∃x,x=l / 8:=⟨_,rfl⟩
         have hrr:=Aa HR
         have v1:IntKind.i64.wrap ((mid:Int) - a')=(x1:Int):=by rw[IntKind.wrap_i64];omega
         have v2:IntKind.i64.wrap ((b':Int) - mid)=(x2:Int):=by rw[IntKind.wrap_i64];omega
         have v3:(l:Int).tdiv 8=(x8:Int):=by rw[Int.tdiv_eq_ediv_of_nonneg (by omega)];omega
         have v3':(l:Int) / 8=(x8:Int):=by omega
         have v4:IntKind.i64.wrap ((mid:Int)+1)=((mid+1:Nat):Int):=by rw[IntKind.wrap_i64];omega
         have v5:IntKind.i64.wrap (x8:Int)=(x8:Int):=by rw[IntKind.wrap_i64];omega
         have HXX:=Ab (And.intro hx1 (And.intro hx2 hx8))
         have HI1:=Ab (fun X hX=>Aa IH cap a' mid lm2 d5 X (by omega) hX (by omega) (by omega) (by omega) h6 hrr.2.2.2.1)
         have HI2:=Ab (fun X hX=>Aa IH cap (mid+1) b' lm2 d5 X (by omega) hX (by omega) (by omega) (by omega) h6 hrr.2.2.2.2.1)
         rw[hrr.2.2.1] at HI1 HI2
         clear hx1 hx2 hx8 hrr hll
         rcases hE' with hE'|hE'
         all_goals
          first
          |(have hz0:a'=0:=hE'
            have HZ0:=Ab hz0
            clear hds hz0 hE'
            go_wp2_with fail
            have y5:decide ((0:Int)<a')=false:=decide_eq_false (by have:=Aa HZ0;omega)
            have y6: ¬0<a':=(by have:=Aa HZ0;omega)
            have y7:decide (0<a')=false:=decide_eq_false y6
            go_quiet (fail)
            clear y5 y6 y7)
          |(obtain⟨u,hu⟩: ∃u,u=a' - 1:=⟨_,rfl⟩
            obtain⟨c1,f1⟩:=(Aa hA4).1.cell u (by omega)
            obtain⟨c2,f2⟩:=(Aa hA4).1.cell p3 (by omega)
            have HCl:=Ab (Em d4[u]! d4[p3]!)
            have hr:ltN d4[u]! d4[p3]! =true:=(by rw[hu];exact hE'.2)
            have y2:IntKind.i64.wrap ((a':Int) - 1)=(u:Int):=(by rw[IntKind.wrap_i64];omega)
            have y3:(u:Int)<d.size:=(by omega)
            have y4:(p3:Int)<d.size:=(by omega)
            have hpos:=hE'.1
            rw[hr] at HCl
            clear hE' hr hds hu
            generalize d4[u]! =xv at *
            generalize d4[p3]! =yv at *
            go_wp2_with fail
            have y5:decide ((0:Int)<a')=true:=decide_eq_true (by omega)
            have y6:0<a':=(by omega)
            have y7:decide (0<a')=true:=decide_eq_true y6
            go_quiet ((go_at_call 240;refine(Aa HCl _).mono ?_;rintro e w9 ⟨rfl,rfl⟩;exact⟨rfl,_,rfl⟩))
            clear HCl c1 c2 f1 f2 y2 y3 y4 y5 y6 y7)
          go_wp2_with fail
          refine(Aa HC _ ((Aa hA4).drew _).1).mono ?_
          rintro e w5 ⟨rfl,hL5,hG5⟩
          have HA5:=Ab (((Aa hA4).drew _).next hL5 hG5)
          clear hL5 hG5
          by_cases hlr:x1<x2
          ·have q1:(x1:Int)<x2:=by omega
           go_wp2_with fail
           refine(Aa HI1 w5 (Aa HA5).1).mono ?_
           rintro e w6 ⟨rfl,d6,hP6,hS6,hL6,hG6⟩
           have HA6:=Ab ((Aa HA5).next hL6 hG6)
           have HT6:=Ab ((Aa HR).2.2.2.2.2.1 d6 hP6 hS6)
           clear hP6 hS6 hL6 hG6
           go_wp2
           go_roundg (b' - (mid+1))
           case measure=>(have:=Aa HR;have:=Aa HLl;omega)
           case rel=>exact⟨mid+1,b',lm2,_,ap,d6,by go_num,rfl,rfl,rfl,rfl,by have:=Aa HR;omega,h2,Nat.le_refl _,by have:=Aa HR;omega,h6,HT6,HA6⟩
          ·have q1: ¬(x1:Int)<x2:=by omega
           go_wp2_with fail
           refine(Aa HI2 w5 (Aa HA5).1).mono ?_
           rintro e w6 ⟨rfl,d6,hP6,hS6,hL6,hG6⟩
           have HA6:=Ab ((Aa HA5).next hL6 hG6)
           have HT6:=Ab ((Aa HR).2.2.2.2.2.2 d6 hP6 hS6)
           clear hP6 hS6 hL6 hG6
           go_wp2
           go_roundg (mid - a')
           case measure=>(have:=Aa HR;have:=Aa HLl;omega)
           case rel=>exact⟨_,mid,lm2,_,ap,d6,rfl,rfl,rfl,rfl,rfl,by have:=Aa HR;omega,by have:=Aa HR;omega,by omega,by have:=Aa HR;omega,h6,HT6,HA6⟩
theorem Ze7 (blk:Nat): ∀n,PdqP blk n
 |0=>fun _ _ _ _ _ _ h=>by omega
 |n+1=>pdq_step blk n (Ze7 blk n)
end
section
open Go Go.Proofs Go.RowKit Go.Sort Tryz
theorem bl_any (n:Nat) (h:n<=1500000):Lib.bitLen n<=21:=by
 rcases Nat.lt_or_ge n 8 with h8|h8
 ·have: ∀m:Fin 8,Lib.bitLen m.val<=21:=by decide+kernel
  exact this ⟨n,h8⟩
 ·exact(bl_le n h8 h).2.2
theorem sort31 (blk cap:Nat) (d:Array Nat) (w:World) (hL:LiesU w blk d) (hsz:d.size<=1500000):
  Calls prog 227 #[.slice (some ⟨blk,0,none⟩) d.size cap] w fun e w'=>e= .returned (.tuple #[])/\ ∃d',d'.toList=d.toList.mergeSort (fun x y=> !ltN y x)/\LiesU w' blk d'/\w.grownBy w' (some blk):=by
 have HC:=Ab (Tryz.bits_Len (d.size:Int) w (by omega) (by omega))
 rw[Int.toNat_natCast] at HC
 have HP:=Ab (Ze7 blk (d.size+1) cap 0 d.size (Lib.bitLen d.size) d w (by omega) hL (by omega) (Nat.le_refl _) hsz (by have:=bl_any d.size hsz;omega) (.inl rfl))
 generalize Lib.bitLen d.size=k at *
 clear hL
 have z1:IntKind.u64.wrap (d.size:Int)=(d.size:Int):=by simp[IntKind.wrap,IntKind.bits,IntKind.signed];omega
 go_enter func227,ntmps227
 go_wp2_with fail
 refine(Aa HC).mono ?_
 rintro e w' ⟨rfl,rfl⟩
 go_wp2_with fail
 refine(Aa HP).mono ?_
 rintro e w1 ⟨rfl,d',hP,hS,hL1,hG1⟩
 have HF:=Ab (And.intro hL1 (And.intro hG1 (sorted_unique_holds (lt:=ltN) ZfT (fun x y h1 h2=>by simp[ltN] at *;omega) d d' hP hS)))
 clear hL1 hG1 hP hS
 go_wp2
 go_end0
 exact⟨rfl,d',(Aa HF).2.2,(Aa HF).1,(Aa HF).2.1⟩
theorem Yz (w:World):Calls prog 234 #[.slice none 0 0, .int .i64 0, .int .i64 0] w fun e w'=>e= .returned (.tuple #[])/\w.grownBy w' none:=by
 go_enter func234,ntmps234
 go_wp2_with fail
 go_loopg [6] 1 (fun g s6 wr=>s6= .int .i64 1/\Hid (w.grownBy wr none))
 case atStart=>exact⟨by go_num,Ab (Kl _ _)⟩
 case round=>
  obtain⟨rfl,hGk⟩:=hrel
  go_wp2_with fail
  go_end0
  exact⟨rfl,Aa hGk⟩
theorem Zf4 (k:Nat) (w:World):Calls prog 230 #[.slice none 0 0, .int .i64 0, .int .i64 0, .int .i64 k] w fun e w'=>e= .returned (.tuple #[])/\w.grownBy w' none:=by
 have HI:=Ab (fun w=>Yz w)
 go_enter func230,ntmps230
 go_wp2_with fail
 go_loopg [1,2,3,8,9] 1 (fun g s1 s2 s3 s8 s9 wr=>s1= .int .i64 0/\s2= .int .i64 0/\s3= .int .i64 k/\s8= .bool true/\s9= .bool true/\Hid (w.grownBy wr none))
 case atStart=>exact⟨rfl,rfl,rfl,rfl,rfl,Ab (Kl _ _)⟩
 case round=>
  obtain⟨rfl,rfl,rfl,rfl,rfl,hG⟩:=hrel
  go_wp2_with fail
  refine((Aa HI) _).mono ?_
  rintro e w1 ⟨rfl,hG1⟩
  have HF:=Ab (Bx (Aa hG) hG1)
  clear hG1
  go_wp2
  (try simp only[Exit.inBlock,Exit.then])
  refine bodyPost_ret (results_none rfl _ _ _) rfl ?_
  exact⟨rfl,Aa HF⟩
theorem ZdY (w:World):Calls prog 227 #[.slice none 0 0] w fun e w'=>e= .returned (.tuple #[])/\w.grownBy w' none:=by
 have HC:=Ab (Tryz.bits_Len (0:Int) w (by omega) (by omega))
 have HP:=Ab (fun k=>Zf4 k w)
 generalize Lib.bitLen (0:Int).toNat=k at *
 go_enter func227,ntmps227
 go_wp2_with fail
 refine(Aa HC).mono ?_
 rintro e w' ⟨rfl,rfl⟩
 go_wp2_with fail
 refine((Aa HP) k).mono ?_
 rintro e w1 ⟨rfl,hG1⟩
 have HF:=Ab hG1
 clear hG1
 go_wp2
 go_end0
 exact⟨rfl,Aa HF⟩
