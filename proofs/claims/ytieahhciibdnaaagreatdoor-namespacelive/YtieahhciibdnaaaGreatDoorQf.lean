import Derived.Test.YtieahhciibdnaaaGreatDoorQd
set_option linter.all false
namespace Go.Proofs.YtieahhciibdnaaaGreatDoor
set_option maxRecDepth 100000
set_option maxHeartbeats 0
section
open Go Go.Proofs Go.RowKit Go.Sort
theorem ss_go (d:Array Nat) (b i:Nat) (h:i<b) (hr:ltN d[i]! d[i - 1]! =false):scanSorted ltN d b i=scanSorted ltN d b (i+1):=by rw[scanSorted,if_pos (by simp[h,hr])]
theorem ZcS (d:Array Nat) (b i:Nat) (h: ¬i<b∨ltN d[i]! d[i - 1]! =true):scanSorted ltN d b i=i:=by
 rw[scanSorted,if_neg]
 rcases h with h|h
 ·simp[h]
 ·simp[h]
theorem dn_go (d:Array Nat) (j:Nat) (hj:1<=j) (hr:ltN d[j]! d[j - 1]! =true):shiftDown ltN j d=shiftDown ltN (j - 1) (swp d j (j - 1)):=by
 cases j with
 |zero=>omega
 |succ j=>
  simp only[Nat.add_sub_cancel] at hr ⊢
  rw[shiftDown,if_neg (by simp[hr])]
theorem Zdl (d:Array Nat) (j:Nat) (hr:j=0∨ltN d[j]! d[j - 1]! =false):shiftDown ltN j d=d:=by
 cases j with
 |zero=>rfl
 |succ j=>
  simp only[Nat.add_sub_cancel] at hr
  rw[shiftDown,if_pos (by rcases hr with h|h;omega;simp[h])]
theorem up_go (d:Array Nat) (b j:Nat) (hj:j<b) (hr:ltN d[j]! d[j - 1]! =true):shiftUp ltN b j d=shiftUp ltN b (j+1) (swp d j (j - 1)):=by
 rw[shiftUp,if_pos hj,if_neg (by simp[hr])]
theorem Ns (d:Array Nat) (b j:Nat) (hr: ¬j<b∨ltN d[j]! d[j - 1]! =false):shiftUp ltN b j d=d:=by
 rw[shiftUp]
 rcases hr with h|h
 ·rw[if_neg h]
 ·split
  ·rw[if_pos (by simp[h])]
  ·rfl
theorem pi_step (a b s i i2:Nat) (d:Array Nat) (h:scanSorted ltN d b i=i2):partialIns ltN a b (s+1) i d=if i2=b then (d,true) else if b - a<50 then (d,false) else
  partialIns ltN a b s i2 (if b - i2≥2 then shiftUp ltN b (i2+1) (if i2 - a≥2 then shiftDown ltN (i2 - 1) (swp d i2 (i2 - 1)) else swp d i2 (i2 - 1)) else (if i2 - a≥2 then shiftDown ltN (i2 - 1) (swp d i2 (i2 - 1)) else swp d i2 (i2 - 1))):=by
 rw[partialIns]
 simp only[h]
theorem ZdK (blk cap a b:Nat) (d:Array Nat) (w:World) (hL:LiesU w blk d) (hab:a<b) (hb:b<=d.size) (hsz:d.size<=1500000):
  Calls Tryz.prog 203 #[.slice (some ⟨blk,0,none⟩) d.size cap, .int .i64 a, .int .i64 b] w fun e w'=>e= .returned (.bool (partialInsertionSort ltN d a b).2)/\LiesU w' blk (partialInsertionSort ltN d a b).1/\w.grownBy w' (some blk):=by
 have HL:=Ab hL
 clear hL
 have HD:Hid (partialIns ltN a b 5 (a+1) d=partialInsertionSort ltN d a b):=Ab rfl
 generalize partialInsertionSort ltN d a b=res at *
 have z0:IntKind.i64.wrap ((b:Int) - a)=((b - a:Nat):Int):=by rw[IntKind.wrap_i64];omega
 go_enter Tryz.func203,Tryz.ntmps203
 go_wp2_with fail
 go_loopg [7,8] 5 (fun g s7 s8 wr=> ∃(i jj:Nat) (dk:Array Nat),s7= .int .i64 i/\s8= .int .i64 jj/\jj<=5/\5 - jj<=g/\a+1<=i/\i<=b/\Hid (dk.size=d.size)/\Hid (LiesU wr blk dk)/\Hid (w.grownBy wr (some blk))/\Hid (partialIns ltN a b (5 - jj) i dk=res))
 case atStart=>exact⟨a+1,0,d,by go_num,rfl,by omega,by omega,by omega,by omega,Ab rfl,HL,Ab (Jk _ _),HD⟩
 case round=>
  obtain⟨i,jj,dk,rfl,rfl,hj5,hg,hai,hib,hsk,hLk,hGk,hOk⟩:=hrel
  by_cases hjl:jj<5
  ·have hjz:(jj:Int)<5:=by omega
   have HST:=Ab (fun i2 (h:scanSorted ltN dk b i=i2)=>pi_step a b (5 - (jj+1)) i i2 dk h)
   have e5:5 - jj=(5 - (jj+1))+1:=by omega
   rw[e5] at hOk
   clear e5
   go_wp2_with fail
   go_loopg [7] (b+1) (fun g s7 wr=> ∃i2:Nat,s7= .int .i64 i2/\i<=i2/\i2<=b/\b+1 - i2<=g/\Hid (LiesU wr blk dk)/\Hid (w.grownBy wr (some blk))/\Hid (scanSorted ltN dk b i2=scanSorted ltN dk b i))
   case atStart=>exact⟨i,rfl,Nat.le_refl _,hib,by omega,hLk,hGk,Ab rfl⟩
   case round=>
    obtain⟨i2,rfl,hi1,hi2,hgi,hLi,hGi,hSi⟩:=hrel
    have hds:=Aa hsk
    by_cases hlt:i2<b
    ·obtain⟨c1,f1⟩:=(Aa hLi).cell i2 (by omega)
     obtain⟨c2,f2⟩:=(Aa hLi).cell (i2 - 1) (by omega)
     have HGo:=Ab (ss_go dk b i2 hlt)
     have HSt:=Ab (fun h=>ZcS dk b i2 (.inr h))
     have HSw:=Ab (fun n=>((Aa hLi).drew n).swap i2 (i2 - 1) (by omega) (by omega))
     have z1:(i2:Int)<b:=by omega
     have z2:(i2:Int)<d.size:=by omega
     have z3:(i2:Int) - 1<d.size:=by omega
     have z4:(0:Int)<=(i2:Int) - 1:=by omega
     have z5:((i2:Int) - 1).toNat=i2 - 1:=by omega
     have z6:IntKind.i64.wrap ((i2:Int) - 1)=(i2:Int) - 1:=by rw[IntKind.wrap_i64];omega
     have z7:IntKind.i64.wrap ((i2:Int)+1)=((i2+1:Nat):Int):=by rw[IntKind.wrap_i64];omega
     have n1: ¬i2 - 1=i2:=by omega
     have n2: ¬i2=i2 - 1:=by omega
     have HDS:=Ab hds
     clear hds
     generalize dk[i2]! =x at *
     generalize dk[i2 - 1]! =y at *
     have HC:=Ab (Ef x y)
     generalize ltN x y=r at *
     cases r
     ·have HE:=Ab (Aa HGo rfl)
      clear HSt HGo HSw
      go_wp2_with fail
      go_quiet ((go_at_call 204;refine(Aa HC _).mono ?_;rintro e w9 ⟨rfl,rfl⟩;exact⟨rfl,_,rfl⟩))
      go_wp2
      go_roundg (b+1 - (i2+1))
      case measure=>omega
      case rel=>exact⟨i2+1,by go_num,by omega,by omega,Nat.le_refl _,Ab ((Aa hLi).grown rfl),Ab ⟨(Aa hGi).os,(Aa hGi).tape,(Aa hGi).output,(Aa hGi).size,(Aa hGi).block⟩,Ab (by rw[←Aa HE];exact Aa hSi)⟩
     ·have HRS:=Ab (Aa HST i2 (by rw[←Aa hSi];exact Aa HSt rfl))
      rw[if_neg (by omega)] at HRS
      clear HSt HGo HST
      go_wp2_with fail
      go_quiet ((go_at_call 204;refine(Aa HC _).mono ?_;rintro e w9 ⟨rfl,rfl⟩;exact⟨rfl,_,rfl⟩))
      have zne:decide ((i2:Int)=b)=false:=decide_eq_false (by omega)
      have zne':((i2:Int)==b)=false:=by simp;omega
      have zne2: ¬i2=b:=by omega
      by_cases h50:b - a<50
      ·rw[if_pos h50] at HRS
       have y1:((b - a:Nat):Int)<50:=by omega
       go_wp2
       go_ret
       rw[←Aa hOk,Aa HRS]
       exact⟨rfl,(Aa hLi).grown rfl,⟨(Aa hGi).os,(Aa hGi).tape,(Aa hGi).output,(Aa hGi).size,(Aa hGi).block⟩⟩
      ·rw[if_neg h50] at HRS
       have y1: ¬((b - a:Nat):Int)<50:=by omega
       have HGw:Hid (w.grownBy (wr.drewN nq) (some blk)):=Ab (Dm (Aa hGi) _)
       obtain⟨wx,hwx⟩: ∃wx,wx=wr.drewN nq:=⟨_,rfl⟩
       have HSx:Hid (LiesU ((wx.setCell ⟨blk,i2,none⟩ (.int .u32 (y:Nat))).setCell ⟨blk,i2 - 1,none⟩ (.int .u32 (x:Nat))).drew blk (swp dk i2 (i2 - 1))):=Ab (by rw[hwx];exact LiesU.grown (Aa HSw nq) rfl)
       have k1:wx.cell? ⟨blk,i2,none⟩=some (.int .u32 (x:Nat)):=by rw[hwx];exact c1
       have k2:wx.cell? ⟨blk,i2 - 1,none⟩=some (.int .u32 (y:Nat)):=by rw[hwx];exact c2
       have k3:wx.frozen? ⟨blk,i2,none⟩=false:=by rw[hwx];exact f1
       have k4:wx.frozen? ⟨blk,i2 - 1,none⟩=false:=by rw[hwx];exact f2
       rw[←hwx] at HGw ⊢
       clear hwx hLi hGi c1 c2 f1 f2 HC HSw
       have HZ2:=Ab (show (swp dk i2 (i2 - 1)).size=d.size by rw[Dn];exact Aa HDS)
       generalize swp dk i2 (i2 - 1)=dk2 at *
       obtain⟨q1,hq1⟩: ∃q,q=i2 - a:=⟨_,rfl⟩
       obtain⟨q2,hq2⟩: ∃q,q=b - i2:=⟨_,rfl⟩
       have y2:IntKind.i64.wrap ((i2:Int) - a)=(q1:Int):=by rw[IntKind.wrap_i64];omega
       have y3:IntKind.i64.wrap ((b:Int) - i2)=(q2:Int):=by rw[IntKind.wrap_i64];omega
       obtain⟨p1,hp1⟩: ∃p,p=i2 - 1:=⟨_,rfl⟩
       have hp1z:(i2:Int) - 1=(p1:Int):=by omega
       rw[←hq1,←hq2,←hp1] at HRS
       rw[←hp1] at HSx k2 k4 n1 n2
       have z6':IntKind.i64.wrap ((i2:Int) - 1)=(p1:Int):=by rw[IntKind.wrap_i64];omega
       have z3':(p1:Int)<d.size:=by omega
       have HQ:=Ab (And.intro hq1 (And.intro hq2 hp1))
       clear hq1 hq2 hp1 hp1z z5 HDS z3 z4 z6
       have HGx:Hid (w.grownBy (((wx.setCell ⟨blk,i2,none⟩ (.int .u32 (y:Nat))).setCell ⟨blk,p1,none⟩ (.int .u32 (x:Nat))).drew) (some blk)):=Ab (have g0:=Bt (Aa HGw) (Dq wx blk i2 p1 (.int .u32 (y:Nat)) (.int .u32 (x:Nat)));⟨g0.os,g0.tape,g0.output,g0.size,g0.block⟩)
       by_cases h2:q1≥2
       ·rw[if_pos h2] at HRS
        have x1:(2:Int)<=q1:=by omega
        go_wp2_with fail
        go_region
        all_goals go_wp2_with fail
        go_loopg [9] p1 (fun g s9 wr=> ∃(j:Nat) (dj:Array Nat),s9= .int .i64 j/\j<=p1/\j<=g/\Hid (dj.size=d.size)/\Hid (LiesU wr blk dj)/\Hid (w.grownBy wr (some blk))/\Hid (shiftDown ltN j dj=shiftDown ltN p1 dk2))
        case atStart=>exact⟨p1,dk2,rfl,Nat.le_refl _,Nat.le_refl _,HZ2,HSx,HGx,Ab rfl⟩
        case round=>
         obtain⟨j,dj,rfl,hjp,hgj,hsj,hLj,hGj,hSj⟩:=hrel
         clear k1 k2 k3 k4 HSx HGx HZ2
         by_cases hj0:j=0
         ·have HD3:=Ab (show shiftDown ltN p1 dk2=dj by rw[←Aa hSj,Zdl dj j (.inl hj0)])
          rw[Aa HD3] at HRS
          have x2: ¬(1:Int)<=j:=by omega
          by_cases h3:q2≥2
          ·rw[if_pos h3] at HRS
           have w1:(2:Int)<=q2:=by omega
           obtain⟨e1,he1⟩: ∃e,e=i2+1:=⟨_,rfl⟩
           have w2:IntKind.i64.wrap ((i2:Int)+1)=(e1:Int):=by rw[IntKind.wrap_i64];omega
           rw[←he1] at HRS
           have HE1:=Ab he1
           clear he1 z7
           go_wp2_with fail
           go_loopg [10] (b+1) (fun g s10 wr=> ∃(j':Nat) (dn:Array Nat),s10= .int .i64 j'/\e1<=j'/\j'<=b/\b+1 - j'<=g/\Hid (dn.size=d.size)/\Hid (LiesU wr blk dn)/\Hid (w.grownBy wr (some blk))/\Hid (shiftUp ltN b j' dn=shiftUp ltN b e1 dj))
           case atStart=>exact⟨e1,dj,rfl,Nat.le_refl _,by have:=Aa HE1;omega,by have:=Aa HE1;omega,hsj,hLj,hGj,Ab rfl⟩
           case round=>
            obtain⟨j',dn,rfl,hje,hjb,hgn,hsn,hLn,hGn,hSn⟩:=hrel
            by_cases hjl2:j'<b
            ·obtain⟨u',hu2⟩: ∃u,u=j' - 1:=⟨_,rfl⟩
             have hds:=Aa hsn
             have hee:=Aa HE1
             obtain⟨c1,f1⟩:=(Aa hLn).cell j' (by omega)
             obtain⟨c2,f2⟩:=(Aa hLn).cell u' (by omega)
             have HGo:=Ab (up_go dn b j' hjl2)
             have HSt:=Ab (fun h=>Ns dn b j' (.inr h))
             have HSw:=Ab (fun n=>((Aa hLn).drew n).swap j' u' (by omega) (by omega))
             rw[←hu2] at HGo HSt
             have v1:(j':Int)<b:=by omega
             have v2:IntKind.i64.wrap ((j':Int) - 1)=(u':Int):=by rw[IntKind.wrap_i64];omega
             have v3:(j':Int)<d.size:=by omega
             have v4:(u':Int)<d.size:=by omega
             have v5:IntKind.i64.wrap ((j':Int)+1)=((j'+1:Nat):Int):=by rw[IntKind.wrap_i64];omega
             have m3: ¬j'=u':=by omega
             have m4: ¬u'=j':=by omega
             clear hds hee hu2
             generalize dn[j']! =x2' at *
             generalize dn[u']! =y2' at *
             have HC:=Ab (Ef x2' y2')
             generalize ltN x2' y2'=r at *
             cases r
             ·have HD4:=Ab (show shiftUp ltN b e1 dj=dn by rw[←Aa hSn,Aa HSt rfl])
              rw[Aa HD4] at HRS
              clear HSt HGo HSw
              go_wp2_with fail
              go_quiet ((go_at_call 204;refine(Aa HC _).mono ?_;rintro e w9 ⟨rfl,rfl⟩;exact⟨rfl,_,rfl⟩))
              go_wp2
              go_roundg (5 - (jj+1))
              case measure=>omega
              case rel=>exact⟨i2,jj+1,dn,by go_num,by go_num,by omega,Nat.le_refl _,by omega,by omega,hsn,Ab ((Aa hLn).grown rfl),Ab ⟨(Aa hGn).os,(Aa hGn).tape,(Aa hGn).output,(Aa hGn).size,(Aa hGn).block⟩,Ab (by rw[←Aa hOk,Aa HRS])⟩
             ·have HE:=Ab (Aa HGo rfl)
              clear HSt HGo
              go_wp2_with fail
              go_quiet ((go_at_call 204;refine(Aa HC _).mono ?_;rintro e w9 ⟨rfl,rfl⟩;exact⟨rfl,_,rfl⟩))
              go_wp2_with fail
              go_region
              all_goals go_wp2
              go_roundg (b+1 - (j'+1))
              case measure=>omega
              case rel=>exact⟨j'+1,swp dn j' u',by go_num,by omega,by omega,Nat.le_refl _,Ab (by rw[Dn];exact Aa hsn),Ab (Aa HSw _),Ab (Bt (Dm (Aa hGn) _) (Dq _ _ _ _ _ _)),Ab (by rw[←Aa HE];exact Aa hSn)⟩
            ·have HD4:=Ab (show shiftUp ltN b e1 dj=dn by rw[←Aa hSn,Ns dn b j' (.inl hjl2)])
             rw[Aa HD4] at HRS
             have v1: ¬(j':Int)<b:=by omega
             go_wp2
             go_roundg (5 - (jj+1))
             case measure=>omega
             case rel=>exact⟨i2,jj+1,dn,by go_num,by go_num,by omega,Nat.le_refl _,by omega,by omega,hsn,hLn,hGn,Ab (by rw[←Aa hOk,Aa HRS])⟩
          ·rw[if_neg h3] at HRS
           have w1: ¬(2:Int)<=q2:=by omega
           go_wp2
           go_roundg (5 - (jj+1))
           case measure=>omega
           case rel=>exact⟨i2,jj+1,dj,by go_num,by go_num,by omega,Nat.le_refl _,by omega,by omega,hsj,hLj,hGj,Ab (by rw[←Aa hOk,Aa HRS])⟩
         ·obtain⟨u,hu⟩: ∃u,u=j - 1:=⟨_,rfl⟩
          have hds:=Aa hsj
          have hpq:=Aa HQ
          obtain⟨c1,f1⟩:=(Aa hLj).cell j (by omega)
          obtain⟨c2,f2⟩:=(Aa hLj).cell u (by omega)
          have HGo:=Ab (dn_go dj j (by omega))
          have HSt:=Ab (fun h=>Zdl dj j (.inr h))
          have HSw:=Ab (fun n=>((Aa hLj).drew n).swap j u (by omega) (by omega))
          rw[←hu] at HGo HSt
          have x2:(1:Int)<=j:=by omega
          have x3:IntKind.i64.wrap ((j:Int) - 1)=(u:Int):=by rw[IntKind.wrap_i64];omega
          have x4:(j:Int)<d.size:=by omega
          have x5:(u:Int)<d.size:=by omega
          have m1: ¬j=u:=by omega
          have m2: ¬u=j:=by omega
          have hu':=Ab hu
          clear hds hpq hu
          generalize dj[j]! =x' at *
          generalize dj[u]! =y' at *
          have HC:=Ab (Ef x' y')
          generalize ltN x' y'=r at *
          cases r
          ·have HD3:=Ab (show shiftDown ltN p1 dk2=dj by rw[←Aa hSj,Aa HSt rfl])
           rw[Aa HD3] at HRS
           clear HSt HGo HSw
           by_cases h3:q2≥2
           ·rw[if_pos h3] at HRS
            have w1:(2:Int)<=q2:=by omega
            obtain⟨e1,he1⟩: ∃e,e=i2+1:=⟨_,rfl⟩
            have w2:IntKind.i64.wrap ((i2:Int)+1)=(e1:Int):=by rw[IntKind.wrap_i64];omega
            rw[←he1] at HRS
            have HE1:=Ab he1
            clear he1 z7
            go_wp2_with fail
            go_quiet ((go_at_call 204;refine(Aa HC _).mono ?_;rintro e w9 ⟨rfl,rfl⟩;exact⟨rfl,_,rfl⟩))
            go_wp2_with fail
            go_loopg [10] (b+1) (fun g s10 wr=> ∃(j':Nat) (dn:Array Nat),s10= .int .i64 j'/\e1<=j'/\j'<=b/\b+1 - j'<=g/\Hid (dn.size=d.size)/\Hid (LiesU wr blk dn)/\Hid (w.grownBy wr (some blk))/\Hid (shiftUp ltN b j' dn=shiftUp ltN b e1 dj))
            case atStart=>exact⟨e1,dj,rfl,Nat.le_refl _,by have:=Aa HE1;omega,by have:=Aa HE1;omega,hsj,(Ab ((Aa hLj).grown rfl)),(Ab ⟨(Aa hGj).os,(Aa hGj).tape,(Aa hGj).output,(Aa hGj).size,(Aa hGj).block⟩),Ab rfl⟩
            case round=>
             obtain⟨j',dn,rfl,hje,hjb,hgn,hsn,hLn,hGn,hSn⟩:=hrel
             by_cases hjl2:j'<b
             ·obtain⟨u',hu2⟩: ∃u,u=j' - 1:=⟨_,rfl⟩
              have hds:=Aa hsn
              have hee:=Aa HE1
              obtain⟨c1,f1⟩:=(Aa hLn).cell j' (by omega)
              obtain⟨c2,f2⟩:=(Aa hLn).cell u' (by omega)
              have HGo:=Ab (up_go dn b j' hjl2)
              have HSt:=Ab (fun h=>Ns dn b j' (.inr h))
              have HSw:=Ab (fun n=>((Aa hLn).drew n).swap j' u' (by omega) (by omega))
              rw[←hu2] at HGo HSt
              have v1:(j':Int)<b:=by omega
              have v2:IntKind.i64.wrap ((j':Int) - 1)=(u':Int):=by rw[IntKind.wrap_i64];omega
              have v3:(j':Int)<d.size:=by omega
              have v4:(u':Int)<d.size:=by omega
              have v5:IntKind.i64.wrap ((j':Int)+1)=((j'+1:Nat):Int):=by rw[IntKind.wrap_i64];omega
              have m3: ¬j'=u':=by omega
              have m4: ¬u'=j':=by omega
              clear hds hee hu2
              generalize dn[j']! =x2' at *
              generalize dn[u']! =y2' at *
              have HC:=Ab (Ef x2' y2')
              generalize ltN x2' y2'=r at *
              cases r
              ·have HD4:=Ab (show shiftUp ltN b e1 dj=dn by rw[←Aa hSn,Aa HSt rfl])
               rw[Aa HD4] at HRS
               clear HSt HGo HSw
               go_wp2_with fail
               go_quiet ((go_at_call 204;refine(Aa HC _).mono ?_;rintro e w9 ⟨rfl,rfl⟩;exact⟨rfl,_,rfl⟩))
               go_wp2
               go_roundg (5 - (jj+1))
               case measure=>omega
               case rel=>exact⟨i2,jj+1,dn,by go_num,by go_num,by omega,Nat.le_refl _,by omega,by omega,hsn,Ab ((Aa hLn).grown rfl),Ab ⟨(Aa hGn).os,(Aa hGn).tape,(Aa hGn).output,(Aa hGn).size,(Aa hGn).block⟩,Ab (by rw[←Aa hOk,Aa HRS])⟩
              ·have HE:=Ab (Aa HGo rfl)
               clear HSt HGo
               go_wp2_with fail
               go_quiet ((go_at_call 204;refine(Aa HC _).mono ?_;rintro e w9 ⟨rfl,rfl⟩;exact⟨rfl,_,rfl⟩))
               go_wp2_with fail
               go_region
               all_goals go_wp2
               go_roundg (b+1 - (j'+1))
               case measure=>omega
               case rel=>exact⟨j'+1,swp dn j' u',by go_num,by omega,by omega,Nat.le_refl _,Ab (by rw[Dn];exact Aa hsn),Ab (Aa HSw _),Ab (Bt (Dm (Aa hGn) _) (Dq _ _ _ _ _ _)),Ab (by rw[←Aa HE];exact Aa hSn)⟩
             ·have HD4:=Ab (show shiftUp ltN b e1 dj=dn by rw[←Aa hSn,Ns dn b j' (.inl hjl2)])
              rw[Aa HD4] at HRS
              have v1: ¬(j':Int)<b:=by omega
              go_wp2
              go_roundg (5 - (jj+1))
              case measure=>omega
              case rel=>exact⟨i2,jj+1,dn,by go_num,by go_num,by omega,Nat.le_refl _,by omega,by omega,hsn,hLn,hGn,Ab (by rw[←Aa hOk,Aa HRS])⟩
           ·rw[if_neg h3] at HRS
            have w1: ¬(2:Int)<=q2:=by omega
            go_wp2_with fail
            go_quiet ((go_at_call 204;refine(Aa HC _).mono ?_;rintro e w9 ⟨rfl,rfl⟩;exact⟨rfl,_,rfl⟩))
            go_wp2
            go_roundg (5 - (jj+1))
            case measure=>omega
            case rel=>exact⟨i2,jj+1,dj,by go_num,by go_num,by omega,Nat.le_refl _,by omega,by omega,hsj,(Ab ((Aa hLj).grown rfl)),(Ab ⟨(Aa hGj).os,(Aa hGj).tape,(Aa hGj).output,(Aa hGj).size,(Aa hGj).block⟩),Ab (by rw[←Aa hOk,Aa HRS])⟩
          ·have HE:=Ab (Aa HGo rfl)
           clear HSt HGo
           go_wp2_with fail
           go_quiet ((go_at_call 204;refine(Aa HC _).mono ?_;rintro e w9 ⟨rfl,rfl⟩;exact⟨rfl,_,rfl⟩))
           go_wp2_with fail
           go_region
           all_goals go_wp2
           go_roundg u
           case measure=>(have:=Aa hu';omega)
           case rel=>exact⟨u,swp dj j u,by go_num,by have:=Aa hu';omega,Nat.le_refl _,Ab (by rw[Dn];exact Aa hsj),Ab (Aa HSw _),Ab (Bt (Dm (Aa hGj) _) (Dq _ _ _ _ _ _)),Ab (by rw[←Aa HE];exact Aa hSj)⟩
       ·rw[if_neg h2] at HRS
        have x1: ¬(2:Int)<=q1:=by omega
        by_cases h3:q2≥2
        ·rw[if_pos h3] at HRS
         have w1:(2:Int)<=q2:=by omega
         obtain⟨e1,he1⟩: ∃e,e=i2+1:=⟨_,rfl⟩
         have w2:IntKind.i64.wrap ((i2:Int)+1)=(e1:Int):=by rw[IntKind.wrap_i64];omega
         rw[←he1] at HRS
         have HE1:=Ab he1
         clear he1 z7
         go_wp2_with fail
         go_region
         all_goals go_wp2_with fail
         go_loopg [10] (b+1) (fun g s10 wr=> ∃(j':Nat) (dn:Array Nat),s10= .int .i64 j'/\e1<=j'/\j'<=b/\b+1 - j'<=g/\Hid (dn.size=d.size)/\Hid (LiesU wr blk dn)/\Hid (w.grownBy wr (some blk))/\Hid (shiftUp ltN b j' dn=shiftUp ltN b e1 dk2))
         case atStart=>exact⟨e1,dk2,rfl,Nat.le_refl _,by have:=Aa HE1;omega,by have:=Aa HE1;omega,HZ2,HSx,HGx,Ab rfl⟩
         case round=>
          obtain⟨j',dn,rfl,hje,hjb,hgn,hsn,hLn,hGn,hSn⟩:=hrel
          by_cases hjl2:j'<b
          ·obtain⟨u',hu2⟩: ∃u,u=j' - 1:=⟨_,rfl⟩
           have hds:=Aa hsn
           have hee:=Aa HE1
           obtain⟨c1,f1⟩:=(Aa hLn).cell j' (by omega)
           obtain⟨c2,f2⟩:=(Aa hLn).cell u' (by omega)
           have HGo:=Ab (up_go dn b j' hjl2)
           have HSt:=Ab (fun h=>Ns dn b j' (.inr h))
           have HSw:=Ab (fun n=>((Aa hLn).drew n).swap j' u' (by omega) (by omega))
           rw[←hu2] at HGo HSt
           have v1:(j':Int)<b:=by omega
           have v2:IntKind.i64.wrap ((j':Int) - 1)=(u':Int):=by rw[IntKind.wrap_i64];omega
           have v3:(j':Int)<d.size:=by omega
           have v4:(u':Int)<d.size:=by omega
           have v5:IntKind.i64.wrap ((j':Int)+1)=((j'+1:Nat):Int):=by rw[IntKind.wrap_i64];omega
           have m3: ¬j'=u':=by omega
           have m4: ¬u'=j':=by omega
           clear hds hee hu2
           generalize dn[j']! =x2' at *
           generalize dn[u']! =y2' at *
           have HC:=Ab (Ef x2' y2')
           generalize ltN x2' y2'=r at *
           cases r
           ·have HD4:=Ab (show shiftUp ltN b e1 dk2=dn by rw[←Aa hSn,Aa HSt rfl])
            rw[Aa HD4] at HRS
            clear HSt HGo HSw
            go_wp2_with fail
            go_quiet ((go_at_call 204;refine(Aa HC _).mono ?_;rintro e w9 ⟨rfl,rfl⟩;exact⟨rfl,_,rfl⟩))
            go_wp2
            go_roundg (5 - (jj+1))
            case measure=>omega
            case rel=>exact⟨i2,jj+1,dn,by go_num,by go_num,by omega,Nat.le_refl _,by omega,by omega,hsn,Ab ((Aa hLn).grown rfl),Ab ⟨(Aa hGn).os,(Aa hGn).tape,(Aa hGn).output,(Aa hGn).size,(Aa hGn).block⟩,Ab (by rw[←Aa hOk,Aa HRS])⟩
           ·have HE:=Ab (Aa HGo rfl)
            clear HSt HGo
            go_wp2_with fail
            go_quiet ((go_at_call 204;refine(Aa HC _).mono ?_;rintro e w9 ⟨rfl,rfl⟩;exact⟨rfl,_,rfl⟩))
            go_wp2_with fail
            go_region
            all_goals go_wp2
            go_roundg (b+1 - (j'+1))
            case measure=>omega
            case rel=>exact⟨j'+1,swp dn j' u',by go_num,by omega,by omega,Nat.le_refl _,Ab (by rw[Dn];exact Aa hsn),Ab (Aa HSw _),Ab (Bt (Dm (Aa hGn) _) (Dq _ _ _ _ _ _)),Ab (by rw[←Aa HE];exact Aa hSn)⟩
          ·have HD4:=Ab (show shiftUp ltN b e1 dk2=dn by rw[←Aa hSn,Ns dn b j' (.inl hjl2)])
           rw[Aa HD4] at HRS
           have v1: ¬(j':Int)<b:=by omega
           go_wp2
           go_roundg (5 - (jj+1))
           case measure=>omega
           case rel=>exact⟨i2,jj+1,dn,by go_num,by go_num,by omega,Nat.le_refl _,by omega,by omega,hsn,hLn,hGn,Ab (by rw[←Aa hOk,Aa HRS])⟩
        ·rw[if_neg h3] at HRS
         have w1: ¬(2:Int)<=q2:=by omega
         go_wp2_with fail
         go_region
         all_goals go_wp2
         go_roundg (5 - (jj+1))
         case measure=>omega
         case rel=>exact⟨i2,jj+1,dk2,by go_num,by go_num,by omega,Nat.le_refl _,by omega,by omega,HZ2,HSx,HGx,Ab (by rw[←Aa hOk,Aa HRS])⟩
    ·have hib2:i2=b:=by omega
     have HRS:=Ab (Aa HST i2 (by rw[←Aa hSi];exact ZcS dk b i2 (.inl hlt)))
     rw[if_pos hib2] at HRS
     clear HST
     have z1: ¬(i2:Int)<b:=by omega
     clear hds
     go_wp2_with fail
     have z2:decide ((i2:Int)<b)=false:=decide_eq_false (by omega)
     go_quiet (fail)
     have z3:(i2:Int)=b:=by omega
     go_wp2
     go_ret
     rw[←Aa hOk,Aa HRS]
     exact⟨rfl,(Aa hLi).grown rfl,⟨(Aa hGi).os,(Aa hGi).tape,(Aa hGi).output,(Aa hGi).size,(Aa hGi).block⟩⟩
  ·have hj:jj=5:=by omega
   subst hj
   go_wp2
   go_ret
   have:=Aa hOk
   simp only[Nat.sub_self,partialIns] at this
   rw[←this]
   exact⟨rfl,Aa hLk,Aa hGk⟩
