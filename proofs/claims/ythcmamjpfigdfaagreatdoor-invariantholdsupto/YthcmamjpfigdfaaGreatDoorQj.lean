import Derived.Test.YthcmamjpfigdfaaGreatDoorQc
import Derived.Test.YthcmamjpfigdfaaGreatDoorChecked
import Derived.WalkSpells
import Derived.WalkLawsBesides
import Derived.Laws.BitsAllLaws
import Derived.Laws.AppendOwn
import Derived.Deep.LoopGhost
import Derived.Sort.Statements
import Derived.BigRegion
set_option linter.all false
namespace Go.Proofs.YthcmamjpfigdfaaGreatDoor
set_option maxRecDepth 100000
set_option maxHeartbeats 0
section
open Go Go.Proofs Go.RowKit Go.Sort Tryz
def ZeB (n:Nat):Value:= .int .u32 (n:Int)
def LiesU (w:World) (blk:Nat) (d:Array Nat):Prop:= ∃r:Array Value,w.heap[blk]? =some (.cells (d.map ZeB++r) 265 (0,0))
theorem LiesU.lt {w:World} {blk:Nat} {d:Array Nat} (h:LiesU w blk d):blk<w.heap.size:=by
 obtain⟨r,h⟩:=h
 exact(Array.getElem?_eq_some_iff.1 h).1
theorem LiesU.cell {w:World} {blk:Nat} {d:Array Nat} (h:LiesU w blk d) (j:Nat) (hj:j<d.size):w.cell? ⟨blk,j,none⟩=some (.int .u32 (d[j]! :Nat))/\w.frozen? ⟨blk,j,none⟩=false:=by
 obtain⟨r,h⟩:=h
 refine⟨?_, ?_⟩
 ·simp[go_sem,World.cell?,h,hj,Array.getElem?_append_left,ZeB]
 ·simp[go_sem,World.frozen?,h]
theorem Dl (d:Array Nat) (i j:Nat):(swp d i j).size=d.size:=by simp[swp]
theorem set_row (d:Array Nat) (r:Array Value) (i x:Nat) (hi:i<d.size):(d.map ZeB++r).setIfInBounds i (ZeB x)=(d.setIfInBounds i x).map ZeB++r:=by
 apply Array.toList_inj.1
 simp only[Array.toList_setIfInBounds,Array.toList_append,Array.toList_map]
 rw[List.set_append_left _ _ (by simpa using hi),List.map_set]
theorem LiesU.set {w:World} {blk:Nat} {d:Array Nat} (h:LiesU w blk d) (i x:Nat) (hi:i<d.size):LiesU (w.setCell ⟨blk,i,none⟩ (.int .u32 (x:Nat))) blk (d.setIfInBounds i x):=by
 obtain⟨r,h⟩:=h
 refine⟨r, ?_⟩
 rw[←set_row d r i x hi]
 simp[World.setCell,Array.getElem?_modify,h]
 rfl
theorem LiesU.swap {w:World} {blk:Nat} {d:Array Nat} (h:LiesU w blk d) (i j:Nat) (hi:i<d.size) (hj:j<d.size):
  LiesU ((w.setCell ⟨blk,i,none⟩ (.int .u32 (d[j]! :Nat))).setCell ⟨blk,j,none⟩ (.int .u32 (d[i]! :Nat))) blk (swp d i j):=by
 unfold swp
 exact(h.set i _ hi).set j _ (by simpa using hj)
theorem Kl (w:World) (o:Option Nat):w.grownBy w o:=⟨rfl,rfl,rfl,Nat.le_refl _,fun _ _ _=>rfl⟩
theorem Bx {w w1 w2:World} {o:Option Nat} (h:w.grownBy w1 o) (k:w1.grownBy w2 o):w.grownBy w2 o:=
 ⟨k.os.trans h.os,k.tape.trans h.tape,k.output.trans h.output,Nat.le_trans h.size k.size,fun b hb ho=>(k.block b (Nat.lt_of_lt_of_le hb h.size) ho).trans (h.block b hb ho)⟩
theorem Xu (w:World) (blk o:Nat) (v:Value):w.grownBy (w.setCell ⟨blk,o,none⟩ v) (some blk):=by
 refine⟨rfl,rfl,rfl,by simp[World.setCell], ?_⟩
 intro k _ hne
 have:blk≠k:=fun e=>hne (by rw[e])
 simp[World.setCell,Array.getElem?_modify,this]
theorem Dt (w:World) (blk i j:Nat) (v u:Value):w.grownBy ((w.setCell ⟨blk,i,none⟩ v).setCell ⟨blk,j,none⟩ u) (some blk):=Bx (Xu _ _ _ _) (Xu _ _ _ _)
def ltN (x y:Nat):Bool:=decide (x<y)
theorem nan36 (x:Nat) (w:World):Calls prog 251 #[.int .u32 (x:Nat)] w fun e w'=>e= .returned (.bool false)/\w'=w:=by
 go_enter func251,ntmps251
 go_wp2
 go_ret
 exact⟨rfl,rfl⟩
theorem Em (x y:Nat) (w:World):Calls prog 240 #[.int .u32 (x:Nat), .int .u32 (y:Nat)] w fun e w'=>e= .returned (.bool (ltN x y))/\w'=w:=by
 have hr:((x:Int)<y)=(x<y):=by simp
 unfold ltN
 go_enter func240,ntmps240
 go_wp2_with fail
 refine(nan36 x _).mono ?_
 rintro e w' ⟨rfl,rfl⟩
 go_wp2
 go_ret
 refine⟨?_,rfl⟩
 simp
theorem LiesU.grown {w w':World} {blk:Nat} {d:Array Nat} (h:LiesU w blk d) (hb:w'.heap[blk]? =w.heap[blk]?):LiesU w' blk d:=by
 obtain⟨r,h⟩:=h
 exact⟨r,hb.trans h⟩
theorem LiesU.drew {w:World} {blk:Nat} {d:Array Nat} (h:LiesU w blk d) (n:Nat):LiesU (w.drewN n) blk d:=h.grown rfl
theorem Dj {w w':World} {o:Option Nat} (h:w.grownBy w' o) (n:Nat):w.grownBy (w'.drewN n) o:=⟨h.os,h.tape,h.output,h.size,h.block⟩
theorem insI_go (a j:Nat) (d:Array Nat) (hj:a<j) (hl:ltN d[j]! d[j - 1]! =true):insInner ltN a j d=insInner ltN a (j - 1) (swp d j (j - 1)):=by
 cases j with
 |zero=>omega
 |succ j=>
  simp only[Nat.add_sub_cancel] at hl ⊢
  rw[insInner,if_pos]
  simp[hl,hj]
theorem ZbG (a j:Nat) (d:Array Nat) (h:j<=a∨ltN d[j]! d[j - 1]! =false):insInner ltN a j d=d:=by
 cases j with
 |zero=>rfl
 |succ j=>
  rw[insInner,if_neg]
  simp only[Nat.add_sub_cancel] at h
  rcases h with h|h
  ·simp;omega
  ·simp[h]
theorem Zfo (a b i:Nat) (d:Array Nat) (h:i<b):insOuter ltN a b i d=insOuter ltN a b (i+1) (insInner ltN a i d):=by rw[insOuter,if_pos h]
theorem Zgf (a b i:Nat) (d:Array Nat) (h: ¬i<b):insOuter ltN a b i d=d:=by rw[insOuter,if_neg h]
theorem Zdp (blk cap a b:Nat) (d:Array Nat) (w:World) (hL:LiesU w blk d) (hab:a<=b) (hb:b<=d.size) (hsz:d.size<=1500000):
  Calls prog 234 #[.slice (some ⟨blk,0,none⟩) d.size cap, .int .i64 a, .int .i64 b] w fun e w'=>e= .returned (.tuple #[])/\LiesU w' blk (insertionSort ltN d a b)/\w.grownBy w' (some blk):=by
 have HL:=Ab hL
 clear hL
 go_enter func234,ntmps234
 go_wp2_with fail
 go_loopg [6] (b+1) (fun g s6 wr=> ∃(i:Nat) (dk:Array Nat),s6= .int .i64 i/\a<i/\i<=b+1/\b+1 - i<=g/\Hid (dk.size=d.size)/\Hid (LiesU wr blk dk)/\Hid (w.grownBy wr (some blk))/\Hid (insOuter ltN a b i dk=insertionSort ltN d a b))
 case atStart=>exact⟨a+1,d,by go_num,by omega,by omega,by omega,Ab rfl,HL,Ab (Kl _ _),Ab rfl⟩
 case round=>
  obtain⟨i,dk,rfl,hai,hib,hg,hsk,hLk,hGk,hOk⟩:=hrel
  by_cases hlt:i<b
  ·have hiz:(i:Int)<b:=by omega
   go_wp2_with fail
   go_loopg [7] i (fun g s7 wr=> ∃(j:Nat) (dj:Array Nat),s7= .int .i64 j/\a<=j/\j<=i/\j<=g/\Hid (dj.size=d.size)/\Hid (LiesU wr blk dj)/\Hid (w.grownBy wr (some blk))/\Hid (insInner ltN a j dj=insInner ltN a i dk))
   case atStart=>exact⟨i,dk,rfl,by omega,Nat.le_refl _,Nat.le_refl _,hsk,hLk,hGk,Ab rfl⟩
   case round=>
    obtain⟨j,dj,rfl,haj,hji,hg2,hsj,hLj,hGj,hIj⟩:=hrel
    have hds:=Aa hsj
    by_cases hja:a<j
    ·obtain⟨c1,f1⟩:=(Aa hLj).cell j (by omega)
     obtain⟨c2,f2⟩:=(Aa hLj).cell (j - 1) (by omega)
     have HGo:=Ab (insI_go a j dj hja)
     have HSt:=Ab (fun h=>ZbG a j dj (.inr h))
     have HSw:=Ab (fun n=>((Aa hLj).drew n).swap j (j - 1) (by omega) (by omega))
     have z1:(a:Int)<j:=by omega
     have z2:(j:Int)<d.size:=by omega
     have z3:(j:Int) - 1<d.size:=by omega
     have z4:(0:Int)<=(j:Int) - 1:=by omega
     have z5:((j:Int) - 1).toNat=j - 1:=by omega
     have z6:IntKind.i64.wrap ((j:Int) - 1)=(j:Int) - 1:=by rw[IntKind.wrap_i64];omega
     have z7:(0:Int)<=j:=by omega
     clear hds
     generalize dj[j]! =x at *
     generalize dj[j - 1]! =y at *
     have HC:=Ab (Em x y)
     generalize ltN x y=r at *
     cases r
     ·have HE:=Ab (Aa HSt rfl)
      clear HSt HGo HSw
      go_wp2_with fail
      go_quiet ((go_at_call 240;refine Calls.quiet_of_same (Aa HC _)))
      go_wp2
      go_roundg (b+1 - (i+1))
      case measure=>omega
      case rel=>
       refine⟨i+1,dj,by go_num,by omega,by omega,Nat.le_refl _,hsj,Ab ((Aa hLj).drew _),Ab (Dj (Aa hGj) _),Ab ?_⟩
       rw[←Aa hOk,Zfo _ _ _ _ hlt,←Aa hIj,Aa HE]
     ·have HE:=Ab (Aa HGo rfl)
      clear HSt HGo
      go_wp2_with fail
      go_quiet ((go_at_call 240;refine Calls.quiet_of_same (Aa HC _)))
      go_wp2_with fail
      go_region
      all_goals go_wp2
      go_roundg (j - 1)
      case measure=>omega
      case rel=>exact⟨j - 1,swp dj j (j - 1),by go_num,by omega,by omega,Nat.le_refl _,Ab (by rw[Dl];exact Aa hsj),Ab (Aa HSw _),Ab (Bx (Dj (Aa hGj) _) (Dt _ _ _ _ _ _)),Ab (by rw[←Aa HE];exact Aa hIj)⟩
    ·have z1: ¬(a:Int)<j:=by omega
     have HE:=Ab (ZbG a j dj (.inl (by omega)))
     go_wp2_with fail
     go_quiet (fail)
     go_wp2
     go_roundg (b+1 - (i+1))
     case measure=>omega
     case rel=>
      refine⟨i+1,dj,by go_num,by omega,by omega,Nat.le_refl _,hsj,Ab ((Aa hLj).drew _),Ab (Dj (Aa hGj) _),Ab ?_⟩
      rw[←Aa hOk,Zfo _ _ _ _ hlt,←Aa hIj,Aa HE]
  ·have hiz: ¬(i:Int)<b:=by omega
   go_wp2
   go_end0
   refine⟨rfl, ?_,Aa hGk⟩
   rw[←Aa hOk,Zgf _ _ _ _ hlt]
   exact Aa hLk
end
section
open Go Go.Proofs Go.RowKit Go.Sort
theorem rv_go (i j:Nat) (d:Array Nat) (h:i<j):reverseLoop i j d=reverseLoop (i+1) (j - 1) (swp d i j):=by rw[reverseLoop,if_pos h]
theorem rv_stop (i j:Nat) (d:Array Nat) (h: ¬i<j):reverseLoop i j d=d:=by rw[reverseLoop,if_neg h]
theorem Zf0 (blk cap a b:Nat) (d:Array Nat) (w:World) (hL:LiesU w blk d) (hab:a<b) (hb:b<=d.size) (hsz:d.size<=1500000):
  Calls Tryz.prog 238 #[.slice (some ⟨blk,0,none⟩) d.size cap, .int .i64 a, .int .i64 b] w fun e w'=>e= .returned (.tuple #[])/\LiesU w' blk (reverseRange d a b)/\w.grownBy w' (some blk):=by
 have HL:=Ab hL
 clear hL
 have zb:IntKind.i64.wrap ((b:Int) - 1)=((b - 1:Nat):Int):=by rw[IntKind.wrap_i64];omega
 go_enter Tryz.func238,Tryz.ntmps238
 go_wp2_with fail
 go_loopg [6,7] (b+1) (fun g s6 s7 wr=> ∃(i j:Nat) (dk:Array Nat),s6= .int .i64 i/\s7= .int .i64 j/\a<=i/\i<=b/\j<b/\b+1 - i<=g/\Hid (dk.size=d.size)/\Hid (LiesU wr blk dk)/\Hid (w.grownBy wr (some blk))/\Hid (reverseLoop i j dk=reverseRange d a b))
 case atStart=>exact⟨a,b - 1,d,rfl,rfl,Nat.le_refl _,by omega,by omega,by omega,Ab rfl,HL,Ab (Kl _ _),Ab rfl⟩
 case round=>
  obtain⟨i,j,dk,rfl,rfl,hai,hib,hjb,hg,hsk,hLk,hGk,hOk⟩:=hrel
  have hds:=Aa hsk
  by_cases hlt:i<j
  ·have hiz:(i:Int)<j:=by omega
   obtain⟨c1,f1⟩:=(Aa hLk).cell i (by omega)
   obtain⟨c2,f2⟩:=(Aa hLk).cell j (by omega)
   have HGo:=Ab (rv_go i j dk hlt)
   have HSw:=Ab (fun n=>((Aa hLk).drew n).swap i j (by omega) (by omega))
   have z2:(j:Int)<d.size:=by omega
   have z3:(i:Int)<d.size:=by omega
   have z4:IntKind.i64.wrap ((j:Int) - 1)=((j - 1:Nat):Int):=by rw[IntKind.wrap_i64];omega
   have z5:IntKind.i64.wrap ((i:Int)+1)=((i+1:Nat):Int):=by rw[IntKind.wrap_i64];omega
   have n1: ¬i=j:=by omega
   have n2: ¬j=i:=by omega
   clear hds
   generalize dk[i]! =x at *
   generalize dk[j]! =y at *
   go_wp2_with fail
   go_region
   all_goals go_wp2
   go_roundg (b+1 - (i+1))
   case measure=>omega
   case rel=>exact⟨i+1,j - 1,swp dk i j,by go_num,by go_num,by omega,by omega,by omega,Nat.le_refl _,Ab (by rw[Dl];exact Aa hsk),Ab (Aa HSw _),Ab (Bx (Dj (Aa hGk) _) (Dt _ _ _ _ _ _)),Ab (by rw[←Aa HGo];exact Aa hOk)⟩
  ·have hiz: ¬(i:Int)<j:=by omega
   go_wp2
   go_end0
   refine⟨rfl, ?_,Aa hGk⟩
   rw[←Aa hOk,rv_stop _ _ _ hlt]
   exact Aa hLk
def Pt (w:World) (B:Nat) (n:Nat):Prop:=w.heap[B]? =some (.cells #[.int .i64 (n:Int)] 3 (0,0))
theorem Pt.cell {w:World} {B n:Nat} (h:Pt w B n):w.cell? ⟨B,0,none⟩=some (.int .i64 (n:Int))/\w.frozen? ⟨B,0,none⟩=false/\B<w.heap.size:=by
 unfold Pt at h
 exact⟨by simp[go_sem,World.cell?,h],by simp[go_sem,World.frozen?,h],(Array.getElem?_eq_some_iff.1 h).1⟩
theorem Pt.set {w:World} {B n:Nat} (h:Pt w B n) (m:Nat):Pt (w.setCell ⟨B,0,none⟩ (.int .i64 (m:Int))) B m:=by
 unfold Pt at *
 simp[World.setCell,Array.getElem?_modify,h]
theorem Zcf (blk cap a b B s:Nat) (d:Array Nat) (w:World) (hL:LiesU w blk d) (hP:Pt w B s)  (ha:a<d.size) (hb:b<d.size) (hsz:d.size<=1500000) (hs:s<=100:=by omega):
  Calls Tryz.prog 256 #[.slice (some ⟨blk,0,none⟩) d.size cap, .int .i64 a, .int .i64 b, .pointer (some ⟨B,0,none⟩)] w fun e w'=> ∃x y s':Nat,e= .returned (.tuple #[.int .i64 x, .int .i64 y])/\(x=a/\y=b∨x=b/\y=a)/\s'<=s+1/\Pt w' B s'/\w.grownBy w' (some B):=by
 obtain⟨c1,f1⟩:=hL.cell a ha
 obtain⟨c2,f2⟩:=hL.cell b hb
 obtain⟨p1,p2,p3⟩:=hP.cell
 have HP:=Ab hP
 have z1:(a:Int)<d.size:=by omega
 have z2:(b:Int)<d.size:=by omega
 have z3:IntKind.i64.wrap ((s:Int)+1)=((s+1:Nat):Int):=by rw[IntKind.wrap_i64];omega
 clear hL hP
 generalize d[a]! =x at *
 generalize d[b]! =y at *
 have HC:=Ab (Em y x)
 generalize ltN y x=r at *
 cases r
 ·go_enter Tryz.func256,Tryz.ntmps256
  go_wp2_with fail
  go_quiet ((go_at_call 240;refine Calls.quiet_of_same (Aa HC _)))
  go_wp2
  go_ret2
  exact⟨a,b,s,rfl, .inl ⟨rfl,rfl⟩,by omega,Aa HP,Dj (Kl _ _) _⟩
 ·go_enter Tryz.func256,Tryz.ntmps256
  go_wp2_with fail
  go_quiet ((go_at_call 240;refine Calls.quiet_of_same (Aa HC _)))
  go_wp2
  go_ret2
  exact⟨b,a,s+1,rfl, .inr ⟨rfl,rfl⟩,by omega,Pt.set (w:=w.drewN _) (Aa HP) (s+1),Bx (Dj (Kl _ _) _) (Xu _ _ _ _)⟩
