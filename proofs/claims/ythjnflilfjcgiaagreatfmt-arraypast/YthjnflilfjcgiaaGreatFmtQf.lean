import Derived.Test.YthjnflilfjcgiaaGreatFmtQe
import Derived.Test.YthjnflilfjcgiaaGreatFmtChecked
import Derived.WalkSpells
import Derived.WalkLawsBesides
import Derived.Laws.BitsAllLaws
import Derived.Laws.AppendOwn
import Derived.Deep.LoopGhost
import Derived.Sort.Statements
import Derived.BigRegion
import Derived.RangeFuncNested
import Derived.RangeFuncBound
import Derived.RangeFuncCalls
import Derived.RangeFuncLeaves
import Derived.RangeFuncBox
import Derived.Shelf.Abstract
import Derived.Shelf.RegionOpen
import Derived.OwnWalkIn
import Derived.TacticsInMore
import Derived.LoopNIn
import Derived.LoopIn
import Derived.Maps.AppendAt
import Derived.Laws.BytesArg
import Derived.Laws.IdiomStrings
import Derived.Deep.AppendLies
import Derived.Deep.RegionHeld3
import Derived.Sort.LotC
set_option linter.all false
namespace Go.Proofs.YthjnflilfjcgiaaGreatFmt
set_option maxRecDepth 100000
set_option maxHeartbeats 0
section
open Go Go.Proofs Go.RowKit Go.Sort Tryz
def ZbV (n:Nat):Value:= .int .u32 (n:Int)
def LiesU (w:World) (blk:Nat) (d:Array Nat):Prop:= ∃r:Array Value,w.heap[blk]? =some (.cells (d.map ZbV++r) 44 (0,0))
theorem LiesU.lt {w:World} {blk:Nat} {d:Array Nat} (h:LiesU w blk d):blk<w.heap.size:=by
 obtain⟨r,h⟩:=h
 exact(Array.getElem?_eq_some_iff.1 h).1
theorem LiesU.cell {w:World} {blk:Nat} {d:Array Nat} (h:LiesU w blk d) (j:Nat) (hj:j<d.size):w.cell? ⟨blk,j,none⟩=some (.int .u32 (d[j]! :Nat))/\w.frozen? ⟨blk,j,none⟩=false:=by
 obtain⟨r,h⟩:=h
 refine⟨?_, ?_⟩
 ·simp[go_sem,World.cell?,h,hj,Array.getElem?_append_left,ZbV]
 ·simp[go_sem,World.frozen?,h]
theorem Dm (d:Array Nat) (i j:Nat):(swp d i j).size=d.size:=by simp[swp]
theorem set_row (d:Array Nat) (r:Array Value) (i x:Nat) (hi:i<d.size):(d.map ZbV++r).setIfInBounds i (ZbV x)=(d.setIfInBounds i x).map ZbV++r:=by
 apply Array.toList_inj.1
 simp only[Array.toList_setIfInBounds,Array.toList_append,Array.toList_map]
 rw[List.set_append_left _ _ (by simpa using hi),List.map_set]
theorem LiesU.set {w:World} {blk:Nat} {d:Array Nat} (h:LiesU w blk d) (i x:Nat) (hi:i<d.size):LiesU (w.setCell ⟨blk,i,none⟩ (.int .u32 (x:Nat))) blk (d.setIfInBounds i x):=by
 obtain⟨r,h⟩:=h
 refine⟨r, ?_⟩
 rw[←set_row d r i x hi]
 simp[World.setCell,Array.getElem?_modify,h]
 rfl
theorem LiesU.swap {w:World} {blk:Nat} {d:Array Nat} (h:LiesU w blk d) (i j:Nat) (hi:i<d.size) (hj:j<d.size):
  LiesU ((w.setCell ⟨blk,i,none⟩ (.int .u32 (d[j]! :Nat))).setCell ⟨blk,j,none⟩ (.int .u32 (d[i]! :Nat))) blk (swp d i j):=by
 unfold swp
 exact(h.set i _ hi).set j _ (by simpa using hj)
theorem Jr (w:World) (o:Option Nat):w.grownBy w o:=⟨rfl,rfl,rfl,Nat.le_refl _,fun _ _ _=>rfl⟩
theorem Bw {w w1 w2:World} {o:Option Nat} (h:w.grownBy w1 o) (k:w1.grownBy w2 o):w.grownBy w2 o:=
 ⟨k.os.trans h.os,k.tape.trans h.tape,k.output.trans h.output,Nat.le_trans h.size k.size,fun b hb ho=>(k.block b (Nat.lt_of_lt_of_le hb h.size) ho).trans (h.block b hb ho)⟩
theorem Qk (w:World) (blk o:Nat) (v:Value):w.grownBy (w.setCell ⟨blk,o,none⟩ v) (some blk):=by
 refine⟨rfl,rfl,rfl,by simp[World.setCell], ?_⟩
 intro k _ hne
 have:blk≠k:=fun e=>hne (by rw[e])
 simp[World.setCell,Array.getElem?_modify,this]
theorem Dt (w:World) (blk i j:Nat) (v u:Value):w.grownBy ((w.setCell ⟨blk,i,none⟩ v).setCell ⟨blk,j,none⟩ u) (some blk):=Bw (Qk _ _ _ _) (Qk _ _ _ _)
def ltN (x y:Nat):Bool:=decide (x<y)
theorem nan36 (x:Nat) (w:World):Calls prog 181 #[.int .u32 (x:Nat)] w fun e w'=>e= .returned (.bool false)/\w'=w:=by
 go_enter func181,ntmps181
 go_wp2
 go_ret
 exact⟨rfl,rfl⟩
theorem Ek (x y:Nat) (w:World):Calls prog 172 #[.int .u32 (x:Nat), .int .u32 (y:Nat)] w fun e w'=>e= .returned (.bool (ltN x y))/\w'=w:=by
 have hr:((x:Int)<y)=(x<y):=by simp
 unfold ltN
 go_enter func172,ntmps172
 go_wp2_with fail
 refine(nan36 x _).mono ?_
 rintro e w' ⟨rfl,rfl⟩
 go_wp2
 go_ret
 refine⟨?_,rfl⟩
 simp
theorem LiesU.grown {w w':World} {blk:Nat} {d:Array Nat} (h:LiesU w blk d) (hb:w'.heap[blk]? =w.heap[blk]?):LiesU w' blk d:=by
 obtain⟨r,h⟩:=h
 exact⟨r,hb.trans h⟩
theorem LiesU.drew {w:World} {blk:Nat} {d:Array Nat} (h:LiesU w blk d) (n:Nat):LiesU (w.drewN n) blk d:=h.grown rfl
theorem Dj {w w':World} {o:Option Nat} (h:w.grownBy w' o) (n:Nat):w.grownBy (w'.drewN n) o:=⟨h.os,h.tape,h.output,h.size,h.block⟩
theorem insI_go (a j:Nat) (d:Array Nat) (hj:a<j) (hl:ltN d[j]! d[j - 1]! =true):insInner ltN a j d=insInner ltN a (j - 1) (swp d j (j - 1)):=by
 cases j with
 |zero=>omega
 |succ j=>
  simp only[Nat.add_sub_cancel] at hl ⊢
  rw[insInner,if_pos]
  simp[hl,hj]
theorem Yj (a j:Nat) (d:Array Nat) (h:j<=a∨ltN d[j]! d[j - 1]! =false):insInner ltN a j d=d:=by
 cases j with
 |zero=>rfl
 |succ j=>
  rw[insInner,if_neg]
  simp only[Nat.add_sub_cancel] at h
  rcases h with h|h
  ·simp;omega
  ·simp[h]
theorem Zcp (a b i:Nat) (d:Array Nat) (h:i<b):insOuter ltN a b i d=insOuter ltN a b (i+1) (insInner ltN a i d):=by rw[insOuter,if_pos h]
theorem Zc7 (a b i:Nat) (d:Array Nat) (h: ¬i<b):insOuter ltN a b i d=d:=by rw[insOuter,if_neg h]
theorem ZaZ (blk cap a b:Nat) (d:Array Nat) (w:World) (hL:LiesU w blk d) (hab:a<=b) (hb:b<=d.size) (hsz:d.size<=1500000):
  Calls prog 166 #[.slice (some ⟨blk,0,none⟩) d.size cap, .int .i64 a, .int .i64 b] w fun e w'=>e= .returned (.tuple #[])/\LiesU w' blk (insertionSort ltN d a b)/\w.grownBy w' (some blk):=by
 have HL:=Ab hL
 clear hL
 go_enter func166,ntmps166
 go_wp2_with fail
 go_loopg [6] (b+1) (fun g s6 wr=> ∃(i:Nat) (dk:Array Nat),s6= .int .i64 i/\a<i/\i<=b+1/\b+1 - i<=g/\Hid (dk.size=d.size)/\Hid (LiesU wr blk dk)/\Hid (w.grownBy wr (some blk))/\Hid (insOuter ltN a b i dk=insertionSort ltN d a b))
 case atStart=>exact⟨a+1,d,by go_num,by omega,by omega,by omega,Ab rfl,HL,Ab (Jr _ _),Ab rfl⟩
 case round=>
  obtain⟨i,dk,rfl,hai,hib,hg,hsk,hLk,hGk,hOk⟩:=hrel
  by_cases hlt:i<b
  ·have hiz:(i:Int)<b:=by omega
   go_wp2_with fail
   go_loopg [7] i (fun g s7 wr=> ∃(j:Nat) (dj:Array Nat),s7= .int .i64 j/\a<=j/\j<=i/\j<=g/\Hid (dj.size=d.size)/\Hid (LiesU wr blk dj)/\Hid (w.grownBy wr (some blk))/\Hid (insInner ltN a j dj=insInner ltN a i dk))
   case atStart=>exact⟨i,dk,rfl,by omega,Nat.le_refl _,Nat.le_refl _,hsk,hLk,hGk,Ab rfl⟩
   case round=>
    obtain⟨j,dj,rfl,haj,hji,hg2,hsj,hLj,hGj,hIj⟩:=hrel
    have hds:=Aa hsj
    by_cases hja:a<j
    ·obtain⟨c1,f1⟩:=(Aa hLj).cell j (by omega)
     obtain⟨c2,f2⟩:=(Aa hLj).cell (j - 1) (by omega)
     have HGo:=Ab (insI_go a j dj hja)
     have HSt:=Ab (fun h=>Yj a j dj (.inr h))
     have HSw:=Ab (fun n=>((Aa hLj).drew n).swap j (j - 1) (by omega) (by omega))
     have z1:(a:Int)<j:=by omega
     have z2:(j:Int)<d.size:=by omega
     have z3:(j:Int) - 1<d.size:=by omega
     have z4:(0:Int)<=(j:Int) - 1:=by omega
     have z5:((j:Int) - 1).toNat=j - 1:=by omega
     have z6:IntKind.i64.wrap ((j:Int) - 1)=(j:Int) - 1:=by rw[IntKind.wrap_i64];omega
     have z7:(0:Int)<=j:=by omega
     clear hds
     generalize dj[j]! =x at *
     generalize dj[j - 1]! =y at *
     have HC:=Ab (Ek x y)
     generalize ltN x y=r at *
     cases r
     ·have HE:=Ab (Aa HSt rfl)
      clear HSt HGo HSw
      go_wp2_with fail
      go_quiet ((go_at_call 172;refine Calls.quiet_of_same (Aa HC _)))
      go_wp2
      go_roundg (b+1 - (i+1))
      case measure=>omega
      case rel=>
       refine⟨i+1,dj,by go_num,by omega,by omega,Nat.le_refl _,hsj,Ab ((Aa hLj).drew _),Ab (Dj (Aa hGj) _),Ab ?_⟩
       rw[←Aa hOk,Zcp _ _ _ _ hlt,←Aa hIj,Aa HE]
     ·have HE:=Ab (Aa HGo rfl)
      clear HSt HGo
      go_wp2_with fail
      go_quiet ((go_at_call 172;refine Calls.quiet_of_same (Aa HC _)))
      go_wp2_with fail
      go_region
      all_goals go_wp2
      go_roundg (j - 1)
      case measure=>omega
      case rel=>exact⟨j - 1,swp dj j (j - 1),by go_num,by omega,by omega,Nat.le_refl _,Ab (by rw[Dm];exact Aa hsj),Ab (Aa HSw _),Ab (Bw (Dj (Aa hGj) _) (Dt _ _ _ _ _ _)),Ab (by rw[←Aa HE];exact Aa hIj)⟩
    ·have z1: ¬(a:Int)<j:=by omega
     have HE:=Ab (Yj a j dj (.inl (by omega)))
     go_wp2_with fail
     go_quiet (fail)
     go_wp2
     go_roundg (b+1 - (i+1))
     case measure=>omega
     case rel=>
      refine⟨i+1,dj,by go_num,by omega,by omega,Nat.le_refl _,hsj,Ab ((Aa hLj).drew _),Ab (Dj (Aa hGj) _),Ab ?_⟩
      rw[←Aa hOk,Zcp _ _ _ _ hlt,←Aa hIj,Aa HE]
  ·have hiz: ¬(i:Int)<b:=by omega
   go_wp2
   go_end0
   refine⟨rfl, ?_,Aa hGk⟩
   rw[←Aa hOk,Zc7 _ _ _ _ hlt]
   exact Aa hLk
end
section
open Go.RowKit Go.Shelf
attribute [local go_sem] Oper.semAt_some
abbrev CP:={c:Nat // c<=1114111}
abbrev PT:={x:Nat×Nat // x.2<=1114111}
def Qa (x:PT):Array Value:= #[.int .i64 (x.1.1:Nat), .int .i32 (x.1.2:Nat)]
def bytes (cs:List CP):List Nat:=(cs.map (·.1)).flatMap M.E

theorem Qg {w:World} (h:Lib.Utf8Tabs 4 5 w):6<=w.heap.size:=by
 have:=(h.2 0 (by omega)).1
 rcases Nat.lt_or_ge 5 w.heap.size with h'|h'
 ·omega
 ·simp[World.cell?,Array.getElem?_eq_none h'] at this
theorem Zau {B:Nat} {w w':World} (h:Lib.Utf8Tabs 4 5 w) (hB:6<=B) (hb:Below B w w'):Lib.Utf8Tabs 4 5 w':=
 ⟨fun c hc=>(hb.cell (p:=⟨4,c,none⟩) (by show 4<B;omega)).trans (h.1 c hc),fun i hi=>⟨(hb.cell (p:=⟨5,2 * i,none⟩) (by show 5<B;omega)).trans (h.2 i hi).1,(hb.cell (p:=⟨5,2 * i+1,none⟩) (by show 5<B;omega)).trans (h.2 i hi).2⟩⟩
theorem Dz {w w':World} (h:Below w.heap.size w w'):w.grownBy w' none:=⟨h.os,h.tape,h.output,h.size,fun k hk _=>h.block k hk⟩

end
section
open Go.RowKit Go.Shelf
theorem toList_inj {s t:ByteArray} (h:s.toList=t.toList):s=t:=by
 rw[Lib.toList_data,Lib.toList_data] at h
 cases s;cases t
 simp only[ByteArray.mk.injEq]
 exact Array.toList_inj.1 h
def vS (s:ByteArray):Bool:=M.valid false (Dn s)
end
section
open Go Go.Proofs Go.RowKit Go.Sort
theorem Zb3 (p:Nat->Bool) (d:Array Nat) (j i:Nat) (h:i<=j) (hp:p d[i]! =true):scanUp p d j i=scanUp p d j (i+1):=by
 rw[scanUp,if_pos (by simp[h,hp])]
theorem Ph (p:Nat->Bool) (d:Array Nat) (j i:Nat) (h: ¬i<=j∨p d[i]! =false):scanUp p d j i=i:=by
 rw[scanUp,if_neg]
 rcases h with h|h
 ·simp[h]
 ·simp[h]
theorem Zby (p:Nat->Bool) (d:Array Nat) (i j:Nat) (h:i<=j) (h0:0<i) (hp:p d[j]! =true):scanDown p d i j=scanDown p d i (j - 1):=by
 cases j with
 |zero=>omega
 |succ j=>rw[scanDown,if_pos (by simp[h,hp])];rfl
theorem Ug (p:Nat->Bool) (d:Array Nat) (i j:Nat) (h: ¬i<=j∨p d[j]! =false):scanDown p d i j=j:=by
 cases j with
 |zero=>rfl
 |succ j=>
  rw[scanDown,if_neg]
  rcases h with h|h
  ·simp[h]
  ·simp[h]
theorem su_ge (p:Nat->Bool) (d:Array Nat) (j:Nat): ∀(n i:Nat),j+1 - i<=n->i<=scanUp p d j i/\(i<=j+1->scanUp p d j i<=j+1):=by
 intro n
 induction n with
 |zero=>intro i h;rw[Ph p d j i (.inl (by omega))];omega
 |succ n ih=>
  intro i h
  by_cases hc:i<=j/\p d[i]! =true
  ·rw[Zb3 p d j i hc.1 hc.2]
   have:=ih (i+1) (by omega)
   omega
  ·rw[Ph p d j i (by by_cases e:i<=j;exact .inr (by cases h:p d[i]!;rfl;exact absurd ⟨e,h⟩ hc);exact .inl e)]
   omega
theorem sdn_le (p:Nat->Bool) (d:Array Nat) (i:Nat): ∀j,scanDown p d i j<=j/\(i<=j+1->i<=scanDown p d i j+1):=by
 intro j
 induction j with
 |zero=>simp[scanDown]
 |succ j ih=>
  unfold scanDown
  split
  ·rename_i h
   simp at h
   omega
  ·omega
theorem pl_eq (a i j:Nat) (d:Array Nat) (i2 j2:Nat) (h1:scanUp (fun x=>ltN x d[a]!) d j i=i2) (h2:scanDown (fun x=> !ltN x d[a]!) d i2 j=j2):
  partLoop ltN a i j d=if i2>j2 then (j2,d) else partLoop ltN a (i2+1) (j2 - 1) (swp d i2 j2):=by
 have g1:=(su_ge (fun x=>ltN x d[a]!) d j _ i (Nat.le_refl _)).1
 have g2:=(sdn_le (fun x=> !ltN x d[a]!) d i2 j).1
 rw[h1] at g1
 rw[h2] at g2
 rw[partLoop]
 simp only[h1,h2]
 split
 ·rfl
 ·rw[dif_pos (by omega)]
theorem pe_eq (a i j:Nat) (d:Array Nat) (i2 j2:Nat) (h1:scanUp (fun x=> !ltN d[a]! x) d j i=i2) (h2:scanDown (fun x=>ltN d[a]! x) d i2 j=j2):
  partEqLoop ltN a i j d=if i2>j2 then (i2,d) else partEqLoop ltN a (i2+1) (j2 - 1) (swp d i2 j2):=by
 have g1:=(su_ge (fun x=> !ltN d[a]! x) d j _ i (Nat.le_refl _)).1
 have g2:=(sdn_le (fun x=>ltN d[a]! x) d i2 j).1
 rw[h1] at g1
 rw[h2] at g2
 rw[partEqLoop]
 simp only[h1,h2]
 split
 ·rfl
 ·rw[dif_pos (by omega)]
theorem parteq68 (blk cap a b p:Nat) (d:Array Nat) (w:World) (hL:LiesU w blk d) (hap:a<=p) (hpb:p<b) (hb:b<=d.size) (hsz:d.size<=1500000):
  Calls Tryz.prog 173 #[.slice (some ⟨blk,0,none⟩) d.size cap, .int .i64 a, .int .i64 b, .int .i64 p] w fun e w'=>e= .returned (.int .i64 ((partitionEqual ltN d a b p).1:Nat))/\LiesU w' blk (partitionEqual ltN d a b p).2/\w.grownBy w' (some blk):=by
 have HL:=Ab hL
 obtain⟨c1,f1⟩:=hL.cell a (by omega)
 obtain⟨c2,f2⟩:=hL.cell p (by omega)
 have HSw:=Ab (fun n=>(hL.drew n).swap a p (by omega) (by omega))
 clear hL
 have z1:(a:Int)<d.size:=by omega
 have z2:(p:Int)<d.size:=by omega
 have z3:IntKind.i64.wrap ((a:Int)+1)=((a+1:Nat):Int):=by rw[IntKind.wrap_i64];omega
 have z4:IntKind.i64.wrap ((b:Int) - 1)=((b - 1:Nat):Int):=by rw[IntKind.wrap_i64];omega
 have HD:Hid (partitionEqual ltN d a b p=partEqLoop ltN a (a+1) (b - 1) (swp d a p)):=Ab rfl
 have HZ:=Ab (Dm d a p)
 generalize partitionEqual ltN d a b p=res at *
 generalize swp d a p=d1 at *
 have hcase:=Classical.em (a=p)
 rcases hcase with hne|hne
 all_goals
  first
  |(subst hne
    generalize d[a]! =x at *
    go_enter Tryz.func173,Tryz.ntmps173
    go_wp2_with fail
    go_region
    all_goals go_wp2_with fail
    obtain⟨X,hX⟩: ∃X,X=((w.setCell ⟨blk,a,none⟩ (.int .u32 (x:Nat))).setCell ⟨blk,a,none⟩ (.int .u32 (x:Nat))).drew:=⟨_,rfl⟩
    rw[←hX]
    have HLX:Hid (LiesU X blk d1):=Ab (by rw[hX];exact LiesU.grown (Aa HSw 0) rfl)
    have HGX:Hid (w.grownBy X (some blk)):=Ab (by rw[hX];exact(have g0:=Dt w blk a a _ _;⟨g0.os,g0.tape,g0.output,g0.size,g0.block⟩))
    clear hX)
  |(have n1: ¬p=a:=(by omega)
    generalize d[a]! =x at *
    generalize d[p]! =y at *
    go_enter Tryz.func173,Tryz.ntmps173
    go_wp2_with fail
    go_region
    all_goals go_wp2_with fail
    obtain⟨X,hX⟩: ∃X,X=((w.setCell ⟨blk,a,none⟩ (.int .u32 (y:Nat))).setCell ⟨blk,p,none⟩ (.int .u32 (x:Nat))).drew:=⟨_,rfl⟩
    rw[←hX]
    have HLX:Hid (LiesU X blk d1):=Ab (by rw[hX];exact LiesU.grown (Aa HSw 0) rfl)
    have HGX:Hid (w.grownBy X (some blk)):=Ab (by rw[hX];exact(have g0:=Dt w blk a p _ _;⟨g0.os,g0.tape,g0.output,g0.size,g0.block⟩))
    clear hX)
  clear c1 c2 f1 f2 HSw
  go_loopg [9,10] (d.size+1) (fun g s9 s10 wr=> ∃(i j:Nat) (dk:Array Nat),s9= .int .i64 i/\s10= .int .i64 j/\a+1<=i/\i<=b/\j<b/\a<=j/\d.size+1 - i<=g/\Hid (dk.size=d.size)/\Hid (LiesU wr blk dk)/\Hid (w.grownBy wr (some blk))/\Hid (partEqLoop ltN a i j dk=res))
  case atStart=>exact⟨a+1,b - 1,d1,by go_num,rfl,Nat.le_refl _,by omega,by omega,by omega,by omega,HZ,HLX,HGX,Ab (Aa HD).symm⟩
  case round=>
   obtain⟨i,j,dk,rfl,rfl,hai,hib,hjb,haj,hg,hsk,hLk,hGk,hOk⟩:=hrel
   obtain⟨w0,hw0⟩: ∃w0,w0=wr:=⟨wr,rfl⟩
   subst hw0
   go_wp2_with fail
   go_loopg [9] (d.size+1) (fun g s wr=> ∃i2:Nat,s= .int .i64 i2/\i<=i2/\i2<=d.size/\(i2<=j+1∨i2=i)/\d.size+1 - i2<=g/\Hid (LiesU wr blk dk)/\Hid (w.grownBy wr (some blk))/\Hid (scanUp (fun x=> !ltN dk[a]! x) dk j i2=scanUp (fun x=> !ltN dk[a]! x) dk j i))
   case atStart=>exact⟨i,rfl,Nat.le_refl _,by omega, .inr rfl,by omega,hLk,hGk,Ab rfl⟩
   case round=>
    obtain⟨i2,rfl,hi1,hi2,hi3,hgi,hLi,hGi,hSi⟩:=hrel
    have hds:=Aa hsk
    by_cases hcont:i2<=j/\ltN dk[a]! dk[i2]! =false
    ·obtain⟨c1,f1⟩:=(Aa hLi).cell a (by omega)
     obtain⟨c2,f2⟩:=(Aa hLi).cell i2 (by omega)
     have HE:=Ab (Zb3 (fun x=> !ltN dk[a]! x) dk j i2 hcont.1 (by simp[hcont.2]))
     have HC:=Ab (Ek dk[a]! dk[i2]!)
     have y1:(i2:Int)<=j:=by omega
     have y2:(i2:Int)<d.size:=by omega
     have y3:IntKind.i64.wrap ((i2:Int)+1)=((i2+1:Nat):Int):=by rw[IntKind.wrap_i64];omega
     rw[hcont.2] at HC
     have hle:=hcont.1
     clear hds hcont
     generalize dk[a]! =pv at *
     generalize dk[i2]! =xv at *
     go_wp2_with fail
     go_quiet ((go_at_call 172;refine(Aa HC _).mono ?_;rintro e w9 ⟨rfl,rfl⟩;exact⟨rfl,_,rfl⟩))
     go_wp2
     go_roundg (d.size+1 - (i2+1))
     case measure=>omega
     case rel=>exact⟨i2+1,by go_num,by omega,by omega, .inl (by omega),Nat.le_refl _,Ab ((Aa hLi).grown rfl),Ab ⟨(Aa hGi).os,(Aa hGi).tape,(Aa hGi).output,(Aa hGi).size,(Aa hGi).block⟩,Ab (by rw[←Aa HE];exact Aa hSi)⟩
    ·have hstop: ¬i2<=j∨ltN dk[a]! dk[i2]! = !false:=by
      by_cases e:i2<=j
      ·right
       cases h:ltN dk[a]! dk[i2]!
       all_goals first|rfl|exact absurd ⟨e,h⟩ hcont
      ·exact .inl e
     have HSA:=Ab hstop
     have HI2:Hid (scanUp (fun x=> !ltN dk[a]! x) dk j i=i2):=Ab (by rw[←Aa hSi];exact Ph _ _ _ _ (by rcases hstop with h|h;exact .inl h;exact .inr (by simp[h])))
     clear hstop hSi
     have hle:=Classical.em (i2<=j)
     rcases hle with hle|hle
     all_goals
      first
      |(obtain⟨c1,f1⟩:=(Aa hLi).cell a (by omega)
        obtain⟨c2,f2⟩:=(Aa hLi).cell i2 (by omega)
        have HC:=Ab (Ek dk[a]! dk[i2]!)
        have hr:ltN dk[a]! dk[i2]! = !false:=(by rcases Aa HSA with h|h;exact absurd hle h;exact h)
        rw[hr] at HC
        have y1:(i2:Int)<=j:=(by omega)
        have y2:(i2:Int)<d.size:=(by omega)
        clear hds hcont hr
        generalize dk[a]! =pv at c1 HC
        generalize dk[i2]! =xv at c2 HC
        go_wp2_with fail
        go_quiet ((go_at_call 172;refine(Aa HC _).mono ?_;rintro e w9 ⟨rfl,rfl⟩;exact⟨rfl,_,rfl⟩))
        clear HC c1 c2 f1 f2 y1 y2)
      |(have y0: ¬(i2:Int)<=j:=(by omega)
        clear hds hcont
        go_wp2_with fail
        have y1:decide ((i2:Int)<=j)=false:=decide_eq_false (by omega)
        go_quiet (fail)
        clear y0 y1)
      obtain⟨w1,hw1⟩: ∃w1,w1=wr.drewN nq:=⟨_,rfl⟩
      have HL1:Hid (LiesU w1 blk dk):=Ab (by rw[hw1];exact(Aa hLi).grown rfl)
      have HG1:Hid (w.grownBy w1 (some blk)):=Ab (by rw[hw1];exact Dj (Aa hGi) _)
      rw[←hw1]
      clear hw1 hLi hGi
      go_wp2_with fail
      go_loopg [10] (d.size+1) (fun g s wr=> ∃j2:Nat,s= .int .i64 j2/\j2<=j/\(i2<=j2+1∨j2=j)/\a<=j2/\j2<=g/\Hid (LiesU wr blk dk)/\Hid (w.grownBy wr (some blk))/\Hid (scanDown (fun x=>ltN dk[a]! x) dk i2 j2=scanDown (fun x=>ltN dk[a]! x) dk i2 j))
      case atStart=>exact⟨j,rfl,Nat.le_refl _, .inr rfl,by omega,by have:=Aa hsk;omega,HL1,HG1,Ab rfl⟩
      case round=>
       obtain⟨j2,rfl,hj1,hj2,hj3,hgj,hLj,hGj,hSj⟩:=hrel
       have hds:=Aa hsk
       by_cases hcont2:i2<=j2/\ltN dk[a]! dk[j2]! =true
       ·obtain⟨c1,f1⟩:=(Aa hLj).cell a (by omega)
        obtain⟨c2,f2⟩:=(Aa hLj).cell j2 (by omega)
        have HE:=Ab (Zby (fun x=>ltN dk[a]! x) dk i2 j2 hcont2.1 (by omega) (by simp[hcont2.2]))
        have HC:=Ab (Ek dk[a]! dk[j2]!)
        have y1:(i2:Int)<=j2:=by omega
        have y2:(j2:Int)<d.size:=by omega
        have y3:IntKind.i64.wrap ((j2:Int) - 1)=((j2 - 1:Nat):Int):=by rw[IntKind.wrap_i64];omega
        rw[hcont2.2] at HC
        have hle2:=hcont2.1
        clear hds hcont2
        generalize dk[a]! =pv at c1 HC
        generalize dk[j2]! =xv at c2 HC
        go_wp2_with fail
        go_quiet ((go_at_call 172;refine(Aa HC _).mono ?_;rintro e w9 ⟨rfl,rfl⟩;exact⟨rfl,_,rfl⟩))
        go_wp2
        go_roundg (j2 - 1)
        case measure=>omega
        case rel=>exact⟨j2 - 1,by go_num,by omega, .inl (by omega),by omega,Nat.le_refl _,Ab ((Aa hLj).grown rfl),Ab ⟨(Aa hGj).os,(Aa hGj).tape,(Aa hGj).output,(Aa hGj).size,(Aa hGj).block⟩,Ab (by rw[←Aa HE];exact Aa hSj)⟩
       ·have hstop2: ¬i2<=j2∨ltN dk[a]! dk[j2]! = !true:=by
         by_cases e:i2<=j2
         ·right
          cases h:ltN dk[a]! dk[j2]!
          all_goals first|rfl|exact absurd ⟨e,h⟩ hcont2
         ·exact .inl e
        have HJ2:Hid (scanDown (fun x=>ltN dk[a]! x) dk i2 j=j2):=Ab (by rw[←Aa hSj];exact Ug _ _ _ _ (by rcases hstop2 with h|h;exact .inl h;exact .inr (by simp[h])))
        clear hSj
        by_cases hle2:i2<=j2
        ·obtain⟨c1,f1⟩:=(Aa hLj).cell a (by omega)
         obtain⟨c2,f2⟩:=(Aa hLj).cell j2 (by omega)
         have hrB:ltN dk[a]! dk[j2]! = !true:=by rcases hstop2 with h|h;exact absurd hle2 h;exact h
         have hij:i2≠j2:=by
          intro e
          rcases Aa HSA with h|h
          ·omega
          ·rw[e] at h
           rw[hrB] at h
           simp at h
         have HC:=Ab (Ek dk[a]! dk[j2]!)
         rw[hrB] at HC
         have y1:(i2:Int)<=j2:=by omega
         have y2:(j2:Int)<d.size:=by omega
         clear hcont2 hstop2 hrB
         have HDS:=Ab hds
         clear hds
         generalize dk[a]! =pv at c1 HC
         generalize hxv:dk[j2]! =xv at c2 HC
         clear hxv
         go_wp2_with fail
         go_quiet ((go_at_call 172;refine(Aa HC _).mono ?_;rintro e w9 ⟨rfl,rfl⟩;exact⟨rfl,_,rfl⟩))
         clear HC c1 c2 f1 f2
         have HLw:Hid (LiesU (wr.drewN nq) blk dk):=Ab ((Aa hLj).grown rfl)
         have HGw:Hid (w.grownBy (wr.drewN nq) (some blk)):=Ab (Dj (Aa hGj) _)
         obtain⟨wx,hwx⟩: ∃wx,wx=wr.drewN nq:=⟨_,rfl⟩
         rw[←hwx] at HLw HGw ⊢
         clear hwx hLj hGj
         have hds:=Aa HDS
         obtain⟨c1,f1⟩:=(Aa HLw).cell i2 (by omega)
         obtain⟨c2,f2⟩:=(Aa HLw).cell j2 (by omega)
         have HSw:=Ab (fun n=>((Aa HLw).drew n).swap i2 j2 (by omega) (by omega))
         have HE:=Ab (pe_eq a i j dk i2 j2 (Aa HI2) (Aa HJ2))
         rw[if_neg (by omega)] at HE
         have y3:(i2:Int)<d.size:=by omega
         have y4:IntKind.i64.wrap ((i2:Int)+1)=((i2+1:Nat):Int):=by rw[IntKind.wrap_i64];omega
         have y5:IntKind.i64.wrap ((j2:Int) - 1)=((j2 - 1:Nat):Int):=by rw[IntKind.wrap_i64];omega
         have n2: ¬j2=i2:=fun e=>hij e.symm
         clear hds
         generalize dk[i2]! =xv at *
         generalize dk[j2]! =yv at *
         first
         |(exfalso;omega)
         |(go_wp2_with fail
           go_region
           all_goals go_wp2
           go_roundg (d.size+1 - (i2+1))
           case measure=>omega
           case rel=>exact⟨i2+1,j2 - 1,swp dk i2 j2,by go_num,by go_num,by omega,by omega,by omega,by omega,Nat.le_refl _,Ab (by rw[Dm];exact Aa hsk),Ab (LiesU.grown (Aa HSw 0) rfl),Ab (have g0:=Bw (Aa HGw) (Dt wx blk i2 j2 _ _);⟨g0.os,g0.tape,g0.output,g0.size,g0.block⟩),Ab (by rw[←Aa HE];exact Aa hOk)⟩)
        ·have y0: ¬(i2:Int)<=j2:=by omega
         clear hcont2 hstop2
         go_wp2_with fail
         have y1:decide ((i2:Int)<=j2)=false:=decide_eq_false (by omega)
         go_quiet (fail)
         have HLw:Hid (LiesU (wr.drewN nq) blk dk):=Ab ((Aa hLj).grown rfl)
         have HGw:Hid (w.grownBy (wr.drewN nq) (some blk)):=Ab (Dj (Aa hGj) _)
         obtain⟨wx,hwx⟩: ∃wx,wx=wr.drewN nq:=⟨_,rfl⟩
         rw[←hwx] at HLw HGw ⊢
         clear hwx hLj hGj y1
         have y2:(j2:Int)<i2:=by omega
         have HE:=Ab (pe_eq a i j dk i2 j2 (Aa HI2) (Aa HJ2))
         rw[if_pos (by omega)] at HE
         go_wp2
         go_ret
         rw[←Aa hOk,Aa HE]
         exact⟨rfl,Aa HLw,Aa HGw⟩
