import Derived.Test.YtfefpbjkbmaicaaGreatDoorQj
set_option linter.all false
namespace Go.Proofs.YtfefpbjkbmaicaaGreatDoor
set_option maxRecDepth 100000
set_option maxHeartbeats 0
section
open Go.RowKit FM
attribute [local go_sem] Gx Dt
structure Five (w:World) (B:Nat) (c0 c1 c2 c3 c4:Value):Prop where
 h0:w.cell? ⟨B,0,none⟩=some c0
 h1:w.cell? ⟨B,1,none⟩=some c1
 h2:w.cell? ⟨B,2,none⟩=some c2
 h3:w.cell? ⟨B,3,none⟩=some c3
 h4:w.cell? ⟨B,4,none⟩=some c4
 fz: ∀j,w.frozen? ⟨B,j,none⟩=false
 lt:B<w.heap.size
theorem Pt (w:World) (B:Nat) (c0 c1 c2 c3 c4:Value) (t:TypeId) (hB:B=w.heap.size):Five (w.alloc (Obj.cells #[c0,c1,c2,c3,c4] t)) B c0 c1 c2 c3 c4:=by
 subst hB
 refine⟨?_, ?_, ?_, ?_, ?_,fun j=> ?_, ?_⟩<;>simp[go_sem]
theorem Mf {w w':World} {B:Nat} {c0 c1 c2 c3 c4:Value} (h:Five w B c0 c1 c2 c3 c4) (hb:Below w.heap.size w w'):Five w' B c0 c1 c2 c3 c4:=
 ⟨(hb.cell h.lt).trans h.h0,(hb.cell h.lt).trans h.h1,(hb.cell h.lt).trans h.h2,(hb.cell h.lt).trans h.h3,(hb.cell h.lt).trans h.h4,fun j=>(hb.frozen h.lt).trans (h.fz j),Nat.lt_of_lt_of_le h.lt hb.size⟩
theorem set5 {w W:World} {B:Nat} {v0 v1 v2 v3 v4:Value} (h:Below w.heap.size w W) (hB:w.heap.size<=B):
  Below w.heap.size w (((((W.setCell ⟨B,0,none⟩ v0).setCell ⟨B,1,none⟩ v1).setCell ⟨B,2,none⟩ v2).setCell ⟨B,3,none⟩ v3).setCell ⟨B,4,none⟩ v4):=
 ((((h.setCell hB _).setCell hB _).setCell hB _).setCell hB _).setCell hB _

def Ql (b:Bool):Int:=if b then 0 else 5
theorem Jf (v:VV) (w:World) (hT:Lib.Utf8Tabs 4 5 w):Calls Tryz.prog 50 #[v.agg] w fun e w'=>e= .returned (.int .i64 (Ql v.good))/\Below w.heap.size w w':=by
 have HI:=Ac (Kk v.k v.b v.x v.s v.i)
 have HT:=Ac hT
 clear hT
 unfold VV.good
 generalize Ef v.k v.b v.x v.s v.i=g at *
 generalize Zad ⟨v.k,v.b,v.x,v.s,v.i⟩=f at *
 obtain⟨k,b,x,s,i⟩:=v
 unfold VV.agg at *
 dsimp only at *
 cases g
 all_goals
  go_enter Tryz.func50,Tryz.ntmps50
  go_wp2_with fail
  refine(Aa HI _ (Bf (Aa HT) ((Below.refl _ _).alloc (Nat.le_refl _) _))).mono ?_
  rintro e w1 ⟨rfl,hb⟩
  go_wp2
  go_ret
  exact⟨rfl,((Below.refl _ _).alloc (Nat.le_refl _) _).trans (hb.mono (by simp))⟩
theorem Lc (w:World):Calls Tryz.prog 74 #[] w fun e w'=>e= .returned (VV.agg ⟨1,false,0,ByteArray.empty,0⟩)/\Below w.heap.size w w':=by
 have HO:=Ac (Zr)
 unfold VV.agg at *
 dsimp only at *
 go_enter Tryz.func74,Tryz.ntmps74
 go_wp2_with fail
 refine(Aa HO _).mono ?_
 rintro e w1 ⟨rfl,hb⟩
 have hB:=((Below.refl w.heap.size w).alloc (Nat.le_refl _) _).trans (hb.mono (by simp))
 obtain⟨r0,r1,r2,r3,r4,rf,rl⟩:=Mf (Pt _ w.heap.size _ _ _ _ _ _ rfl) hb
 clear hb HO
 go_wp2
 simp[bodyPost,results,Tryz.results74,go_sem,r0,r1,r2,r3,r4]
 exact set5 hB (by omega)
def eqB (a b:VV):Bool:=(decide (a.x=b.x)||isN a.x && isN b.x) && a.k==b.k && a.b==b.b && decide (a.s.toList=b.s.toList) && a.i==b.i
theorem Js (a b:VV) (w:World):Calls Tryz.prog 17 #[a.agg,b.agg] w fun e w'=>e= .returned (.bool (eqB a b))/\Below w.heap.size w w':=by
 have ha:=nanF a.x
 have hb:=nanF b.x
 obtain⟨k,b,x,s,i⟩:=a
 rename_i b'
 obtain⟨k',c,x',s',i'⟩:=b'
 unfold VV.agg
 dsimp only at *
 rw[←fo] at ha hb
 have hg:eqB ⟨k,b,x,s,i⟩ ⟨k',c,x',s',i'⟩=((decide (x=x')||isN x && isN x') && k==k' && b==c && decide (s.toList=s'.toList) && i==i'):=rfl
 rw[hg]
 clear hg
 generalize isN x=nx at *
 generalize isN x'=nx' at *
 cases nx
 ·by_cases hx:x=x'
  ·subst hx
   go_enter Tryz.func17,Tryz.ntmps17
   go_wp2
   go_quiet (fail)
   go_wp2
   all_goals
    go_ret
    refine⟨?_,(Gy w _ _).trans (Jo _ _ _)⟩
    simp[*]
  ·have hxi:((x:Int)==(x':Int))=false:=by rw[beq_eq_false_iff_ne];omega
   go_enter Tryz.func17,Tryz.ntmps17
   go_wp2
   go_quiet (fail)
   go_wp2
   all_goals
    go_ret
    refine⟨?_,(Gy w _ _).trans (Jo _ _ _)⟩
    simp[*]
 ·by_cases hx:x=x'
  ·subst hx
   go_enter Tryz.func17,Tryz.ntmps17
   go_wp2
   go_quiet (fail)
   go_wp2
   all_goals
    go_ret
    refine⟨?_,(Gy w _ _).trans (Jo _ _ _)⟩
    simp[*]
  ·have hxi:((x:Int)==(x':Int))=false:=by rw[beq_eq_false_iff_ne];omega
   cases nx'
   all_goals
    go_enter Tryz.func17,Tryz.ntmps17
    go_wp2
    go_quiet (fail)
    go_wp2
    all_goals
     go_ret
     refine⟨?_,(Gy w _ _).trans (Jo _ _ _)⟩
     simp[*]
