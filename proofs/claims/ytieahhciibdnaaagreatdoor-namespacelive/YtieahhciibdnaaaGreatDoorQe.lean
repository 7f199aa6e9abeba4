import Derived.Test.YtieahhciibdnaaaGreatDoorQd
set_option linter.all false
namespace Go.Proofs.YtieahhciibdnaaaGreatDoor
set_option maxRecDepth 100000
set_option maxHeartbeats 0
section
open Go Go.Proofs Go.RowKit Go.Sort
theorem Zar (hi first root:Nat) (d:Array Nat) (h:2 * root+1≥hi):siftDown ltN hi first root d=d:=by
 rw[siftDown,dif_pos h]
theorem Zci (hi first root:Nat) (d:Array Nat) (h: ¬2 * root+1≥hi) (h1: ¬(2 * root+1+1<hi/\ltN d[first+(2 * root+1)]! d[first+(2 * root+1)+1]! =true)):
  siftDown ltN hi first root d=if ltN d[first+root]! d[first+(2 * root+1)]! then siftDown ltN hi first (2 * root+1) (swp d (first+root) (first+(2 * root+1))) else d:=by
 rw[siftDown,dif_neg h,if_neg (by simpa using h1)]
 cases ltN d[first+root]! d[first+(2 * root+1)]! <;>simp
theorem sd_two (hi first root:Nat) (d:Array Nat) (h: ¬2 * root+1≥hi) (h1:2 * root+1+1<hi) (h2:ltN d[first+(2 * root+1)]! d[first+(2 * root+1)+1]! =true):
  siftDown ltN hi first root d=if ltN d[first+root]! d[first+(2 * root+2)]! then siftDown ltN hi first (2 * root+2) (swp d (first+root) (first+(2 * root+2))) else d:=by
 rw[siftDown,dif_neg h,if_pos (by simp[h1,h2])]
 cases ltN d[first+root]! d[first+(2 * root+2)]!
 ·simp
 ·simp only[Bool.not_true,Bool.false_eq_true,if_false,if_true]
  rw[dif_pos (by omega)]
theorem sift78 (blk cap lo hi first:Nat) (d:Array Nat) (w:World) (hL:LiesU w blk d) (hlo:lo<=d.size) (hfh:first+hi<=d.size) (hsz:d.size<=1500000):
  Calls Tryz.prog 208 #[.slice (some ⟨blk,0,none⟩) d.size cap, .int .i64 lo, .int .i64 hi, .int .i64 first] w fun e w'=>e= .returned (.tuple #[])/\LiesU w' blk (siftDown ltN hi first lo d)/\w.grownBy w' (some blk):=by
 have HL:=Ab hL
 clear hL
 go_enter Tryz.func208,Tryz.ntmps208
 go_wp2_with fail
 go_loopg [8] (d.size+1) (fun g s8 wr=> ∃(root:Nat) (dk:Array Nat),s8= .int .i64 root/\root<=d.size/\d.size+1 - root<=g/\Hid (dk.size=d.size)/\Hid (LiesU wr blk dk)/\Hid (w.grownBy wr (some blk))/\Hid (siftDown ltN hi first root dk=siftDown ltN hi first lo d))
 case atStart=>exact⟨lo,d,rfl,hlo,by omega,Ab rfl,HL,Ab (Jk _ _),Ab rfl⟩
 case round=>
  obtain⟨root,dk,rfl,hrs,hg,hsk,hLk,hGk,hOk⟩:=hrel
  obtain⟨c,hc⟩: ∃c,c=2 * root+1:=⟨_,rfl⟩
  have y1:IntKind.i64.wrap (2 * (root:Int))=2 * (root:Int):=by rw[IntKind.wrap_i64];omega
  have y2:IntKind.i64.wrap (2 * (root:Int)+1)=(c:Int):=by rw[IntKind.wrap_i64];omega
  have HCc:=Ab hc
  by_cases hst:2 * root+1≥hi
  ·have HE:=Ab (Zar hi first root dk hst)
   have z1:(hi:Int)<=c:=by omega
   clear hc
   go_wp2
   go_end0
   refine⟨rfl, ?_,Aa hGk⟩
   rw[←Aa hOk,Aa HE]
   exact Aa hLk
  ·have hds:=Aa hsk
   have z1: ¬(hi:Int)<=c:=by omega
   have y3:IntKind.i64.wrap ((c:Int)+1)=(c:Int)+1:=by rw[IntKind.wrap_i64];omega
   have y4:IntKind.i64.wrap ((first:Int)+(c:Int))=(first:Int)+(c:Int):=by rw[IntKind.wrap_i64];omega
   have y5:IntKind.i64.wrap ((first:Int)+(c:Int)+1)=(first:Int)+(c:Int)+1:=by rw[IntKind.wrap_i64];omega
   have y5':IntKind.i64.wrap ((first:Int)+((c:Int)+1))=(first:Int)+(c:Int)+1:=by rw[IntKind.wrap_i64];omega
   have y6:IntKind.i64.wrap ((first:Int)+(root:Int))=(first:Int)+(root:Int):=by rw[IntKind.wrap_i64];omega
   have y7:((first:Int)+(root:Int)).toNat=first+root:=by omega
   have y8:((first:Int)+(c:Int)).toNat=first+c:=by omega
   have y9:((first:Int)+(c:Int)+1).toNat=first+c+1:=by omega
   have x1:(0:Int)<=(first:Int)+(root:Int):=by omega
   have x2:(first:Int)+(root:Int)<d.size:=by omega
   have x3:(0:Int)<=(first:Int)+(c:Int):=by omega
   have x4:(first:Int)+(c:Int)<d.size:=by omega
   have x5:(0:Int)<=(first:Int)+(c:Int)+1:=by omega
   have n1: ¬c=root:=by omega
   have n2: ¬root=c:=by omega
   have n3: ¬first+c+1=first+root:=by omega
   have n4: ¬first+root=first+c+1:=by omega
   obtain⟨c0,f0⟩:=(Aa hLk).cell (first+root) (by omega)
   obtain⟨c1,f1⟩:=(Aa hLk).cell (first+c) (by omega)
   by_cases h1:2 * root+1+1<hi
   ·have z2:(c:Int)+1<hi:=by omega
    have x6:(first:Int)+(c:Int)+1<d.size:=by omega
    obtain⟨c2,f2⟩:=(Aa hLk).cell (first+c+1) (by omega)
    have HS1:=Ab (fun n=>((Aa hLk).drew n).swap (first+root) (first+c) (by omega) (by omega))
    have HS2:=Ab (fun n=>((Aa hLk).drew n).swap (first+root) (first+c+1) (by omega) (by omega))
    have HA:=Ab (fun (h:ltN dk[first+(2 * root+1)]! dk[first+(2 * root+1)+1]! =false)=>Zci hi first root dk hst (fun h'=>by rw[h] at h';cases h'.2))
    have HB:=Ab (sd_two hi first root dk hst h1)
    have eidx:first+(2 * root+2)=first+(2 * root+1)+1:=by omega
    have e2:2 * root+2=c+1:=by omega
    rw[eidx,e2] at HB
    rw[←hc] at HA HB
    clear eidx e2 hds hc
    generalize dk[first+root]! =v0 at *
    generalize dk[first+c]! =v1 at *
    generalize dk[first+c+1]! =v2 at *
    have HC:=Ab (Ef v1 v2)
    have HC1:=Ab (Ef v0 v1)
    have HC2:=Ab (Ef v0 v2)
    generalize ltN v1 v2=r at *
    generalize ltN v0 v1=r1 at *
    generalize ltN v0 v2=r2 at *
    cases r
    ·have HE:=Ab (Aa HA rfl)
     clear HA HB HS2 HC2
     cases r1
     ·rw[if_neg (by simp)] at HE
      go_wp2_with fail
      go_quiet ((go_at_call 204;refine(Aa HC _).mono ?_;rintro e w9 ⟨rfl,rfl⟩;exact⟨rfl,_,rfl⟩))
      go_wp2_with fail
      go_quiet ((go_at_call 204;refine(Aa HC1 _).mono ?_;rintro e w9 ⟨rfl,rfl⟩;exact⟨rfl,_,rfl⟩))
      go_wp2
      (try simp only[Exit.inBlock,Exit.then])
      refine bodyPost_ret (results_none rfl _ _ _) rfl ?_
      refine⟨rfl, ?_,Dm (Dm (Aa hGk) _) _⟩
      rw[←Aa hOk,Aa HE]
      exact(Aa hLk).grown rfl
     ·rw[if_pos rfl] at HE
      go_wp2_with fail
      go_quiet ((go_at_call 204;refine(Aa HC _).mono ?_;rintro e w9 ⟨rfl,rfl⟩;exact⟨rfl,_,rfl⟩))
      go_wp2_with fail
      go_quiet ((go_at_call 204;refine(Aa HC1 _).mono ?_;rintro e w9 ⟨rfl,rfl⟩;exact⟨rfl,_,rfl⟩))
      go_wp2_with fail
      go_region
      all_goals go_wp2
      go_roundg (d.size+1 - (c))
      case measure=>(have:=Aa HCc;omega)
      case rel=>(have hcc:=Aa HCc;exact⟨c,swp dk (first+root) (first+c),by go_num,by omega,Nat.le_refl _,Ab (by rw[Dn];exact Aa hsk),Ab (Aa HS1 _),Ab (Bt (Dm (Aa hGk) _) (Dq _ _ _ _ _ _)),Ab (by rw[←Aa hOk,Aa HE])⟩)
    ·have HE:=Ab (Aa HB rfl)
     clear HA HB HS1 HC1
     cases r2
     ·rw[if_neg (by simp)] at HE
      go_wp2_with fail
      go_quiet ((go_at_call 204;refine(Aa HC _).mono ?_;rintro e w9 ⟨rfl,rfl⟩;exact⟨rfl,_,rfl⟩))
      go_wp2_with fail
      go_quiet ((go_at_call 204;refine(Aa HC2 _).mono ?_;rintro e w9 ⟨rfl,rfl⟩;exact⟨rfl,_,rfl⟩))
      go_wp2
      (try simp only[Exit.inBlock,Exit.then])
      refine bodyPost_ret (results_none rfl _ _ _) rfl ?_
      refine⟨rfl, ?_,Dm (Dm (Aa hGk) _) _⟩
      rw[←Aa hOk,Aa HE]
      exact(Aa hLk).grown rfl
     ·rw[if_pos rfl] at HE
      go_wp2_with fail
      go_quiet ((go_at_call 204;refine(Aa HC _).mono ?_;rintro e w9 ⟨rfl,rfl⟩;exact⟨rfl,_,rfl⟩))
      go_wp2_with fail
      go_quiet ((go_at_call 204;refine(Aa HC2 _).mono ?_;rintro e w9 ⟨rfl,rfl⟩;exact⟨rfl,_,rfl⟩))
      go_wp2_with fail
      go_region
      all_goals go_wp2
      go_roundg (d.size+1 - (c+1))
      case measure=>(have:=Aa HCc;omega)
      case rel=>(have hcc:=Aa HCc;exact⟨c+1,swp dk (first+root) (first+c+1),by go_num,by omega,Nat.le_refl _,Ab (by rw[Dn];exact Aa hsk),Ab (Aa HS2 _),Ab (Bt (Dm (Aa hGk) _) (Dq _ _ _ _ _ _)),Ab (by rw[←Aa hOk,Aa HE])⟩)
   ·have z2: ¬(c:Int)+1<hi:=by omega
    have HS1:=Ab (fun n=>((Aa hLk).drew n).swap (first+root) (first+c) (by omega) (by omega))
    have HE:=Ab (Zci hi first root dk hst (fun h'=>h1 h'.1))
    rw[←hc] at HE
    clear hds hc
    generalize dk[first+root]! =v0 at *
    generalize dk[first+c]! =v1 at *
    have HC1:=Ab (Ef v0 v1)
    generalize ltN v0 v1=r1 at *
    cases r1
    ·rw[if_neg (by simp)] at HE
     go_wp2_with fail
     have z3:decide ((c:Int)+1<hi)=false:=decide_eq_false (by omega)
     go_quiet (fail)
     go_wp2_with fail
     go_quiet ((go_at_call 204;refine(Aa HC1 _).mono ?_;rintro e w9 ⟨rfl,rfl⟩;exact⟨rfl,_,rfl⟩))
     go_wp2
     (try simp only[Exit.inBlock,Exit.then])
     refine bodyPost_ret (results_none rfl _ _ _) rfl ?_
     refine⟨rfl, ?_,Dm (Dm (Aa hGk) _) _⟩
     rw[←Aa hOk,Aa HE]
     exact(Aa hLk).grown rfl
    ·rw[if_pos rfl] at HE
     go_wp2_with fail
     have z3:decide ((c:Int)+1<hi)=false:=decide_eq_false (by omega)
     go_quiet (fail)
     go_wp2_with fail
     go_quiet ((go_at_call 204;refine(Aa HC1 _).mono ?_;rintro e w9 ⟨rfl,rfl⟩;exact⟨rfl,_,rfl⟩))
     go_wp2_with fail
     go_region
     all_goals go_wp2
     go_roundg (d.size+1 - (c))
     case measure=>(have:=Aa HCc;omega)
     case rel=>(have hcc:=Aa HCc;exact⟨c,swp dk (first+root) (first+c),by go_num,by omega,Nat.le_refl _,Ab (by rw[Dn];exact Aa hsk),Ab (Aa HS1 _),Ab (Bt (Dm (Aa hGk) _) (Dq _ _ _ _ _ _)),Ab (by rw[←Aa hOk,Aa HE])⟩)
