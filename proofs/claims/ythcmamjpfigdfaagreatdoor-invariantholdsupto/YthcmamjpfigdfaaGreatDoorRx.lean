import Derived.Test.YthcmamjpfigdfaaGreatDoorRw
set_option linter.all false
namespace Go.Proofs.YthcmamjpfigdfaaGreatDoor
set_option maxRecDepth 100000
set_option maxHeartbeats 0
section
open Go Go.Proofs Go.Maps Go.RowKit FM Tryz
theorem Nb {o:Oper} {a:Act} {w:World} {x y:Operand} {n m r:Int} (ho:o.op= .binOp .add 3 x y 3) (hx:a.eval x= .int .i64 n) (hc:a.eval y= .int .i64 m) (h:IntKind.i64.wrap (n+m)=r):(execOp a.eval o).run prog w= .ok (.value (.int .i64 r)) w:=by
 unfold execOp
 simp only[ho,hx,hc]
 simp[go_sem,eqGuard,h]
def rbV (c:CO):Nat->Bool
 |0=>c.gone
 |1=>clV c
 |2=>oaV c
 |3=>opV c
 |4=>mkV c
 |_=>prV c
theorem Zf1 {c d:CO} (h1:c.was=d.was) (h2:c.is=d.is) (h3:c.gone=d.gone) (j:Nat):rbV c j=rbV d j:=by
 obtain⟨a,A,x,b,B,y,g⟩:=c
 obtain⟨a',A',x',b',B',y',g'⟩:=d
 dsimp only at h1 h2 h3
 subst h1 h2 h3
 match j with
 |0=>rfl
 |1=>rfl
 |2=>rfl
 |3=>rfl
 |4=>rfl
 |_+5=>rfl
def coA (bs ns:List SH) (i:Nat):CO:=⟨bs.getD i Dr,none,0,ns.getD i Dr,none,0,ns[i]?.isNone⟩
def NoR (c:CO) (j:Nat):Prop:= ∀q,q<j->rbV c q=false
theorem NoR.zero (c:CO):NoR c 0:=fun j hj=>absurd hj (Nat.not_lt_zero _)
theorem NoR.step {c:CO} {i:Nat} (h:NoR c i) (hk:rbV c i=false):NoR c (i+1):=fun j hj=>by
 rcases Nat.lt_succ_iff_lt_or_eq.1 hj with h1|h1
 ·exact h j h1
 ·subst h1
  exact hk
def NoC (bs ns:List SH) (i:Nat):Prop:= ∀q,q<i->NoR (coA bs ns q) 6
theorem NoC.zero (bs ns:List SH):NoC bs ns 0:=fun j hj=>absurd hj (Nat.not_lt_zero _)
theorem NoC.step {bs ns:List SH} {i:Nat} (h:NoC bs ns i) (hk:NoR (coA bs ns i) 6):NoC bs ns (i+1):=fun j hj=>by
 rcases Nat.lt_succ_iff_lt_or_eq.1 hj with h1|h1
 ·exact h j h1
 ·subst h1
  exact hk
def BrP (bs ns:List SH) (o r:Int):Prop:=(o=0/\r=0/\NoC bs ns bs.length)∨ ∃i j:Nat,i<bs.length/\j<6/\o=(i:Int)+1/\r=(j:Int)+1/\rbV (coA bs ns i) j=true/\NoR (coA bs ns i) j/\NoC bs ns i
def BkPost (w:World) (bs ns:List SH) (e:Ending) (X:World):Prop:= ∃o r:Int,e= .returned (.tuple #[.int .i64 o, .int .i64 r])/\BrP bs ns o r/\Below w.heap.size w X
theorem co_same {bs ns:List SH} {i:Nat} {c:CO} (h1:bs[i]? =some c.was) (h2:(c.gone=true/\ns[i]? =none/\c.is=Dr)∨(c.gone=false/\ns[i]? =some c.is)) (j:Nat):rbV c j=rbV (coA bs ns i) j:=by
 refine Zf1 ?_ ?_ ?_ j
 ·simp[coA,h1]
 ·rcases h2 with ⟨a,b,d⟩|⟨a,b⟩
  ·simp[coA,b,d]
  ·simp[coA,b]
 ·rcases h2 with ⟨a,b,d⟩|⟨a,b⟩
  ·simp[coA,a,b]
  ·simp[coA,a,b]
theorem Up (A B:Option Addr) (cap cap2:Nat) (bs ns:List SH) (w:World) (hB:ReadsS9 w A bs) (hC:ReadsS9 w B ns) (hz:bs.length<=100000) (hz2:ns.length<=100000) (hT:Lib.Utf8Tabs 1 2 w):Calls prog 14 #[.slice A bs.length cap, .slice B ns.length cap2] w (BkPost w bs ns):=by
 have LL:=Ab (Hq.nil w [])
 have HB:=Ab hB
 have HC:=Ab hC
 have HZ:=Ab hz
 have HZ2:=Ab hz2
 have HT:=Ab hT
 clear hB hC hz hz2 hT
 go_enter func14,ntmps14
 go_wp2_with (go_skip)
 refine(ZfZ _).mono ?_
 rintro e X0 ⟨BR,rfl,hBR,hq⟩
 replace LL:=Ab hq
 clear hq
 go_wp2_with (first|go_skip|((with_reducible show wpList ..);(refine rd rfl (Bp 61 85 underlying61 rfl rfl) ?_)))
 go_loopg [14] bs.length (fun gm s14 wr=> ∃i:Nat,s14= .int .i64 (i:Nat)/\i<=bs.length/\bs.length - i<=gm/\Hid (NoC bs ns i)/\Hid (Hq w wr [] [(BR,El)]))
 case atStart=>exact⟨0,rfl,by omega,by omega,Ab (NoC.zero _ _),LL⟩
 case round=>
  clear LL
  obtain⟨i,rfl,hil,hgm,HD,LL⟩:=hrel
  by_cases hlt:i<bs.length
  ·have dlt:decide ((i:Int)<(bs.length:Int))=true:=decide_eq_true (by omega)
   have hw1:IntKind.i64.wrap ((i:Int)+1)=(i:Int)+1:=by have:=Aa HZ;rw[IntKind.wrap_i64];omega
   have HLT:=Ab hlt
   have hCO:=ZcK A B cap cap2 bs ns i w wr (Aa HB) (Aa HC) (Aa LL).fr hlt (Aa HZ) (Aa HZ2)
   have HCO:=Ab hCO
   clear hCO hlt hil
   go_wp2_with (go_skip)
   refine(Aa HCO).mono ?_
   rintro e X7 ⟨c,rfl,hc1,hc2,hc3,hc4,hc5,hc6,hc7,hc8,hb7⟩
   have HX:=Ab (And.intro hc2 (And.intro hc3 (And.intro hc4 hc5)))
   have HS:=Ab (co_same (bs:=bs) (ns:=ns) (i:=i) hc1 hc8)
   replace LL:=Ab ((Aa LL).on hb7)
   rw[Ny]
   clear hc1 hc2 hc3 hc4 hc5 hc6 hc7 hc8 hb7 HCO
   go_wp2_with (first|go_skip|((with_reducible show wpList ..);first|((refine alG 102 (Pk.cs) rfl (fun w=>by kernel_rfl) (Aa LL) ?_);intro X8 B8 hE8 L8 hb8;have hB8:=Ab (Nat.le_trans (Aa LL).fr.size (Nat.le_of_eq hE8.symm));replace LL:=Ab L8;clear L8 hb8 hE8;simp only[nn])|((refine st (vs:=c.cs) 1 102 (by rfl) rfl rfl rfl rfl (Za1 _) szC (Aa LL) rfl (by simp[Bt,CO.cs,SH.cs,VV.cs,Pk,Dr,Aq]) (Or.inr (Aa hB8)) ?_);intro X4 L4 hf4 hs4;replace LL:=Ab L4;clear L4 hf4 hs4;simp only[nn])|(refine rd rfl (Bp 99 106 underlying99 rfl rfl) ?_)))
   obtain⟨w2,hw2⟩: ∃w2,w2=wr:=⟨_,rfl⟩
   subst hw2
   go_loopg [23] 6 (fun gm s23 wr=> ∃j:Nat,s23= .int .i64 (j:Nat)/\j<=6/\6 - j<=gm/\Hid (NoR c j)/\Hid (Hq w wr [] [(BR,El),(B8,c.cs)]))
   case atStart=>exact⟨0,rfl,by omega,by omega,Ab (NoR.zero _),LL⟩
   case round=>
    clear LL
    obtain⟨j,rfl,hjl,hgm2,HE,LL⟩:=hrel
    by_cases hj6:j<6
    ·have hj:j=0∨j=1∨j=2∨j=3∨j=4∨j=5:=by omega
     clear hj6 hjl
     rcases hj with rfl|rfl|rfl|rfl|rfl|rfl
     ·go_wp2_with (first|go_skip|((with_reducible show wpList ..);first|(refine rd rfl (Bw 99 2 0 ZfO Zgh rfl rfl rfl (by decide)) ?_)|(refine rd rfl (Af (vs:= [.int .i64 1, .func (.func 80) #[] #[]]) 106 2 rwR szR rfl rfl ((Aa LL).get 0 rfl) rfl rfl) ?_)|((refine alG 106 ([.int .i64 0, .nilFunc]) rfl (fun w=>by kernel_rfl) (Aa LL) ?_);intro X9 B9 hE9 L9 hb9;have hB9:=Ab (Nat.le_trans (Aa LL).fr.size (Nat.le_of_eq hE9.symm));replace LL:=Ab L9;clear L9 hb9 hE9;simp only[nn])|((refine st (vs:= [.int .i64 1, .func (.func 80) #[] #[]]) 2 106 (by rfl) rfl rfl rfl rfl (by simp[Value.oneCell']) szR (Aa LL) rfl (by simp[Bt]) (Or.inr (Aa hB9)) ?_);intro X5 L5 hf5 hs5;replace LL:=Ab L5;clear L5 hf5 hs5;simp only[nn])|(refine rd rfl (Ad 104 isAgg104 rfl rfl ((Aa LL).get 2 rfl) rfl) ?_)|(refine rd rfl (Af (vs:=c.cs) 102 17 rwC szC rfl rfl ((Aa LL).get 1 rfl) rfl rfl) ?_)))
      have HCC:=fun X=>lost_any c X
      simp only[Ny] at HCC
      refine(HCC _).mono ?_
      clear HCC
      rintro e X6 ⟨rfl,hb6⟩
      replace LL:=Ab ((Aa LL).on hb6)
      clear hb6
      cases hr:rbV c 0
      ·have HE2:=Ab ((Aa HE).step hr)
       have e2:c.gone=false:=hr
       rw[e2]
       clear hr e2 HE
       go_wp2_with (go_skip)
       replace LL:=Ab (Hq.left (L:= [(BR,El),(B8,c.cs)]) (Aa LL))
       go_roundg (6 - (0+1))
       case measure=>omega
       case rel=>exact⟨0+1,by go_num,by omega,by omega,HE2,LL⟩
      ·have HF:Hid (BrP bs ns ((i:Int)+1) 1):=Ab (.inr ⟨i,0,Aa HLT,by decide,rfl,rfl,by rw[←Aa HS];exact hr,fun q hq=>by rw[←Aa HS];exact(Aa HE) q hq,Aa HD⟩)
       have e2:c.gone=true:=hr
       rw[e2]
       clear hr e2 HE HD
       go_wp2_with (go_skip)
       have hq0:Hq w _ [] [(BR,El),(B8,c.cs),(B9, [.int .i64 1, .func (.func 80) #[] #[]])]:=(Aa LL).drew
       refine wp_region_held_drew (P:=prog) (S:=fun X=>Hq w X [] [(BR,El),(B8,c.cs),(B9, [.int .i64 1, .func (.func 80) #[] #[]])]) (by kernel_rfl) hq0 (fun hS0=> ?_)
       refine y0 0 (some 31) (.int .i64 (i:Nat)) rfl hq0 ?_
       refine y1 1 (some 32) (.int .i64 ((i:Int)+1)) rfl (fun X hX=>Nb rfl rfl rfl hw1) hq0 ?_
       refine y0 2 (some 33) (.pointer (some ⟨B9,0,none⟩)) rfl hq0 ?_
       refine y1 3 (some 34) (.int .i64 1) rfl (fun X hX=>Ad 3 isAgg3 rfl rfl (hX.get 2 rfl) rfl) hq0 ?_
       refine y0 4 (some 4) (.int .i64 ((i:Int)+1)) rfl hq0 ?_
       refine y0 5 (some 5) (.int .i64 1) rfl hq0 ?_
       refine dn ?_
       try simp only[nn]
       replace LL:=Ab hq0
       clear hq0 hS0
       go_wp2_with (go_skip)
       go_ret2
       exact⟨(i:Int)+1,1,rfl,Aa HF,(Aa LL).fr.below⟩
     ·go_wp2_with (first|go_skip|((with_reducible show wpList ..);first|(refine rd rfl (Bw 99 2 1 ZfO Zgh rfl rfl rfl (by decide)) ?_)|(refine rd rfl (Af (vs:= [.int .i64 2, .func (.func 81) #[] #[]]) 106 2 rwR szR rfl rfl ((Aa LL).get 0 rfl) rfl rfl) ?_)|((refine alG 106 ([.int .i64 0, .nilFunc]) rfl (fun w=>by kernel_rfl) (Aa LL) ?_);intro X9 B9 hE9 L9 hb9;have hB9:=Ab (Nat.le_trans (Aa LL).fr.size (Nat.le_of_eq hE9.symm));replace LL:=Ab L9;clear L9 hb9 hE9;simp only[nn])|((refine st (vs:= [.int .i64 2, .func (.func 81) #[] #[]]) 2 106 (by rfl) rfl rfl rfl rfl (by simp[Value.oneCell']) szR (Aa LL) rfl (by simp[Bt]) (Or.inr (Aa hB9)) ?_);intro X5 L5 hf5 hs5;replace LL:=Ab L5;clear L5 hf5 hs5;simp only[nn])|(refine rd rfl (Ad 104 isAgg104 rfl rfl ((Aa LL).get 2 rfl) rfl) ?_)|(refine rd rfl (Af (vs:=c.cs) 102 17 rwC szC rfl rfl ((Aa LL).get 1 rfl) rfl rfl) ?_)))
      have HCC:=fun X=>Zaq c X
      simp only[Ny] at HCC
      refine(HCC _).mono ?_
      clear HCC
      rintro e X6 ⟨rfl,hb6⟩
      replace LL:=Ab ((Aa LL).on hb6)
      clear hb6
      cases hr:rbV c 1
      ·have HE2:=Ab ((Aa HE).step hr)
       have e2:clV c=false:=hr
       rw[e2]
       clear hr e2 HE
       go_wp2_with (go_skip)
       replace LL:=Ab (Hq.left (L:= [(BR,El),(B8,c.cs)]) (Aa LL))
       go_roundg (6 - (1+1))
       case measure=>omega
       case rel=>exact⟨1+1,by go_num,by omega,by omega,HE2,LL⟩
      ·have HF:Hid (BrP bs ns ((i:Int)+1) 2):=Ab (.inr ⟨i,1,Aa HLT,by decide,rfl,rfl,by rw[←Aa HS];exact hr,fun q hq=>by rw[←Aa HS];exact(Aa HE) q hq,Aa HD⟩)
       have e2:clV c=true:=hr
       rw[e2]
       clear hr e2 HE HD
       go_wp2_with (go_skip)
       have hq0:Hq w _ [] [(BR,El),(B8,c.cs),(B9, [.int .i64 2, .func (.func 81) #[] #[]])]:=(Aa LL).drew
       refine wp_region_held_drew (P:=prog) (S:=fun X=>Hq w X [] [(BR,El),(B8,c.cs),(B9, [.int .i64 2, .func (.func 81) #[] #[]])]) (by kernel_rfl) hq0 (fun hS0=> ?_)
       refine y0 0 (some 31) (.int .i64 (i:Nat)) rfl hq0 ?_
       refine y1 1 (some 32) (.int .i64 ((i:Int)+1)) rfl (fun X hX=>Nb rfl rfl rfl hw1) hq0 ?_
       refine y0 2 (some 33) (.pointer (some ⟨B9,0,none⟩)) rfl hq0 ?_
       refine y1 3 (some 34) (.int .i64 2) rfl (fun X hX=>Ad 3 isAgg3 rfl rfl (hX.get 2 rfl) rfl) hq0 ?_
       refine y0 4 (some 4) (.int .i64 ((i:Int)+1)) rfl hq0 ?_
       refine y0 5 (some 5) (.int .i64 2) rfl hq0 ?_
       refine dn ?_
       try simp only[nn]
       replace LL:=Ab hq0
       clear hq0 hS0
       go_wp2_with (go_skip)
       go_ret2
       exact⟨(i:Int)+1,2,rfl,Aa HF,(Aa LL).fr.below⟩
     ·go_wp2_with (first|go_skip|((with_reducible show wpList ..);first|(refine rd rfl (Bw 99 2 2 ZfO Zgh rfl rfl rfl (by decide)) ?_)|(refine rd rfl (Af (vs:= [.int .i64 3, .func (.func 82) #[] #[]]) 106 2 rwR szR rfl rfl ((Aa LL).get 0 rfl) rfl rfl) ?_)|((refine alG 106 ([.int .i64 0, .nilFunc]) rfl (fun w=>by kernel_rfl) (Aa LL) ?_);intro X9 B9 hE9 L9 hb9;have hB9:=Ab (Nat.le_trans (Aa LL).fr.size (Nat.le_of_eq hE9.symm));replace LL:=Ab L9;clear L9 hb9 hE9;simp only[nn])|((refine st (vs:= [.int .i64 3, .func (.func 82) #[] #[]]) 2 106 (by rfl) rfl rfl rfl rfl (by simp[Value.oneCell']) szR (Aa LL) rfl (by simp[Bt]) (Or.inr (Aa hB9)) ?_);intro X5 L5 hf5 hs5;replace LL:=Ab L5;clear L5 hf5 hs5;simp only[nn])|(refine rd rfl (Ad 104 isAgg104 rfl rfl ((Aa LL).get 2 rfl) rfl) ?_)|(refine rd rfl (Af (vs:=c.cs) 102 17 rwC szC rfl rfl ((Aa LL).get 1 rfl) rfl rfl) ?_)))
      have HCC:=fun X=>Zbg c X
      simp only[Ny] at HCC
      refine(HCC _).mono ?_
      clear HCC
      rintro e X6 ⟨rfl,hb6⟩
      replace LL:=Ab ((Aa LL).on hb6)
      clear hb6
      cases hr:rbV c 2
      ·have HE2:=Ab ((Aa HE).step hr)
       have e2:oaV c=false:=hr
       rw[e2]
       clear hr e2 HE
       go_wp2_with (go_skip)
       replace LL:=Ab (Hq.left (L:= [(BR,El),(B8,c.cs)]) (Aa LL))
       go_roundg (6 - (2+1))
       case measure=>omega
       case rel=>exact⟨2+1,by go_num,by omega,by omega,HE2,LL⟩
      ·have HF:Hid (BrP bs ns ((i:Int)+1) 3):=Ab (.inr ⟨i,2,Aa HLT,by decide,rfl,rfl,by rw[←Aa HS];exact hr,fun q hq=>by rw[←Aa HS];exact(Aa HE) q hq,Aa HD⟩)
       have e2:oaV c=true:=hr
       rw[e2]
       clear hr e2 HE HD
       go_wp2_with (go_skip)
       have hq0:Hq w _ [] [(BR,El),(B8,c.cs),(B9, [.int .i64 3, .func (.func 82) #[] #[]])]:=(Aa LL).drew
       refine wp_region_held_drew (P:=prog) (S:=fun X=>Hq w X [] [(BR,El),(B8,c.cs),(B9, [.int .i64 3, .func (.func 82) #[] #[]])]) (by kernel_rfl) hq0 (fun hS0=> ?_)
       refine y0 0 (some 31) (.int .i64 (i:Nat)) rfl hq0 ?_
       refine y1 1 (some 32) (.int .i64 ((i:Int)+1)) rfl (fun X hX=>Nb rfl rfl rfl hw1) hq0 ?_
       refine y0 2 (some 33) (.pointer (some ⟨B9,0,none⟩)) rfl hq0 ?_
       refine y1 3 (some 34) (.int .i64 3) rfl (fun X hX=>Ad 3 isAgg3 rfl rfl (hX.get 2 rfl) rfl) hq0 ?_
       refine y0 4 (some 4) (.int .i64 ((i:Int)+1)) rfl hq0 ?_
       refine y0 5 (some 5) (.int .i64 3) rfl hq0 ?_
       refine dn ?_
       try simp only[nn]
       replace LL:=Ab hq0
       clear hq0 hS0
       go_wp2_with (go_skip)
       go_ret2
       exact⟨(i:Int)+1,3,rfl,Aa HF,(Aa LL).fr.below⟩
     ·go_wp2_with (first|go_skip|((with_reducible show wpList ..);first|(refine rd rfl (Bw 99 2 3 ZfO Zgh rfl rfl rfl (by decide)) ?_)|(refine rd rfl (Af (vs:= [.int .i64 4, .func (.func 83) #[] #[]]) 106 2 rwR szR rfl rfl ((Aa LL).get 0 rfl) rfl rfl) ?_)|((refine alG 106 ([.int .i64 0, .nilFunc]) rfl (fun w=>by kernel_rfl) (Aa LL) ?_);intro X9 B9 hE9 L9 hb9;have hB9:=Ab (Nat.le_trans (Aa LL).fr.size (Nat.le_of_eq hE9.symm));replace LL:=Ab L9;clear L9 hb9 hE9;simp only[nn])|((refine st (vs:= [.int .i64 4, .func (.func 83) #[] #[]]) 2 106 (by rfl) rfl rfl rfl rfl (by simp[Value.oneCell']) szR (Aa LL) rfl (by simp[Bt]) (Or.inr (Aa hB9)) ?_);intro X5 L5 hf5 hs5;replace LL:=Ab L5;clear L5 hf5 hs5;simp only[nn])|(refine rd rfl (Ad 104 isAgg104 rfl rfl ((Aa LL).get 2 rfl) rfl) ?_)|(refine rd rfl (Af (vs:=c.cs) 102 17 rwC szC rfl rfl ((Aa LL).get 1 rfl) rfl rfl) ?_)))
      have HCC:=fun X hT=>Zap c X hT
      simp only[Ny] at HCC
      refine(HCC _ (Ao (Aa HT) (Aa LL).fr.below)).mono ?_
      clear HCC
      rintro e X6 ⟨rfl,hb6⟩
      replace LL:=Ab ((Aa LL).on hb6)
      clear hb6
      cases hr:rbV c 3
      ·have HE2:=Ab ((Aa HE).step hr)
       have e2:opV c=false:=hr
       rw[e2]
       clear hr e2 HE
       go_wp2_with (go_skip)
       replace LL:=Ab (Hq.left (L:= [(BR,El),(B8,c.cs)]) (Aa LL))
       go_roundg (6 - (3+1))
       case measure=>omega
       case rel=>exact⟨3+1,by go_num,by omega,by omega,HE2,LL⟩
      ·have HF:Hid (BrP bs ns ((i:Int)+1) 4):=Ab (.inr ⟨i,3,Aa HLT,by decide,rfl,rfl,by rw[←Aa HS];exact hr,fun q hq=>by rw[←Aa HS];exact(Aa HE) q hq,Aa HD⟩)
       have e2:opV c=true:=hr
       rw[e2]
       clear hr e2 HE HD
       go_wp2_with (go_skip)
       have hq0:Hq w _ [] [(BR,El),(B8,c.cs),(B9, [.int .i64 4, .func (.func 83) #[] #[]])]:=(Aa LL).drew
       refine wp_region_held_drew (P:=prog) (S:=fun X=>Hq w X [] [(BR,El),(B8,c.cs),(B9, [.int .i64 4, .func (.func 83) #[] #[]])]) (by kernel_rfl) hq0 (fun hS0=> ?_)
       refine y0 0 (some 31) (.int .i64 (i:Nat)) rfl hq0 ?_
       refine y1 1 (some 32) (.int .i64 ((i:Int)+1)) rfl (fun X hX=>Nb rfl rfl rfl hw1) hq0 ?_
       refine y0 2 (some 33) (.pointer (some ⟨B9,0,none⟩)) rfl hq0 ?_
       refine y1 3 (some 34) (.int .i64 4) rfl (fun X hX=>Ad 3 isAgg3 rfl rfl (hX.get 2 rfl) rfl) hq0 ?_
       refine y0 4 (some 4) (.int .i64 ((i:Int)+1)) rfl hq0 ?_
       refine y0 5 (some 5) (.int .i64 4) rfl hq0 ?_
       refine dn ?_
       try simp only[nn]
       replace LL:=Ab hq0
       clear hq0 hS0
       go_wp2_with (go_skip)
       go_ret2
       exact⟨(i:Int)+1,4,rfl,Aa HF,(Aa LL).fr.below⟩
     ·go_wp2_with (first|go_skip|((with_reducible show wpList ..);first|(refine rd rfl (Bw 99 2 4 ZfO Zgh rfl rfl rfl (by decide)) ?_)|(refine rd rfl (Af (vs:= [.int .i64 5, .func (.func 84) #[] #[]]) 106 2 rwR szR rfl rfl ((Aa LL).get 0 rfl) rfl rfl) ?_)|((refine alG 106 ([.int .i64 0, .nilFunc]) rfl (fun w=>by kernel_rfl) (Aa LL) ?_);intro X9 B9 hE9 L9 hb9;have hB9:=Ab (Nat.le_trans (Aa LL).fr.size (Nat.le_of_eq hE9.symm));replace LL:=Ab L9;clear L9 hb9 hE9;simp only[nn])|((refine st (vs:= [.int .i64 5, .func (.func 84) #[] #[]]) 2 106 (by rfl) rfl rfl rfl rfl (by simp[Value.oneCell']) szR (Aa LL) rfl (by simp[Bt]) (Or.inr (Aa hB9)) ?_);intro X5 L5 hf5 hs5;replace LL:=Ab L5;clear L5 hf5 hs5;simp only[nn])|(refine rd rfl (Ad 104 isAgg104 rfl rfl ((Aa LL).get 2 rfl) rfl) ?_)|(refine rd rfl (Af (vs:=c.cs) 102 17 rwC szC rfl rfl ((Aa LL).get 1 rfl) rfl rfl) ?_)))
      have HCC:=fun X h1 h2=>Zcj c X h1 h2 (Aa HX).2.2.1 (Aa HX).2.2.2
      simp only[Ny] at HCC
      refine(HCC _ ((Aa HX).1.fr (Aa LL).fr) ((Aa HX).2.1.fr (Aa LL).fr)).mono ?_
      clear HCC
      rintro e X6 ⟨rfl,hb6⟩
      replace LL:=Ab ((Aa LL).on hb6)
      clear hb6
      cases hr:rbV c 4
      ·have HE2:=Ab ((Aa HE).step hr)
       have e2:mkV c=false:=hr
       rw[e2]
       clear hr e2 HE
       go_wp2_with (go_skip)
       replace LL:=Ab (Hq.left (L:= [(BR,El),(B8,c.cs)]) (Aa LL))
       go_roundg (6 - (4+1))
       case measure=>omega
       case rel=>exact⟨4+1,by go_num,by omega,by omega,HE2,LL⟩
      ·have HF:Hid (BrP bs ns ((i:Int)+1) 5):=Ab (.inr ⟨i,4,Aa HLT,by decide,rfl,rfl,by rw[←Aa HS];exact hr,fun q hq=>by rw[←Aa HS];exact(Aa HE) q hq,Aa HD⟩)
       have e2:mkV c=true:=hr
       rw[e2]
       clear hr e2 HE HD
       go_wp2_with (go_skip)
       have hq0:Hq w _ [] [(BR,El),(B8,c.cs),(B9, [.int .i64 5, .func (.func 84) #[] #[]])]:=(Aa LL).drew
       refine wp_region_held_drew (P:=prog) (S:=fun X=>Hq w X [] [(BR,El),(B8,c.cs),(B9, [.int .i64 5, .func (.func 84) #[] #[]])]) (by kernel_rfl) hq0 (fun hS0=> ?_)
       refine y0 0 (some 31) (.int .i64 (i:Nat)) rfl hq0 ?_
       refine y1 1 (some 32) (.int .i64 ((i:Int)+1)) rfl (fun X hX=>Nb rfl rfl rfl hw1) hq0 ?_
       refine y0 2 (some 33) (.pointer (some ⟨B9,0,none⟩)) rfl hq0 ?_
       refine y1 3 (some 34) (.int .i64 5) rfl (fun X hX=>Ad 3 isAgg3 rfl rfl (hX.get 2 rfl) rfl) hq0 ?_
       refine y0 4 (some 4) (.int .i64 ((i:Int)+1)) rfl hq0 ?_
       refine y0 5 (some 5) (.int .i64 5) rfl hq0 ?_
       refine dn ?_
       try simp only[nn]
       replace LL:=Ab hq0
       clear hq0 hS0
       go_wp2_with (go_skip)
       go_ret2
       exact⟨(i:Int)+1,5,rfl,Aa HF,(Aa LL).fr.below⟩
     ·go_wp2_with (first|go_skip|((with_reducible show wpList ..);first|(refine rd rfl (Bw 99 2 5 ZfO Zgh rfl rfl rfl (by decide)) ?_)|(refine rd rfl (Af (vs:= [.int .i64 6, .func (.func 85) #[] #[]]) 106 2 rwR szR rfl rfl ((Aa LL).get 0 rfl) rfl rfl) ?_)|((refine alG 106 ([.int .i64 0, .nilFunc]) rfl (fun w=>by kernel_rfl) (Aa LL) ?_);intro X9 B9 hE9 L9 hb9;have hB9:=Ab (Nat.le_trans (Aa LL).fr.size (Nat.le_of_eq hE9.symm));replace LL:=Ab L9;clear L9 hb9 hE9;simp only[nn])|((refine st (vs:= [.int .i64 6, .func (.func 85) #[] #[]]) 2 106 (by rfl) rfl rfl rfl rfl (by simp[Value.oneCell']) szR (Aa LL) rfl (by simp[Bt]) (Or.inr (Aa hB9)) ?_);intro X5 L5 hf5 hs5;replace LL:=Ab L5;clear L5 hf5 hs5;simp only[nn])|(refine rd rfl (Ad 104 isAgg104 rfl rfl ((Aa LL).get 2 rfl) rfl) ?_)|(refine rd rfl (Af (vs:=c.cs) 102 17 rwC szC rfl rfl ((Aa LL).get 1 rfl) rfl rfl) ?_)))
      have HCC:=fun X h1 h2 hT=>Zbe c X h1 h2 (Aa HX).2.2.1 (Aa HX).2.2.2 hT
      simp only[Ny] at HCC
      refine(HCC _ ((Aa HX).1.fr (Aa LL).fr) ((Aa HX).2.1.fr (Aa LL).fr) (Ao (Aa HT) (Aa LL).fr.below)).mono ?_
      clear HCC
      rintro e X6 ⟨rfl,hb6⟩
      replace LL:=Ab ((Aa LL).on hb6)
      clear hb6
      cases hr:rbV c 5
      ·have HE2:=Ab ((Aa HE).step hr)
       have e2:prV c=false:=hr
       rw[e2]
       clear hr e2 HE
       go_wp2_with (go_skip)
       replace LL:=Ab (Hq.left (L:= [(BR,El),(B8,c.cs)]) (Aa LL))
       go_roundg (6 - (5+1))
       case measure=>omega
       case rel=>exact⟨5+1,by go_num,by omega,by omega,HE2,LL⟩
      ·have HF:Hid (BrP bs ns ((i:Int)+1) 6):=Ab (.inr ⟨i,5,Aa HLT,by decide,rfl,rfl,by rw[←Aa HS];exact hr,fun q hq=>by rw[←Aa HS];exact(Aa HE) q hq,Aa HD⟩)
       have e2:prV c=true:=hr
       rw[e2]
       clear hr e2 HE HD
       go_wp2_with (go_skip)
       have hq0:Hq w _ [] [(BR,El),(B8,c.cs),(B9, [.int .i64 6, .func (.func 85) #[] #[]])]:=(Aa LL).drew
       refine wp_region_held_drew (P:=prog) (S:=fun X=>Hq w X [] [(BR,El),(B8,c.cs),(B9, [.int .i64 6, .func (.func 85) #[] #[]])]) (by kernel_rfl) hq0 (fun hS0=> ?_)
       refine y0 0 (some 31) (.int .i64 (i:Nat)) rfl hq0 ?_
       refine y1 1 (some 32) (.int .i64 ((i:Int)+1)) rfl (fun X hX=>Nb rfl rfl rfl hw1) hq0 ?_
       refine y0 2 (some 33) (.pointer (some ⟨B9,0,none⟩)) rfl hq0 ?_
       refine y1 3 (some 34) (.int .i64 6) rfl (fun X hX=>Ad 3 isAgg3 rfl rfl (hX.get 2 rfl) rfl) hq0 ?_
       refine y0 4 (some 4) (.int .i64 ((i:Int)+1)) rfl hq0 ?_
       refine y0 5 (some 5) (.int .i64 6) rfl hq0 ?_
       refine dn ?_
       try simp only[nn]
       replace LL:=Ab hq0
       clear hq0 hS0
       go_wp2_with (go_skip)
       go_ret2
       exact⟨(i:Int)+1,6,rfl,Aa HF,(Aa LL).fr.below⟩
    ·obtain rfl:j=6:=by omega
     have HD2:=Ab ((Aa HD).step (fun q hq=>by rw[←Aa HS];exact(Aa HE) q hq))
     clear hj6 hjl HD HE
     go_wp2_with (go_skip)
     replace LL:=Ab (Hq.left (L:= [(BR,El)]) (Aa LL))
     go_roundg (bs.length - (i+1))
     case measure=>have:=Aa HLT;omega
     case rel=>exact⟨i+1,by go_num,by have:=Aa HLT;omega,by omega,HD2,LL⟩
  ·obtain rfl:i=bs.length:=by omega
   clear hlt hil
   go_wp2_with (go_skip)
   go_ret2
   exact⟨0,0,rfl, .inl ⟨rfl,rfl,Aa HD⟩,(Aa LL).fr.below⟩
end
section
open Go Go.Proofs Go.Maps Go.RowKit FM
theorem Zat (n:Int) (w:World):Calls Tryz.prog 11 #[.int .i64 n] w fun e w'=>e= .returned (.int .i64 n)/\w'=w:=by
 go_enter Tryz.func11,Tryz.ntmps11
 go_wp2
 go_ret
 exact⟨rfl,rfl⟩
end
section
open Go Go.Proofs Go.Maps Go.RowKit FM Tryz
def flatL (l:List DL):List Value:=l.flatMap DL.cs
theorem Zeu (l:List DL) (d:DL):flatL (l++ [d])=flatL l++d.cs:=by simp[flatL]
structure TI (b0:Nat) (X:World) (t:Nat) (o:Int) (xs:List DL) (lv:Value):Prop where
 hold:Holds X t [lv, .int .i64 o]
 own:X.ownsRow b0 91 29 lv xs.length (flatL xs)
 apart:lv.ownBlock≠some t
theorem TI.lt {b0 t:Nat} {X:World} {o:Int} {xs:List DL} {lv:Value} (h:TI b0 X t o xs lv):t<X.heap.size:=h.hold.lt (Nat.succ_pos _)
theorem TI.far {b0 t:Nat} {X Y:World} {o:Int} {xs:List DL} {lv:Value} (h:TI b0 X t o xs lv) (h1:Y.heap[t]? =X.heap[t]?) (h2: ∀g,lv.ownBlock=some g->Y.heap[g]? =X.heap[g]?):TI b0 Y t o xs lv:=
 ⟨h.hold.block h1,Ll h.own h2,h.apart⟩
theorem TI.on {b0 t:Nat} {X Y:World} {o:Int} {xs:List DL} {lv:Value} (h:TI b0 X t o xs lv) (k:Below X.heap.size X Y):TI b0 Y t o xs lv:=
 h.far (k.block t h.lt) (fun g hg=>k.block g (World.ownsRow.lt h.own g hg).2)
structure TP (X:World) (b0 t:Nat) (o:Int) (xs ds:List DL) (lv lv':Value) (Y:World):Prop where
 ti:TI b0 Y t o (xs++ds) lv'
 fr:Fr X Y (t::lv.ownBlock.toList)
 fre: ∀g,lv'.ownBlock=some g->lv.ownBlock=some g∨X.heap.size<=g
def ZbX (X:World) (b0 t:Nat) (o:Int) (xs ds:List DL) (lv:Value) (e:Ending) (Y:World):Prop:= ∃lv',e= .returned (.tuple #[])/\TP X b0 t o xs ds lv lv' Y
structure TS (w Z:World) (E:List Nat) (b0 t:Nat) (o:Int) (xs:List DL) (lv:Value) (L:List (Nat×List Value)):Prop where
 ti:TI b0 Z t o xs lv
 hq:Hq w Z E L
 sep: ∀q∈L,q.1≠t/\lv.ownBlock≠some q.1
 ct:t∈E∨w.heap.size<=t
 cl: ∀g,lv.ownBlock=some g->g∈E∨w.heap.size<=g
theorem TS.start {b0 t:Nat} {X:World} {o:Int} {xs:List DL} {lv:Value} (h:TI b0 X t o xs lv):TS X X (t::lv.ownBlock.toList) b0 t o xs lv []:=
 ⟨h,Hq.nil _ _,(fun q hq=>by cases hq), .inl (by simp),fun g hg=> .inl (by simp[hg])⟩
section
variable {w Z Y:World} {E:List Nat} {b0 t:Nat} {o:Int} {xs ds:List DL} {lv lv':Value} {L:List (Nat×List Value)}
theorem TS.on (h:TS w Z E b0 t o xs lv L) (k:Below Z.heap.size Z Y):TS w Y E b0 t o xs lv L:=⟨h.ti.on k,h.hq.on k,h.sep,h.ct,h.cl⟩
theorem TS.drew (h:TS w Z E b0 t o xs lv L):TS w Z.drew E b0 t o xs lv L:=h.on ⟨rfl,rfl,rfl,Nat.le_refl _,fun _ _=>rfl⟩
theorem TS.new (h:TS w Z E b0 t o xs lv L) (cs:List Value) (T:TypeId) (hc:0<cs.length):TS w (Z.alloc (Obj.cells cs.toArray T)) E b0 t o xs lv (L++ [(Z.heap.size,cs)]):=by
 refine⟨h.ti.on ((Below.refl _ _).alloc (Nat.le_refl _) _),h.hq.new cs T hc,fun q hq=> ?_,h.ct,h.cl⟩
 rcases List.mem_append.1 hq with hq|hq
 ·exact h.sep q hq
 ·obtain rfl:q=(Z.heap.size,cs):=by simpa using hq
  exact⟨Nat.ne_of_gt h.ti.lt,fun e=>Nat.lt_irrefl _ (World.ownsRow.lt h.ti.own _ e).2⟩
theorem TS.put (h:TS w Z E b0 t o xs lv L) (i:Nat) {b:Nat} {cs:List Value} (hi:L[i]? =some (b,cs)) (p:Nat) (vs:List Value) (hp:p+vs.length<=cs.length) (hE:b∈E∨w.heap.size<=b):TS w (Z.setCells b p vs) E b0 t o xs lv (L.set i (b,Bt cs p vs)):=by
 have hs:=h.sep _ (List.mem_of_getElem? hi)
 refine⟨h.ti.far (Gr b vs p Z t (Ne.symm hs.1)) (fun g hg=>Gr b vs p Z g (fun e=>hs.2 (e▸hg))),h.hq.put i hi p vs hp hE,fun q hq=> ?_,h.ct,h.cl⟩
 rcases List.mem_or_eq_of_mem_set hq with hq|hq
 ·exact h.sep q hq
 ·subst hq
  exact hs
theorem TS.tell (h:TS w Z E b0 t o xs lv L) (k:TP Z b0 t o xs ds lv lv' Y):TS w Y E b0 t o (xs++ds) lv' L:=by
 refine⟨k.ti,h.hq.step k.fr (fun b hb=> ?_) (fun q hq hb=> ?_),fun q hq=>⟨(h.sep q hq).1,fun e=> ?_⟩,h.ct,fun g hg=> ?_⟩
 ·rcases List.mem_cons.1 hb with rfl|hb
  ·exact h.ct
  ·exact h.cl b (by simpa using hb)
 ·rcases List.mem_cons.1 hb with e|hb
  ·exact(h.sep q hq).1 e
  ·exact(h.sep q hq).2 (by simpa using hb)
 ·rcases k.fre _ e with e|e
  ·exact(h.sep q hq).2 e
  ·have:=h.hq.lt q hq
   omega
 ·rcases k.fre _ hg with e|e
  ·exact h.cl g e
  ·exact .inr (Nat.le_trans h.hq.fr.size e)
theorem TS.left {M:List (Nat×List Value)} (h:TS w Z E b0 t o xs lv (L++M)):TS w Z E b0 t o xs lv L:=⟨h.ti,h.hq.left,fun q hq=>h.sep q (List.mem_append_left _ hq),h.ct,h.cl⟩
theorem TS.post {b0 t:Nat} {X:World} {o:Int} {xs ds:List DL} {lv lv':Value} {L:List (Nat×List Value)} {Y:World} (h:TS X Y (t::lv.ownBlock.toList) b0 t o (xs++ds) lv' L):TP X b0 t o xs ds lv lv' Y:=
 ⟨h.ti,h.hq.fr,fun g hg=>by
  rcases h.cl g hg with e|e
  ·rcases List.mem_cons.1 e with rfl|e
   ·exact absurd hg h.ti.apart
   ·exact .inl (by simpa using e)
  ·exact .inr e⟩
end
section
variable {ops:Array Oper} {rest:List Oper} {Q:Exit->Act->World->Prop} {w w0:World} {a:Act} {o:Oper} {E:List Nat} {L:List (Nat×List Value)} {b0 t:Nat} {ob:Int} {xs:List DL} {lv:Value}
theorem bxT {v:Value} {x:Operand} (ty:TypeId) (cs:List Value)  (ho:o.op= .box ty x) (hx:a.eval x=v) (hv:v.cells.toList=cs)  (hL:TS w0 w E b0 t ob xs lv L)
  (h: ∀X B,B=w.heap.size->TS w0 X E b0 t ob xs lv (L++ [(B,cs)])->Below w.heap.size w X->wpList prog ops Q rest (a.put o.dst (.pointer (some ⟨B,0,none⟩))) X) (hw:Region.wanted o (yielded ops a.tmps)=true:=by rfl) (hc:0<cs.length:=by exact Nat.succ_pos _):wpList prog ops Q (o::rest) a w:=by
 refine BigFrame.wpList_want hw fun K hK=> ?_
 have e:v.cells=cs.toArray:=by rw[←hv]
 have hP:=hK _ _ (h _ _ rfl (hL.new cs ty hc) ((Below.refl _ _).alloc (Nat.le_refl _) _))
 have e2:(Instr.box ty v).run prog w= .ok (.pointer (some ⟨w.heap.size,0,none⟩)) (w.alloc (Obj.cells cs.toArray ty)):=by rw[←e];rfl
 unfold Oper.wp execOp
 simp only[ho,hx]
 simp[e2]
 exact hP
theorem alT (ty:TypeId) (cs:List Value)  (ho:o.op= .alloc ty) (hz: ∀w,(zeroValue ty).run prog w= .ok (.agg cs.toArray) w)  (hL:TS w0 w E b0 t ob xs lv L)
  (h: ∀X B,B=w.heap.size->TS w0 X E b0 t ob xs lv (L++ [(B,cs)])->Below w.heap.size w X->wpList prog ops Q rest (a.put o.dst (.pointer (some ⟨B,0,none⟩))) X) (hw:Region.wanted o (yielded ops a.tmps)=true:=by rfl) (hc:0<cs.length:=by exact Nat.succ_pos _):wpList prog ops Q (o::rest) a w:=by
 refine BigFrame.wpList_want hw fun K hK=> ?_
 have hP:=hK _ _ (h _ _ rfl (hL.new cs ty hc) ((Below.refl _ _).alloc (Nat.le_refl _) _))
 unfold Oper.wp execOp
 simp only[ho]
 simp[go_sem,hz,Value.cells]
 exact hP
theorem stT {b p:Nat} {cs vs:List Value} {v:Value} {x y:Operand} (i:Nat) (ty:TypeId)  (ho:o.op= .store ty x y) (hx:a.eval x= .pointer (some ⟨b,p,none⟩)) (hy:a.eval y=v)
  (hv:v.cells.toList=vs) (h1: ∀u∈vs,u.oneCell'=true) (hi:(prog.info? ty).map (·.size)=some vs.length) (hL:TS w0 w E b0 t ob xs lv L) (hg:L[i]? =some (b,cs)) (hp:p+vs.length<=cs.length) (hE:b∈E∨w0.heap.size<=b)
  (h: ∀X,TS w0 X E b0 t ob xs lv (L.set i (b,Bt cs p vs))->Fr w X [b]->wpList prog ops Q rest (a.put o.dst undef) X) (hw:Region.wanted o (yielded ops a.tmps)=true:=by rfl):wpList prog ops Q (o::rest) a w:=by
 refine BigFrame.wpList_want hw fun K hK=> ?_
 have hP:=hK _ _ (h _ (hL.put i hg p vs hp hE) (Fr.setCells8 w b p vs))
 unfold Oper.wp execOp
 simp only[ho,hx,hy,Instr.storeAt,Instr.sureAddr,Sem.run_bind,Sem.run_pure,Result.andThen_ok,Dw w b p ty v vs hv ((hL.hq.get i hg).there p vs.length hp) hi h1]
 exact hP
end
def zeroL:DL:=⟨0,0,0,false,Aq,⟨⟨#[]⟩,0⟩,zeroD⟩
theorem Zgg:(prog.info? 91).map (fun i=>(i.zero,i.size,i.bytes))=some (some zeroL.agg,29,272):=by kernel_rfl
theorem Oq {X Y:World} {t:Nat} {cs:List Value} {lv:Value} (h:Holds X t cs) (hl:t<X.heap.size) (hg:X.grownBy Y lv.ownBlock) (hn:lv.ownBlock≠some t):Holds Y t cs:=h.block (hg.block t hl (fun e=>hn e.symm))
theorem Zz {w Z Y:World} {E:List Nat} {b0 t:Nat} {o:Int} {xs:List DL} {d:DL} {lv:Value} {L:List (Nat×List Value)} {A:Option Addr} {c:Nat} (h:TS w Z E b0 t o xs lv L) (hL: ∀q∈L,lv.ownBlock≠some q.1) (hg:Z.grownBy Y lv.ownBlock) (hO:Y.ownsRow b0 91 29 (.slice A (xs.length+1) c) (xs.length+1) (flatL xs++d.cs)) (hF:Kz Z lv (.slice A (xs.length+1) c)):
  TS w (Y.setCells t 0 [.slice A (xs.length+1) c]) E b0 t o (xs++ [d]) (.slice A (xs.length+1) c) L:=by
 have hfr:Fr Z Y lv.ownBlock.toList:=Fr.grown hg
 have hap:(Value.slice A (xs.length+1) c).ownBlock≠some t:=by
  intro e
  rcases hF with e2|e2
  ·exact h.ti.apart (e2▸e)
  ·have:=h.ti.lt
   rw[e2] at e
   have:=Option.some.inj e
   omega
 have hH:Holds Y t [lv, .int .i64 o]:=Oq h.ti.hold h.ti.lt hg h.ti.apart
 have hP:=hH.put 0 [.slice A (xs.length+1) c] (by simp)
 have hne: ∀g,g≠t->(Y.setCells t 0 [.slice A (xs.length+1) c]).heap[g]? =Y.heap[g]? :=fun g hg=>Gr t _ 0 Y g hg
 refine⟨⟨hP, ?_,hap⟩, ?_,fun q hq=>⟨(h.sep q hq).1,fun e=> ?_⟩,h.ct,fun g hg2=> ?_⟩
 ·rw[Zeu,List.length_append]
  exact Ll hO (fun g hg2=>hne g (fun e=>hap (e▸hg2)))
 ·refine(h.hq.step hfr (fun b hb=>h.cl b (by simpa using hb)) (fun q hq hb=>hL q hq (by simpa using hb))).step (Fr.setCells8 Y t 0 _) (fun b hb=> ?_) (fun q hq hb=> ?_)
  ·obtain rfl:b=t:=by simpa using hb
   exact h.ct
  ·exact(h.sep q hq).1 (by simpa using hb)
 ·rcases hF with e2|e2
  ·exact hL q hq (e2▸e)
  ·have:=h.hq.lt q hq
   rw[e2] at e
   have:=Option.some.inj e
   omega
 ·rcases hF with e2|e2
  ·exact h.cl g (e2▸hg2)
  ·rw[e2] at hg2
   obtain rfl:=Option.some.inj hg2
   exact .inr h.hq.fr.size
theorem Jv (d:DL) (b0 t:Nat) (o:Int) (xs:List DL) (lv:Value) (X:World) (hT:TI b0 X t o xs lv) (hx:xs.length<=100000) (h0:b0<=X.heap.size):Calls prog 111 #[.pointer (some ⟨t,0,none⟩),d.agg] X (ZbX X b0 t o xs [⟨o,d.wh,d.n,d.y,d.v,d.k,d.d⟩] lv):=by
 unfold DL.agg
 have LL:=Ab (TS.start hT)
 have HX:=Ab hx
 have H0:=Ab h0
 clear hT hx h0
 go_enter func111,ntmps111
 go_wp2_with (first|go_skip|((with_reducible show wpList ..);first|((refine bxT 91 d.cs rfl rfl rfl (Aa LL) ?_);intro X1 B1 hE1 L1 hb1;have hB1:=Ab (Nat.le_of_eq hE1.symm);replace LL:=Ab L1;clear L1 hb1 hE1;simp only[nn])|(refine rd rfl (Ad 3 isAgg3 rfl rfl ((Aa LL).ti.hold) rfl) ?_)|((refine stT (vs:= [.int .i64 o]) 0 3 rfl rfl rfl rfl (by simp[Value.oneCell']) szI (Aa LL) rfl (by simp[DL.cs,VV.cs,KK.cs,DD.cs]) (Or.inr (Aa hB1)) ?_);intro X2 L2 hf2;replace LL:=Ab L2;clear L2 hf2;simp only[nn])))
 have hs0:TS X _ (t::lv.ownBlock.toList) b0 t o xs lv [(B1,DL.cs ⟨o,d.wh,d.n,d.y,d.v,d.k,d.d⟩)]:=(Aa LL).drew
 refine wp_region_held_drew (P:=prog) (S:=fun _=>True) (by kernel_rfl) trivial (fun hS0=> ?_)
 refine y0 0 (some 9) (.pointer (some ⟨t,0,none⟩)) rfl trivial ?_
 refine y0 1 (some 10) (.pointer (some ⟨t,0,none⟩)) rfl trivial ?_
 refine y0 2 (some 11) (.pointer (some ⟨t,0,none⟩)) rfl trivial ?_
 refine y0 3 (some 12) (.pointer (some ⟨t,0,none⟩)) rfl trivial ?_
 refine wpAnyH_ready (rs:= [4,5]) (by kernel_rfl) (by simp) (Qb 4 (some 13) rfl (by kernel_rfl) (by kernel_rfl) (Ad 86 isAgg86 rfl rfl (hs0.ti.hold) rfl) trivial ?_ (Qb 5 (some 14) rfl (by kernel_rfl) (by kernel_rfl) (Af (vs:=DL.cs ⟨o,d.wh,d.n,d.y,d.v,d.k,d.d⟩) 91 29 rwL szL rfl rfl (hs0.hq.get 0 rfl) rfl rfl) trivial ?_ AllReadyH.nil))
 ·simp only[nn]
  refine wpAnyH_ready (rs:= [5]) (by kernel_rfl) (by simp) (Qb 5 (some 14) rfl (by kernel_rfl) (by kernel_rfl) (Af (vs:=DL.cs ⟨o,d.wh,d.n,d.y,d.v,d.k,d.d⟩) 91 29 rwL szL rfl rfl (hs0.hq.get 0 rfl) rfl rfl) trivial ?_ AllReadyH.nil)
  simp only[nn]
  refine wpAnyH_ready (rs:= [6]) (by kernel_rfl) (by simp) (Qb 6 (some 15) rfl (by kernel_rfl) (by kernel_rfl) (Mb (cs:=DL.cs ⟨o,d.wh,d.n,d.y,d.v,d.k,d.d⟩) rfl rfl underlying86 Zgg (by decide) rfl rfl (by decide)) trivial ?_ AllReadyH.nil)
  simp only[nn]
  have hs6:=hs0.new (DL.cs ⟨o,d.wh,d.n,d.y,d.v,d.k,d.d⟩) 91 (Nat.succ_pos _)
  refine wpAnyH_ready (rs:= [7]) (by kernel_rfl) (by simp) (gappF (base:=b0) (size:=29) (bytes:=272) (k:=xs.length) (m:=1) (news:=DL.cs ⟨o,d.wh,d.n,d.y,d.v,d.k,d.d⟩) (xs:=flatL xs) (v:=lv) 7 (some 16) rfl rfl rfl rfl underlying86 Zgg rfl hs6.ti.own (hs6.hq.get 1 rfl) rfl (ZaX _) (by have:=Aa HX;omega) (Nat.le_trans (Aa H0) hs6.hq.fr.size) (fun _ _=>trivial) ?_ AllReadyH.nil)
  intro A6 c6 X6 hO6 hg6 hF6
  simp only[nn]
  refine y0 8 (some 17) (.pointer (some ⟨t,0,none⟩)) rfl trivial ?_
  refine y0 9 (some 18) (.pointer (some ⟨t,0,none⟩)) rfl trivial ?_
  refine wpAnyH_ready (rs:= [10]) (by kernel_rfl) (by simp) (Zbk 10 none rfl (by kernel_rfl) (by kernel_rfl) (Gi (t:=86) (vs:= [.slice A6 (xs.length+1) c6]) rfl rfl rfl rfl (by simp[Value.oneCell']) szLs (Oq hs6.ti.hold hs6.ti.lt hg6 hs6.ti.apart) (by simp)) trivial ?_ AllReadyH.nil)
  simp only[nn]
  have hfin:=Zz hs6 (fun q hq=>(hs6.sep q hq).2) hg6 hO6 hF6
  refine dn ?_
  try simp only[nn]
  go_wp2
  go_end0
  exact⟨_,rfl,hfin.post⟩
 ·simp only[nn]
  refine wpAnyH_ready (rs:= [4,6]) (by kernel_rfl) (by simp) (Qb 4 (some 13) rfl (by kernel_rfl) (by kernel_rfl) (Ad 86 isAgg86 rfl rfl (hs0.ti.hold) rfl) trivial ?_ (Qb 6 (some 15) rfl (by kernel_rfl) (by kernel_rfl) (Mb (cs:=DL.cs ⟨o,d.wh,d.n,d.y,d.v,d.k,d.d⟩) rfl rfl underlying86 Zgg (by decide) rfl rfl (by decide)) trivial ?_ AllReadyH.nil))
  ·simp only[nn]
   refine wpAnyH_ready (rs:= [6]) (by kernel_rfl) (by simp) (Qb 6 (some 15) rfl (by kernel_rfl) (by kernel_rfl) (Mb (cs:=DL.cs ⟨o,d.wh,d.n,d.y,d.v,d.k,d.d⟩) rfl rfl underlying86 Zgg (by decide) rfl rfl (by decide)) trivial ?_ AllReadyH.nil)
   simp only[nn]
   have hs6:=hs0.new (DL.cs ⟨o,d.wh,d.n,d.y,d.v,d.k,d.d⟩) 91 (Nat.succ_pos _)
   refine wpAnyH_ready (rs:= [7]) (by kernel_rfl) (by simp) (gappF (base:=b0) (size:=29) (bytes:=272) (k:=xs.length) (m:=1) (news:=DL.cs ⟨o,d.wh,d.n,d.y,d.v,d.k,d.d⟩) (xs:=flatL xs) (v:=lv) 7 (some 16) rfl rfl rfl rfl underlying86 Zgg rfl hs6.ti.own (hs6.hq.get 1 rfl) rfl (ZaX _) (by have:=Aa HX;omega) (Nat.le_trans (Aa H0) hs6.hq.fr.size) (fun _ _=>trivial) ?_ AllReadyH.nil)
   intro A6 c6 X6 hO6 hg6 hF6
   simp only[nn]
   refine y0 8 (some 17) (.pointer (some ⟨t,0,none⟩)) rfl trivial ?_
   refine y0 9 (some 18) (.pointer (some ⟨t,0,none⟩)) rfl trivial ?_
   refine wpAnyH_ready (rs:= [10]) (by kernel_rfl) (by simp) (Zbk 10 none rfl (by kernel_rfl) (by kernel_rfl) (Gi (t:=86) (vs:= [.slice A6 (xs.length+1) c6]) rfl rfl rfl rfl (by simp[Value.oneCell']) szLs (Oq hs6.ti.hold hs6.ti.lt hg6 hs6.ti.apart) (by simp)) trivial ?_ AllReadyH.nil)
   simp only[nn]
   have hfin:=Zz hs6 (fun q hq=>(hs6.sep q hq).2) hg6 hO6 hF6
   refine dn ?_
   try simp only[nn]
   go_wp2
   go_end0
   exact⟨_,rfl,hfin.post⟩
  ·simp only[nn]
   have hs6:=hs0.new (DL.cs ⟨o,d.wh,d.n,d.y,d.v,d.k,d.d⟩) 91 (Nat.succ_pos _)
   refine wpAnyH_ready (rs:= [4]) (by kernel_rfl) (by simp) (Qb 4 (some 13) rfl (by kernel_rfl) (by kernel_rfl) (Ad 86 isAgg86 rfl rfl (hs6.ti.hold) rfl) trivial ?_ AllReadyH.nil)
   simp only[nn]
   refine wpAnyH_ready (rs:= [7]) (by kernel_rfl) (by simp) (gappF (base:=b0) (size:=29) (bytes:=272) (k:=xs.length) (m:=1) (news:=DL.cs ⟨o,d.wh,d.n,d.y,d.v,d.k,d.d⟩) (xs:=flatL xs) (v:=lv) 7 (some 16) rfl rfl rfl rfl underlying86 Zgg rfl hs6.ti.own (hs6.hq.get 1 rfl) rfl (ZaX _) (by have:=Aa HX;omega) (Nat.le_trans (Aa H0) hs6.hq.fr.size) (fun _ _=>trivial) ?_ AllReadyH.nil)
   intro A6 c6 X6 hO6 hg6 hF6
   simp only[nn]
   refine y0 8 (some 17) (.pointer (some ⟨t,0,none⟩)) rfl trivial ?_
   refine y0 9 (some 18) (.pointer (some ⟨t,0,none⟩)) rfl trivial ?_
   refine wpAnyH_ready (rs:= [10]) (by kernel_rfl) (by simp) (Zbk 10 none rfl (by kernel_rfl) (by kernel_rfl) (Gi (t:=86) (vs:= [.slice A6 (xs.length+1) c6]) rfl rfl rfl rfl (by simp[Value.oneCell']) szLs (Oq hs6.ti.hold hs6.ti.lt hg6 hs6.ti.apart) (by simp)) trivial ?_ AllReadyH.nil)
   simp only[nn]
   have hfin:=Zz hs6 (fun q hq=>(hs6.sep q hq).2) hg6 hO6 hF6
   refine dn ?_
   try simp only[nn]
   go_wp2
   go_end0
   exact⟨_,rfl,hfin.post⟩
def SV (v:VV):Prop:=v.s.size<=281474976710656
def SD (d:DD):Prop:=SV d.v/\SV d.g/\SV d.s
def SP (p:PR):Prop:=p.k.s.size<=281474976710656/\SD p.d
def SS (s:SH):Prop:=SV s.p/\ ∀p∈s.ps,SP p
theorem ZbL (s:ByteArray) (w:World) (h:s.size<=281474976710656):Calls prog 146 #[.string s] w fun e w'=>e= .returned (.string s)/\Below w.heap.size w w':=by
 have HC:=Ab (Tryz.stringslite_Clone s w h)
 clear h
 go_enter func146,ntmps146
 go_wp2_with fail
 refine(Aa HC).mono ?_
 rintro e w' ⟨rfl,hb⟩
 go_wp2
 go_ret
 exact⟨rfl,hb⟩
theorem szStr:(prog.info? 9).map (·.size)=some 1:=by kernel_rfl
theorem kcs_one (k:KK): ∀u∈k.cs,u.oneCell'=true:=by simp[KK.cs,Value.oneCell']
theorem ZcJ (d:DD): ∀u∈d.cs,u.oneCell'=true:=by simp[DD.cs,Value.oneCell']
def Gb:KK:=⟨⟨#[]⟩,0⟩
theorem Zav (k:KK) (w:World) (h:k.s.size<=281474976710656):Calls prog 149 #[k.agg] w fun e w'=>e= .returned (k.agg)/\Below w.heap.size w w':=by
 have LL:=Ab (Hq.nil w [])
 have HC:=Ab (fun w=>ZbL k.s w h)
 clear h
 simp only[ZbF]
 go_enter func149,ntmps149
 go_wp2_with (first|go_skip|((with_reducible show wpList ..);first|((refine bx 37 (k.cs) (by rfl) rfl rfl rfl (Nat.succ_pos _) (Aa LL) ?_);intro X1 B1 hE1 L1 hb1;have hB1:=Ab (Nat.le_trans (Aa LL).fr.size (Nat.le_of_eq hE1.symm));replace LL:=Ab L1;clear L1 hb1 hE1;simp only[nn])|((refine alG 37 (Gb.cs) rfl (fun w=>by kernel_rfl) (Aa LL) ?_);intro X2 B2 hE2 L2 hb2;have hB2:=Ab (Nat.le_trans (Aa LL).fr.size (Nat.le_of_eq hE2.symm));replace LL:=Ab L2;clear L2 hb2 hE2;simp only[nn])|(refine rd rfl (Ad 9 isAgg9 rfl rfl ((Aa LL).get 0 rfl) rfl) ?_)))
 refine(Aa HC _).mono ?_
 rintro e w' ⟨rfl,hb⟩
 replace LL:=Ab ((Aa LL).on hb)
 clear hb
 go_wp2_with (first|go_skip|((with_reducible show wpList ..);first|(refine rd rfl (Af (vs:=k.cs) 37 2 rwK szK rfl rfl ((Aa LL).get 0 rfl) rfl rfl) ?_)|((refine st (vs:= [.string k.s]) 0 9 (by rfl) rfl rfl rfl rfl (by simp[Value.oneCell']) szStr (Aa LL) rfl (by simp[VV.cs,KK.cs]) (Or.inr (Aa hB1)) ?_);intro X3 L3 hf3 hs3;replace LL:=Ab L3;clear L3 hf3 hs3;simp only[nn])|((refine st (vs:=k.cs) 1 37 (by rfl) rfl rfl rfl rfl (kcs_one k) szK (Aa LL) rfl (by simp[VV.cs,KK.cs,Aq]) (Or.inr (Aa hB2)) ?_);intro X4 L4 hf4 hs4;replace LL:=Ab L4;clear L4 hf4 hs4;simp only[nn])))
 refine Lt (cs:=k.cs) rwK szK rfl rfl rfl ((Aa LL).get 1 rfl) rfl ?_
 exact⟨rfl,(Aa LL).fr.below⟩
theorem Ki (v:VV) (w:World) (h:v.s.size<=281474976710656):Calls prog 113 #[v.agg] w fun e w'=>e= .returned (v.agg)/\Below w.heap.size w w':=by
 have LL:=Ab (Hq.nil w [])
 have HC:=Ab (fun w=>ZbL v.s w h)
 clear h
 simp only[Rq]
 go_enter func113,ntmps113
 go_wp2_with (first|go_skip|((with_reducible show wpList ..);first|((refine bx 40 (v.cs) (by rfl) rfl rfl rfl (Nat.succ_pos _) (Aa LL) ?_);intro X1 B1 hE1 L1 hb1;have hB1:=Ab (Nat.le_trans (Aa LL).fr.size (Nat.le_of_eq hE1.symm));replace LL:=Ab L1;clear L1 hb1 hE1;simp only[nn])|((refine alG 40 (Aq.cs) rfl (fun w=>by kernel_rfl) (Aa LL) ?_);intro X2 B2 hE2 L2 hb2;have hB2:=Ab (Nat.le_trans (Aa LL).fr.size (Nat.le_of_eq hE2.symm));replace LL:=Ab L2;clear L2 hb2 hE2;simp only[nn])|(refine rd rfl (Ad 9 isAgg9 rfl rfl ((Aa LL).get 0 rfl) rfl) ?_)))
 refine(Aa HC _).mono ?_
 rintro e w' ⟨rfl,hb⟩
 replace LL:=Ab ((Aa LL).on hb)
 clear hb
 go_wp2_with (first|go_skip|((with_reducible show wpList ..);first|(refine rd rfl (Af (vs:=v.cs) 40 5 Nh szV rfl rfl ((Aa LL).get 0 rfl) rfl rfl) ?_)|((refine st (vs:= [.string v.s]) 0 9 (by rfl) rfl rfl rfl rfl (by simp[Value.oneCell']) szStr (Aa LL) rfl (by simp[VV.cs,KK.cs]) (Or.inr (Aa hB1)) ?_);intro X3 L3 hf3 hs3;replace LL:=Ab L3;clear L3 hf3 hs3;simp only[nn])|((refine st (vs:=v.cs) 1 40 (by rfl) rfl rfl rfl rfl (Uu v) szV (Aa LL) rfl (by simp[VV.cs,KK.cs,Aq]) (Or.inr (Aa hB2)) ?_);intro X4 L4 hf4 hs4;replace LL:=Ab L4;clear L4 hf4 hs4;simp only[nn])))
 refine Lt (cs:=v.cs) Nh szV rfl rfl rfl ((Aa LL).get 1 rfl) rfl ?_
 exact⟨rfl,(Aa LL).fr.below⟩
theorem Zdj (d:DD) (w:World) (h:SD d):Calls prog 150 #[d.agg] w fun e w'=>e= .returned (d.agg)/\Below w.heap.size w w':=by
 have LL:=Ab (Hq.nil w [])
 have hv:=fun w=>Ki d.v w h.1
 have hg:=fun w=>Ki d.g w h.2.1
 have hs:=fun w=>Ki d.s w h.2.2
 simp only[Rq] at hv hg hs
 simp only[ZaZ]
 go_enter func150,ntmps150
 go_wp2_with (first|go_skip|((with_reducible show wpList ..);first|((refine bx 43 (d.cs) (by rfl) rfl rfl rfl (Nat.succ_pos _) (Aa LL) ?_);intro X1 B1 hE1 L1 hb1;have hB1:=Ab (Nat.le_trans (Aa LL).fr.size (Nat.le_of_eq hE1.symm));replace LL:=Ab L1;clear L1 hb1 hE1;simp only[nn])|((refine alG 43 (zeroD.cs) rfl (fun w=>by kernel_rfl) (Aa LL) ?_);intro X2 B2 hE2 L2 hb2;have hB2:=Ab (Nat.le_trans (Aa LL).fr.size (Nat.le_of_eq hE2.symm));replace LL:=Ab L2;clear L2 hb2 hE2;simp only[nn])))
 have hq0:Hq w _ [] [(B1,d.cs),(B2,zeroD.cs)]:=(Aa LL).drew
 refine wp_region_held_drew (P:=prog) (S:=fun X=>Hq w X [] [(B1,d.cs),(B2,zeroD.cs)]) (by kernel_rfl) hq0 (fun hS0=> ?_)
 refine y0 0 (some 3) (.pointer (some ⟨B1,0,none⟩)) rfl hq0 ?_
 refine y1 1 (some 4) (.agg d.v.cs.toArray) rfl (fun X hX=>Af (vs:=d.v.cs) 40 5 Nh szV rfl rfl (hX.get 0 rfl) rfl rfl) hq0 ?_
 refine y0 3 (some 6) (.pointer (some ⟨B1,5,none⟩)) rfl hq0 ?_
 refine y1 4 (some 7) (.agg d.g.cs.toArray) rfl (fun X hX=>Af (vs:=d.g.cs) 40 5 Nh szV rfl rfl (hX.get 0 rfl) rfl rfl) hq0 ?_
 refine y0 6 (some 9) (.pointer (some ⟨B1,10,none⟩)) rfl hq0 ?_
 refine y1 7 (some 10) (.agg d.s.cs.toArray) rfl (fun X hX=>Af (vs:=d.s.cs) 40 5 Nh szV rfl rfl (hX.get 0 rfl) rfl rfl) hq0 ?_
 refine wpAnyH_ready (rs:= [2]) (by kernel_rfl) (by simp) (Jm 2 (some 5) rfl (by kernel_rfl) (by kernel_rfl) (by kernel_rfl) (hv _) ?_ AllReadyH.nil)
 rintro e Y2 ⟨rfl,hY2⟩
 have hq02:=Hq.on hq0 hY2
 refine⟨_,rfl,hq02, ?_⟩
 simp only[nn]
 refine y0 9 (some 12) (.pointer (some ⟨B1,0,none⟩)) rfl hq02 ?_
 refine wpAnyH_ready (rs:= [5]) (by kernel_rfl) (by simp) (Jm 5 (some 8) rfl (by kernel_rfl) (by kernel_rfl) (by kernel_rfl) (hg _) ?_ AllReadyH.nil)
 rintro e Y5 ⟨rfl,hY5⟩
 have hq05:=Hq.on hq02 hY5
 refine⟨_,rfl,hq05, ?_⟩
 simp only[nn]
 refine wpAnyH_ready (rs:= [8]) (by kernel_rfl) (by simp) (Jm 8 (some 11) rfl (by kernel_rfl) (by kernel_rfl) (by kernel_rfl) (hs _) ?_ AllReadyH.nil)
 rintro e Y8 ⟨rfl,hY8⟩
 have hq08:=Hq.on hq05 hY8
 refine⟨_,rfl,hq08, ?_⟩
 simp only[nn]
 refine wpAnyH_ready (rs:= [10]) (by kernel_rfl) (by simp) (Zbk 10 none rfl (by kernel_rfl) (by kernel_rfl) (Gi (t:=40) (vs:=d.v.cs) rfl rfl rfl rfl (Uu _) szV (hq08.get 0 rfl) (by simp[DD.cs,VV.cs])) (hq08.put 0 rfl 0 d.v.cs (by simp[DD.cs,VV.cs]) (.inr (Aa hB1))) ?_ AllReadyH.nil)
 have hqa:Hq w _ [] [(B1,d.cs),(B2,zeroD.cs)]:=hq08.put 0 rfl 0 d.v.cs (by simp[DD.cs,VV.cs]) (.inr (Aa hB1))
 simp only[nn]
 refine y0 11 (some 13) (.pointer (some ⟨B1,5,none⟩)) rfl hqa ?_
 refine wpAnyH_ready (rs:= [12]) (by kernel_rfl) (by simp) (Zbk 12 none rfl (by kernel_rfl) (by kernel_rfl) (Gi (t:=40) (vs:=d.g.cs) rfl rfl rfl rfl (Uu _) szV (hqa.get 0 rfl) (by simp[DD.cs,VV.cs])) (hqa.put 0 rfl 5 d.g.cs (by simp[DD.cs,VV.cs]) (.inr (Aa hB1))) ?_ AllReadyH.nil)
 have hqb:Hq w _ [] [(B1,d.cs),(B2,zeroD.cs)]:=hqa.put 0 rfl 5 d.g.cs (by simp[DD.cs,VV.cs]) (.inr (Aa hB1))
 simp only[nn]
 refine y0 13 (some 14) (.pointer (some ⟨B1,10,none⟩)) rfl hqb ?_
 refine wpAnyH_ready (rs:= [14]) (by kernel_rfl) (by simp) (Zbk 14 none rfl (by kernel_rfl) (by kernel_rfl) (Gi (t:=40) (vs:=d.s.cs) rfl rfl rfl rfl (Uu _) szV (hqb.get 0 rfl) (by simp[DD.cs,VV.cs])) (hqb.put 0 rfl 10 d.s.cs (by simp[DD.cs,VV.cs]) (.inr (Aa hB1))) ?_ AllReadyH.nil)
 have hqc:Hq w _ [] [(B1,d.cs),(B2,zeroD.cs)]:=hqb.put 0 rfl 10 d.s.cs (by simp[DD.cs,VV.cs]) (.inr (Aa hB1))
 simp only[nn]
 refine dn ?_
 try simp only[nn]
 replace LL:=Ab hqc
 clear hqa hqb hqc hq0 hq02 hq05 hq08 hS0 hv hg hs hY2 hY5 hY8 h
 go_wp2_with (first|go_skip|((with_reducible show wpList ..);first|(refine rd rfl (Af (vs:=d.cs) 43 18 rwD szD rfl rfl ((Aa LL).get 0 rfl) rfl rfl) ?_)|((refine st (vs:=d.cs) 1 43 (by rfl) rfl rfl rfl rfl (ZcJ d) szD (Aa LL) rfl (by simp[DD.cs,zeroD]) (Or.inr (Aa hB2)) ?_);intro X4 L4 hf4 hs4;replace LL:=Ab L4;clear L4 hf4 hs4;simp only[nn])))
 refine Lt (cs:=d.cs) rwD szD rfl rfl rfl ((Aa LL).get 1 rfl) rfl ?_
 exact⟨rfl,(Aa LL).fr.below⟩
def Ol (o:Int) (p:PR):DL:=⟨o,6,0,false,Aq,p.k,p.d⟩
def goneL (o:Int) (k:KK):DL:=⟨o,5,0,false,Aq,k,zeroD⟩
def ZbC (o:Int) (s:SH):DL:=⟨o,1,s.c,s.x,s.p,Gb,zeroD⟩
def Jo (o:Int) (s:SH):DL:=⟨o,2,s.c,false,Aq,Gb,zeroD⟩
def Jk (o:Int) (s:SH):DL:=⟨o,3,0,false,s.p,Gb,zeroD⟩
def Qd (o:Int) (s:SH):DL:=⟨o,4,0,s.x,Aq,Gb,zeroD⟩
theorem bPut (k:KK) (d:DD) (w:World):(Instr.build 91 #[(1, .int .i64 6),(5, .agg k.cs.toArray),(6, .agg d.cs.toArray)]).run prog w= .ok (.agg (DL.cs ⟨0,6,0,false,Aq,k,d⟩).toArray) w:=by kernel_rfl
theorem ex_bPut {o:Oper} {a:Act} {w:World} {x1 x5 x6:Operand} (k:KK) (d:DD) (ho:o.op= .build 91 #[(1,x1),(5,x5),(6,x6)]) (h1:a.eval x1= .int .i64 6) (h5:a.eval x5= .agg k.cs.toArray) (h6:a.eval x6= .agg d.cs.toArray):(execOp a.eval o).run prog w= .ok (.value (.agg (DL.cs ⟨0,6,0,false,Aq,k,d⟩).toArray)) w:=by
 have e:=bPut k d w
 unfold execOp
 simp only[ho,List.map_toArray,List.map_cons,List.map_nil,h1,h5,h6]
 simp[e]
theorem bGone (k:KK) (w:World):(Instr.build 91 #[(1, .int .i64 5),(5, .agg k.cs.toArray)]).run prog w= .ok (.agg (DL.cs ⟨0,5,0,false,Aq,k,zeroD⟩).toArray) w:=by kernel_rfl
theorem ex_bGone {o:Oper} {a:Act} {w:World} {x1 x5:Operand} (k:KK) (ho:o.op= .build 91 #[(1,x1),(5,x5)]) (h1:a.eval x1= .int .i64 5) (h5:a.eval x5= .agg k.cs.toArray):(execOp a.eval o).run prog w= .ok (.value (.agg (DL.cs ⟨0,5,0,false,Aq,k,zeroD⟩).toArray)) w:=by
 have e:=bGone k w
 unfold execOp
 simp only[ho,List.map_toArray,List.map_cons,List.map_nil,h1,h5]
 simp[e]
theorem bMake (n:Int) (v:VV) (y:Bool) (w:World):(Instr.build 91 #[(1, .int .i64 1),(2, .int .i64 n),(4, .agg v.cs.toArray),(3, .bool y)]).run prog w= .ok (.agg (DL.cs ⟨0,1,n,y,v,Gb,zeroD⟩).toArray) w:=by kernel_rfl
theorem ex_bMake {o:Oper} {a:Act} {w:World} {x1 x2 x4 x3:Operand} (n:Int) (v:VV) (y:Bool) (ho:o.op= .build 91 #[(1,x1),(2,x2),(4,x4),(3,x3)]) (h1:a.eval x1= .int .i64 1) (h2:a.eval x2= .int .i64 n) (h4:a.eval x4= .agg v.cs.toArray) (h3:a.eval x3= .bool y):(execOp a.eval o).run prog w= .ok (.value (.agg (DL.cs ⟨0,1,n,y,v,Gb,zeroD⟩).toArray)) w:=by
 have e:=bMake n v y w
 unfold execOp
 simp only[ho,List.map_toArray,List.map_cons,List.map_nil,h1,h2,h4,h3]
 simp[e]
theorem bClass (n:Int) (w:World):(Instr.build 91 #[(1, .int .i64 2),(2, .int .i64 n)]).run prog w= .ok (.agg (DL.cs ⟨0,2,n,false,Aq,Gb,zeroD⟩).toArray) w:=by kernel_rfl
theorem Zgp {o:Oper} {a:Act} {w:World} {x1 x2:Operand} (n:Int) (ho:o.op= .build 91 #[(1,x1),(2,x2)]) (h1:a.eval x1= .int .i64 2) (h2:a.eval x2= .int .i64 n):(execOp a.eval o).run prog w= .ok (.value (.agg (DL.cs ⟨0,2,n,false,Aq,Gb,zeroD⟩).toArray)) w:=by
 have e:=bClass n w
 unfold execOp
 simp only[ho,List.map_toArray,List.map_cons,List.map_nil,h1,h2]
 simp[e]
theorem bProto (v:VV) (w:World):(Instr.build 91 #[(1, .int .i64 3),(4, .agg v.cs.toArray)]).run prog w= .ok (.agg (DL.cs ⟨0,3,0,false,v,Gb,zeroD⟩).toArray) w:=by kernel_rfl
theorem ZbK {o:Oper} {a:Act} {w:World} {x1 x4:Operand} (v:VV) (ho:o.op= .build 91 #[(1,x1),(4,x4)]) (h1:a.eval x1= .int .i64 3) (h4:a.eval x4= .agg v.cs.toArray):(execOp a.eval o).run prog w= .ok (.value (.agg (DL.cs ⟨0,3,0,false,v,Gb,zeroD⟩).toArray)) w:=by
 have e:=bProto v w
 unfold execOp
 simp only[ho,List.map_toArray,List.map_cons,List.map_nil,h1,h4]
 simp[e]
theorem bExt (y:Bool) (w:World):(Instr.build 91 #[(1, .int .i64 4),(3, .bool y)]).run prog w= .ok (.agg (DL.cs ⟨0,4,0,y,Aq,Gb,zeroD⟩).toArray) w:=by kernel_rfl
theorem Zt {o:Oper} {a:Act} {w:World} {x1 x3:Operand} (y:Bool) (ho:o.op= .build 91 #[(1,x1),(3,x3)]) (h1:a.eval x1= .int .i64 4) (h3:a.eval x3= .bool y):(execOp a.eval o).run prog w= .ok (.value (.agg (DL.cs ⟨0,4,0,y,Aq,Gb,zeroD⟩).toArray)) w:=by
 have e:=bExt y w
 unfold execOp
 simp only[ho,List.map_toArray,List.map_cons,List.map_nil,h1,h3]
 simp[e]
theorem Zcb (p:PR) (b0 t:Nat) (o:Int) (xs:List DL) (lv:Value) (X:World) (hT:TI b0 X t o xs lv) (hx:xs.length<=100000) (h0:b0<=X.heap.size) (hs:SP p):Calls prog 115 #[.pointer (some ⟨t,0,none⟩),p.agg] X (ZbX X b0 t o xs [Ol o p] lv):=by
 have LL:=Ab (TS.start hT)
 have hk:=fun w=>Zav p.k w hs.1
 have hd:=fun w=>Zdj p.d w hs.2
 simp only[ZbF] at hk
 simp only[ZaZ] at hd
 rw[Zao]
 clear hT
 go_enter func115,ntmps115
 go_wp2_with (first|go_skip|((with_reducible show wpList ..);((refine bxT 80 (p.cs) rfl rfl rfl (Aa LL) ?_);intro X1 B1 hE1 L1 hb1;have hB1:=Ab (Nat.le_trans (Aa LL).hq.fr.size (Nat.le_of_eq hE1.symm));replace LL:=Ab L1;clear L1 hb1 hE1;simp only[nn])))
 have ht0:TS X _ (t::lv.ownBlock.toList) b0 t o xs lv [(B1,p.cs)]:=(Aa LL).drew
 have hq0: ∃ys lw,TS X _ (t::lv.ownBlock.toList) b0 t o ys lw [(B1,p.cs)]:=⟨_,_,ht0⟩
 refine wp_region_held_drew (P:=prog) (S:=fun Z=> ∃ys lw,TS X Z (t::lv.ownBlock.toList) b0 t o ys lw [(B1,p.cs)]) (by kernel_rfl) hq0 (fun hS0=> ?_)
 refine y0 0 (some 4) (.pointer (some ⟨t,0,none⟩)) rfl hq0 ?_
 refine y0 1 (some 5) (.pointer (some ⟨B1,0,none⟩)) rfl hq0 ?_
 refine y1 2 (some 6) (.agg p.k.cs.toArray) rfl (fun X hX=>by obtain⟨ys,lw,hZ⟩:=hX;exact Af (vs:=p.k.cs) 37 2 rwK szK rfl rfl (hZ.hq.get 0 rfl) rfl rfl) hq0 ?_
 refine y0 4 (some 8) (.pointer (some ⟨B1,2,none⟩)) rfl hq0 ?_
 refine y1 5 (some 9) (.agg p.d.cs.toArray) rfl (fun X hX=>by obtain⟨ys,lw,hZ⟩:=hX;exact Af (vs:=p.d.cs) 43 18 rwD szD rfl rfl (hZ.hq.get 0 rfl) rfl rfl) hq0 ?_
 refine wpAnyH_ready (rs:= [3]) (by kernel_rfl) (by simp) (Jm 3 (some 7) rfl (by kernel_rfl) (by kernel_rfl) (by kernel_rfl) (hk _) ?_ AllReadyH.nil)
 rintro e Y3 ⟨rfl,hY3⟩
 have ht3:=ht0.on hY3
 have hq3: ∃ys lw,TS X Y3 (t::lv.ownBlock.toList) b0 t o ys lw [(B1,p.cs)]:=⟨_,_,ht3⟩
 refine⟨_,rfl,hq3, ?_⟩
 simp only[nn]
 refine wpAnyH_ready (rs:= [6]) (by kernel_rfl) (by simp) (Jm 6 (some 10) rfl (by kernel_rfl) (by kernel_rfl) (by kernel_rfl) (hd _) ?_ AllReadyH.nil)
 rintro e Y6 ⟨rfl,hY6⟩
 have ht6:=ht3.on hY6
 have hq6: ∃ys lw,TS X Y6 (t::lv.ownBlock.toList) b0 t o ys lw [(B1,p.cs)]:=⟨_,_,ht6⟩
 refine⟨_,rfl,hq6, ?_⟩
 simp only[nn]
 refine y1 7 (some 11) (.agg (DL.cs ⟨0,6,0,false,Aq,p.k,p.d⟩).toArray) rfl (fun X hX=>ex_bPut p.k p.d rfl rfl rfl rfl) hq6 ?_
 refine wpAnyH_ready (rs:= [8]) (by kernel_rfl) (by simp) (Jm 8 (some 12) rfl (by kernel_rfl) (by kernel_rfl) (by kernel_rfl) (Jv ⟨0,6,0,false,Aq,p.k,p.d⟩ b0 t o xs lv _ ht6.ti hx (Nat.le_trans h0 ht6.hq.fr.size)) ?_ AllReadyH.nil)
 rintro e Y8 ⟨lv8,rfl,hY8⟩
 have ht8:=ht6.tell hY8
 have hq8: ∃ys lw,TS X Y8 (t::lv.ownBlock.toList) b0 t o ys lw [(B1,p.cs)]:=⟨_,_,ht8⟩
 refine⟨_,rfl,hq8, ?_⟩
 simp only[nn]
 refine dn ?_
 try simp only[nn]
 go_wp2
 go_end0
 exact⟨_,rfl,ht8.post⟩
theorem Zdw (k:KK) (b0 t:Nat) (o:Int) (xs:List DL) (lv:Value) (X:World) (hT:TI b0 X t o xs lv) (hx:xs.length<=100000) (h0:b0<=X.heap.size) (hs:k.s.size<=281474976710656):Calls prog 147 #[.pointer (some ⟨t,0,none⟩),k.agg] X (ZbX X b0 t o xs [goneL o k] lv):=by
 have LL:=Ab (TS.start hT)
 have HK:=Ab (fun w=>Zav k w hs)
 have HX:=Ab hx
 have H0:=Ab h0
 simp only[ZbF] at HK
 rw[ZbF]
 clear hT hx h0 hs
 go_enter func147,ntmps147
 go_wp2_with (first|go_skip|((with_reducible show wpList ..);first|((refine bxT 37 (k.cs) rfl rfl rfl (Aa LL) ?_);intro X1 B1 hE1 L1 hb1;have hB1:=Ab (Nat.le_trans (Aa LL).hq.fr.size (Nat.le_of_eq hE1.symm));replace LL:=Ab L1;clear L1 hb1 hE1;simp only[nn])|(refine rd rfl (Af (vs:=k.cs) 37 2 rwK szK rfl rfl ((Aa LL).hq.get 0 rfl) rfl rfl) ?_)))
 refine(Aa HK _).mono ?_
 rintro e Y3 ⟨rfl,hY3⟩
 replace LL:=Ab ((Aa LL).on hY3)
 clear hY3
 go_wp2_with (first|go_skip|((with_reducible show wpList ..);(refine rd rfl (ex_bGone k rfl rfl rfl) ?_)))
 refine(Jv ⟨0,5,0,false,Aq,k,zeroD⟩ b0 t o xs lv _ (Aa LL).ti (Aa HX) (Nat.le_trans (Aa H0) (Aa LL).hq.fr.size)).mono ?_
 rintro e Y4 ⟨lv4,rfl,hY4⟩
 replace LL:=Ab ((Aa LL).tell hY4)
 clear hY4
 go_wp2
 go_end0
 exact⟨_,rfl,(Aa LL).post⟩
