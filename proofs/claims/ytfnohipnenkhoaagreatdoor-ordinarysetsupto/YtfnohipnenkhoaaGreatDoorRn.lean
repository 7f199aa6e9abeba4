import Derived.Test.YtfnohipnenkhoaaGreatDoorRm
set_option linter.all false
namespace Go.Proofs.YtfnohipnenkhoaaGreatDoor
set_option maxRecDepth 100000
set_option maxHeartbeats 0
section
open Go Go.Proofs Go.Maps Go.RowKit FM
attribute [local go_sem] Am Al Ar Ah Ao Ai Aw Do Dn Bq Aj Bo
def ZdQ (w:World) (A:Option Addr) (l:List PO):Prop:= ∀(j:Nat) (s:PO),l[j]? =some s-> ∃b off PA pc,A=some ⟨b,off,none⟩/\b<w.heap.size/\w.rangeAt b (off+j * 8) (shC s (.slice PA s.ps.length pc))/\ReadsP w PA s.ps
theorem Ze0 {l:List PO} {vs:List Value} (h:vs.length=l.length):(l.zip vs).length=l.length:=by simp[h]
theorem My {X:World} {base n:Nat} {A:Option Addr} {c:Nat} {l:List PO} {vs:List Value} (hn:l.length=n) (h:X.ownsRow base 66 8 (.slice A n c) n (Uv l vs)) (hp:(psO base l vs).P X):ZdQ X A l:=fun j s hj=>by
 have hlt:=(List.getElem?_eq_some_iff.1 hj).1
 have hs:=(List.getElem?_eq_some_iff.1 hj).2
 have hlv:j<vs.length:=by rw[hp.1];exact hlt
 have hz:(l.zip vs).length=n:=by rw[Ze0 hp.1];exact hn
 obtain⟨g,c',h1,h2,h3,h4⟩:=Zbx (f:=fun x:PO×Value=>shC x.1 x.2) (k:=8) (fun _=>rfl) h hz j (by rw[hz];omega)
 cases h1
 have hO:=hp.2 j s vs[j] hj (List.getElem?_eq_getElem hlv)
 obtain⟨PA,pc,e⟩:=Gy hO
 refine⟨g,0,PA,pc,rfl,h3, ?_, ?_⟩
 ·have e2:(l.zip vs)[j]'(by rw[hz];omega)=(s,vs[j]):=by rw[List.getElem_zip,hs]
  rw[e2,e] at h4
  exact h4
 ·rw[e] at hO
  exact ZeO hO rfl
theorem Zbt (l:List PO) (A1 A2:Option Addr) (c1 c2:Nat) (w:World) (hz:l.length<=1000000) (hps: ∀s∈l,s.ps.length<=1000000/\s.p.x<2^64/\ ∀e∈s.ps,FD e.2) (hR1:ZdQ w A1 l) (hR2:ZdQ w A2 l):Calls Tryz.prog 12 #[.slice A1 l.length c1, .slice A2 l.length c2] w fun e w'=>e= .returned (.bool true)/\Below w.heap.size w w':=by
 have SS:=Ab (Sy.nil w [])
 go_enter Tryz.func12,Tryz.ntmps12
 go_wp2_with (first|go_skip|((with_reducible show wpList ..);first|(refine rd rfl (Bi 32 66 Tryz.underlying32 rfl rfl) ?_)|(refine rd rfl (Eh rfl rfl rfl rfl) ?_)))
 go_loopg [5] l.length (fun gm s5 wr=> ∃i:Nat,s5= .int .i64 (i:Nat)/\i<=l.length/\l.length - i<=gm/\Hid (Sy w wr [] []))
 case atStart=>exact⟨0,rfl,by omega,by omega,SS⟩
 case round=>
  clear SS
  obtain⟨i,rfl,hil,hgm,SS⟩:=hrel
  by_cases hlt:i<l.length
  ·obtain⟨s,hs⟩: ∃s,l[i]? =some s:=⟨_,List.getElem?_eq_getElem hlt⟩
   obtain⟨b1,o1,P1,q1,rfl,hb1,hr1,hp1⟩:=hR1 i s hs
   obtain⟨b2,o2,P2,q2,rfl,hb2,hr2,hp2⟩:=hR2 i s hs
   have HR1: ∀X,Sy w X [] []->X.rangeAt b1 (o1+i * 8) (shC s (.slice P1 s.ps.length q1)):=fun X hX=>Dj hr1 hb1 hX.fr.below
   have HR2: ∀X,Sy w X [] []->X.rangeAt b2 (o2+i * 8) (shC s (.slice P2 s.ps.length q2)):=fun X hX=>Dj hr2 hb2 hX.fr.below
   have dlt:decide ((i:Int)<(l.length:Int))=true:=decide_eq_true (by omega)
   have hw1:IntKind.i64.wrap ((i:Int)+1)=(i:Int)+1:=by rw[IntKind.wrap_i64];omega
   go_wp2_with (first|go_skip|((with_reducible show wpList ..);(refine rd rfl (Bi 32 66 Tryz.underlying32 rfl rfl) ?_)))
   have hS6:Sy w _ [] []:=(Aa SS).drew
   clear SS
   refine wp_region_held_drew (P:=Tryz.prog) (S:=fun X=>Sy w X [] _) (by kernel_rfl) (hS6) (fun hS0=> ?_)
   refine gp 0 (some 17) (.slice (some ⟨b1,o1,none⟩) l.length c1) rfl rfl (hS6) ?_
   refine gp 1 (some 18) (.int .i64 (i:Nat)) rfl rfl (hS6) ?_
   refine gq 2 (some 19) (.pointer (some ⟨b1,o1+i * 8,none⟩)) rfl rfl (fun X hX=>Az 32 8 i Zb6 ZcB rfl rfl rfl hlt) (hS6) ?_
   refine gq 3 (some 20) (.agg (shC s (.slice P1 s.ps.length q1)).toArray) rfl rfl (fun X hX=>By (vs:=shC s (.slice P1 s.ps.length q1)) 66 8 rwS szS rfl rfl (HR1 _ hX) rfl) (hS6) ?_
   refine gp 4 (some 21) (.slice (some ⟨b2,o2,none⟩) l.length c2) rfl rfl (hS6) ?_
   refine gp 5 (some 22) (.int .i64 (i:Nat)) rfl rfl (hS6) ?_
   refine gq 6 (some 23) (.pointer (some ⟨b2,o2+i * 8,none⟩)) rfl rfl (fun X hX=>Az 32 8 i Zb6 ZcB rfl rfl rfl hlt) (hS6) ?_
   refine gq 7 (some 24) (.agg (shC s (.slice P2 s.ps.length q2)).toArray) rfl rfl (fun X hX=>By (vs:=shC s (.slice P2 s.ps.length q2)) 66 8 rwS szS rfl rfl (HR2 _ hX) rfl) (hS6) ?_
   refine gr (rs:= [8]) (gcB 8 (some 25) rfl rfl hS6 (Po s P1 P2 q1 q2 _ (hps s (List.mem_of_getElem? hs)).1 (hps s (List.mem_of_getElem? hs)).2.1 (hps s (List.mem_of_getElem? hs)).2.2 (hp1.on hS6.fr.below) (hp2.on hS6.fr.below)) id ?_ gn)
   intro Y1 hq1
   refine gp 9 (some 26) (.bool false) rfl rfl (hq1) ?_
   refine wpAnyH_done (by kernel_rfl) ?_ _
   try simp only[nn]
   have SS:=Ab hq1
   go_wp2
   go_roundg (l.length - (i+1))
   case measure=>omega
   case rel=>exact⟨i+1,by go_num,by omega,by omega,SS⟩
  ·obtain rfl:i=l.length:=by omega
   go_wp2_with (first|go_skip|((with_reducible show wpList ..);(refine rd rfl (Bi 32 66 Tryz.underlying32 rfl rfl) ?_)))
   go_ret
   exact⟨rfl,(Aa SS).fr.below⟩
