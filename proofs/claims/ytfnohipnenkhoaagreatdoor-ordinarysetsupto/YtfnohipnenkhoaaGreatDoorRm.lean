import Derived.Test.YtfnohipnenkhoaaGreatDoorRk
set_option linter.all false
namespace Go.Proofs.YtfnohipnenkhoaaGreatDoor
set_option maxRecDepth 100000
set_option maxHeartbeats 0
section
open Go Go.Proofs Go.Maps Go.RowKit FM Tryz
attribute [local go_sem] Am Al Ar Ah Ao Ai Aw Do Dn Bq Aj Bo
def ReadsP (w:World) (A:Option Addr) (l:List (KK×DD)):Prop:= ∀(j:Nat) (e:KK×DD),l[j]? =some e-> ∃b off,A=some ⟨b,off,none⟩/\b<w.heap.size/\w.rangeAt b (off+j * 20) (e.1.cs++e.2.cs)
theorem ReadsP.on {w X:World} {A:Option Addr} {l:List (KK×DD)} (h:ReadsP w A l) (k:Below w.heap.size w X):ReadsP X A l:=fun j e hj=>by
 obtain⟨b,off,h1,h2,h3⟩:=h j e hj
 exact⟨b,off,h1,Nat.lt_of_lt_of_le h2 k.size,Dj h3 h2 k⟩
theorem ZeO {X:World} {base n:Nat} {A:Option Addr} {c:Nat} {l:List (KK×DD)} (h:X.ownsRow base 69 20 (.slice A n c) n (Mk l)) (hn:l.length=n):ReadsP X A l:=fun j e hj=>by
 have hlt:=(List.getElem?_eq_some_iff.1 hj).1
 have he:=(List.getElem?_eq_some_iff.1 hj).2
 obtain⟨g,c',h1,h2,h3,h4⟩:=Zbx (f:=fun x:KK×DD=>x.1.cs++x.2.cs) (k:=20) (fun _=>rfl) h hn j hlt
 cases h1
 exact⟨g,0,rfl,h3,by rw[he] at h4;exact h4⟩
theorem ex_kne {o:Oper} {a:Act} {w:World} {x y:Operand} {k:KK} (ho:o.op= .binOp .neq 48 x y 48) (hx:a.eval x= .agg k.cs.toArray) (hc:a.eval y= .agg k.cs.toArray):(execOp a.eval o).run prog w= .ok (.value (.bool false)) w:=by
 have h2:=neq23 k w
 rw[Ds] at h2
 unfold execOp
 simp only[ho,hx,hc]
 simp[eqGuard,h2]
theorem ex_bneS {o:Oper} {a:Act} {w:World} {x y:Operand} {b:Bool} (ho:o.op= .binOp .neq 4 x y 4) (hx:a.eval x= .bool b) (hc:a.eval y= .bool b):(execOp a.eval o).run prog w= .ok (.value (.bool false)) w:=by
 unfold execOp
 simp only[ho,hx,hc]
 simp[go_sem,eqGuard]
theorem Po (s:PO) (A1 A2:Option Addr) (c1 c2:Nat) (w:World) (hz:s.ps.length<=1000000) (hpx:s.p.x<2^64) (hps: ∀e∈s.ps,FD e.2) (hR1:ReadsP w A1 s.ps) (hR2:ReadsP w A2 s.ps):Calls prog 15 #[.agg (shC s (.slice A1 s.ps.length c1)).toArray, .agg (shC s (.slice A2 s.ps.length c2)).toArray] w fun e w'=>e= .returned (.bool true)/\Below w.heap.size w w':=by
 have SS:=Ab (Sy.nil w [])
 go_enter func15,ntmps15
 go_wp2_with (first|go_skip|((with_reducible show wpList ..);first|(refine zB 66 (shC s (.slice A1 s.ps.length c1)) (by rfl) rfl rfl rfl SS ?_;clear SS;intro Xa Ba SS;simp only[nn])|(refine zB 66 (shC s (.slice A2 s.ps.length c2)) (by rfl) rfl rfl rfl SS ?_;clear SS;intro Xb Bb SS;simp only[nn])|(refine rd rfl (Ad 3 isAgg3 rfl rfl ((Aa SS).hold 0 rfl) rfl) ?_)|(refine rd rfl (Ad 3 isAgg3 rfl rfl ((Aa SS).hold 1 rfl) rfl) ?_)|(refine rd rfl (Af (vs:=s.p.cs) 36 5 rwV szV rfl rfl ((Aa SS).hold 0 rfl) rfl rfl) ?_)|(refine rd rfl (Af (vs:=s.p.cs) 36 5 rwV szV rfl rfl ((Aa SS).hold 1 rfl) rfl rfl) ?_)|(refine rd rfl (Eh rfl rfl rfl rfl) ?_)))
 have HC:=fun (w:World)=>Qe s.p s.p w
 simp only[Oe,Db] at HC
 refine(HC _).mono ?_
 rintro _ Y1 ⟨rfl,hY1⟩
 replace SS:=Ab ((Aa SS).on hY1)
 clear hY1 HC
 go_wp2_with (first|go_skip|((with_reducible show wpList ..);first|(refine rd rfl (Ad 4 isAgg4 rfl rfl ((Aa SS).hold 0 rfl) rfl) ?_)|(refine rd rfl (Ad 4 isAgg4 rfl rfl ((Aa SS).hold 1 rfl) rfl) ?_)|(refine rd rfl (Ad 52 isAgg52 rfl rfl ((Aa SS).hold 0 rfl) rfl) ?_)|(refine rd rfl (Ad 52 isAgg52 rfl rfl ((Aa SS).hold 1 rfl) rfl) ?_)|(refine rd rfl (Bi 52 69 underlying52 rfl rfl) ?_)|(refine rd rfl (Eh rfl rfl rfl rfl) ?_)|(refine rd rfl (ex_bneS rfl rfl rfl) ?_)))
 go_loopg [5] s.ps.length (fun gm s5 wr=> ∃i:Nat,s5= .int .i64 (i:Nat)/\i<=s.ps.length/\s.ps.length - i<=gm/\Hid (Sy w wr [] [Aq Ba (shC s (.slice A1 s.ps.length c1)),Aq Bb (shC s (.slice A2 s.ps.length c2))]))
 case atStart=>exact⟨0,rfl,by omega,by omega,SS⟩
 case round=>
  clear SS
  obtain⟨i,rfl,hil,hgm,SS⟩:=hrel
  by_cases hlt:i<s.ps.length
  ·obtain⟨x,hx⟩: ∃x,s.ps[i]? =some x:=⟨_,List.getElem?_eq_getElem hlt⟩
   obtain⟨b1,o1,rfl,hb1,hr1⟩:=hR1 i x hx
   obtain⟨b2,o2,rfl,hb2,hr2⟩:=hR2 i x hx
   have HR1: ∀X,Sy w X [] [Aq Ba (shC s (.slice (some ⟨b1,o1,none⟩) s.ps.length c1)),Aq Bb (shC s (.slice (some ⟨b2,o2,none⟩) s.ps.length c2))]->X.rangeAt b1 (o1+i * 20) (x.1.cs++x.2.cs):=fun X hX=>Dj hr1 hb1 hX.fr.below
   have HR2: ∀X,Sy w X [] [Aq Ba (shC s (.slice (some ⟨b1,o1,none⟩) s.ps.length c1)),Aq Bb (shC s (.slice (some ⟨b2,o2,none⟩) s.ps.length c2))]->X.rangeAt b2 (o2+i * 20) (x.1.cs++x.2.cs):=fun X hX=>Dj hr2 hb2 hX.fr.below
   have dlt:decide ((i:Int)<(s.ps.length:Int))=true:=decide_eq_true (by omega)
   have hw1:IntKind.i64.wrap ((i:Int)+1)=(i:Int)+1:=by rw[IntKind.wrap_i64];omega
   have eqc: ∀w,Calls prog 16 #[x.2.agg,x.2.agg] w fun e w'=>e= .returned (.bool true)/\Below w.heap.size w w':=fun w=>by
    have:=ZbW x.2 x.2 w
    rw[Zav] at this
    exact this
   go_wp2_with (first|go_skip|((with_reducible show wpList ..);first|(refine rd rfl (Ad 52 isAgg52 rfl rfl ((Aa SS).hold 0 rfl) rfl) ?_)|(refine rd rfl (Bi 52 69 underlying52 rfl rfl) ?_)))
   have hS6:Sy w _ [] [Aq Ba (shC s (.slice (some ⟨b1,o1,none⟩) s.ps.length c1)),Aq Bb (shC s (.slice (some ⟨b2,o2,none⟩) s.ps.length c2))]:=(Aa SS).drew
   clear SS
   refine wp_region_held_drew (P:=prog) (S:=fun X=>Sy w X [] _) (by kernel_rfl) (hS6) (fun hS0=> ?_)
   refine gp 0 (some 42) (.pointer (some ⟨Ba,7,none⟩)) rfl rfl (hS6) ?_
   refine gq 1 (some 43) (.slice (some ⟨b1,o1,none⟩) s.ps.length c1) rfl rfl (fun X hX=>Ad 52 isAgg52 rfl rfl (hX.hold 0 rfl) rfl) (hS6) ?_
   refine gp 2 (some 44) (.int .i64 (i:Nat)) rfl rfl (hS6) ?_
   refine gq 3 (some 45) (.pointer (some ⟨b1,o1+i * 20,none⟩)) rfl rfl (fun X hX=>Az 52 20 i Oz Pa rfl rfl rfl hlt) (hS6) ?_
   refine gp 4 (some 46) (.pointer (some ⟨b1,o1+i * 20,none⟩)) rfl rfl (hS6) ?_
   refine gq 5 (some 47) (.agg x.1.cs.toArray) rfl rfl (fun X hX=>By (vs:=x.1.cs) 48 2 rwK szK rfl rfl (Lw (HR1 _ hX)) rfl) (hS6) ?_
   refine gp 6 (some 48) (.pointer (some ⟨Bb,7,none⟩)) rfl rfl (hS6) ?_
   refine gq 7 (some 49) (.slice (some ⟨b2,o2,none⟩) s.ps.length c2) rfl rfl (fun X hX=>Ad 52 isAgg52 rfl rfl (hX.hold 1 rfl) rfl) (hS6) ?_
   refine gp 8 (some 50) (.int .i64 (i:Nat)) rfl rfl (hS6) ?_
   refine gq 9 (some 51) (.pointer (some ⟨b2,o2+i * 20,none⟩)) rfl rfl (fun X hX=>Az 52 20 i Oz Pa rfl rfl rfl hlt) (hS6) ?_
   refine gp 10 (some 52) (.pointer (some ⟨b2,o2+i * 20,none⟩)) rfl rfl (hS6) ?_
   refine gq 11 (some 53) (.agg x.1.cs.toArray) rfl rfl (fun X hX=>By (vs:=x.1.cs) 48 2 rwK szK rfl rfl (Lw (HR2 _ hX)) rfl) (hS6) ?_
   refine gq 12 (some 54) (.bool false) rfl rfl (fun X hX=>ex_kne rfl rfl rfl) (hS6) ?_
   refine gp 13 (some 55) (.bool false) rfl rfl (hS6) ?_
   refine gp 14 (some 56) (.pointer (some ⟨Ba,7,none⟩)) rfl rfl (hS6) ?_
   refine gq 15 (some 57) (.slice (some ⟨b1,o1,none⟩) s.ps.length c1) rfl rfl (fun X hX=>Ad 52 isAgg52 rfl rfl (hX.hold 0 rfl) rfl) (hS6) ?_
   refine gp 16 (some 58) (.int .i64 (i:Nat)) rfl rfl (hS6) ?_
   refine gq 17 (some 59) (.pointer (some ⟨b1,o1+i * 20,none⟩)) rfl rfl (fun X hX=>Az 52 20 i Oz Pa rfl rfl rfl hlt) (hS6) ?_
   refine gp 18 (some 60) (.pointer (some ⟨b1,o1+i * 20+2,none⟩)) rfl rfl (hS6) ?_
   refine gq 19 (some 61) (.agg x.2.cs.toArray) rfl rfl (fun X hX=>By (vs:=x.2.cs) 39 18 rwD szD rfl rfl (Mc (HR1 _ hX)) rfl) (hS6) ?_
   refine gp 20 (some 62) (.pointer (some ⟨Bb,7,none⟩)) rfl rfl (hS6) ?_
   refine gq 21 (some 63) (.slice (some ⟨b2,o2,none⟩) s.ps.length c2) rfl rfl (fun X hX=>Ad 52 isAgg52 rfl rfl (hX.hold 1 rfl) rfl) (hS6) ?_
   refine gp 22 (some 64) (.int .i64 (i:Nat)) rfl rfl (hS6) ?_
   refine gq 23 (some 65) (.pointer (some ⟨b2,o2+i * 20,none⟩)) rfl rfl (fun X hX=>Az 52 20 i Oz Pa rfl rfl rfl hlt) (hS6) ?_
   refine gp 24 (some 66) (.pointer (some ⟨b2,o2+i * 20+2,none⟩)) rfl rfl (hS6) ?_
   refine gq 25 (some 67) (.agg x.2.cs.toArray) rfl rfl (fun X hX=>By (vs:=x.2.cs) 39 18 rwD szD rfl rfl (Mc (HR2 _ hX)) rfl) (hS6) ?_
   refine gr (rs:= [26]) (gcB 26 (some 68) rfl rfl hS6 (eqc _) id ?_ gn)
   intro Y1 hq1
   refine gp 27 (some 69) (.bool false) rfl rfl (hq1) ?_
   refine gp 28 (some 70) (.bool false) rfl rfl (hq1) ?_
   refine wpAnyH_done (by kernel_rfl) ?_ _
   try simp only[nn]
   have SS:=Ab hq1
   go_wp2
   go_roundg (s.ps.length - (i+1))
   case measure=>omega
   case rel=>exact⟨i+1,by go_num,by omega,by omega,SS⟩
  ·obtain rfl:i=s.ps.length:=by omega
   go_wp2_with (first|go_skip|((with_reducible show wpList ..);first|(refine rd rfl (Ad 52 isAgg52 rfl rfl ((Aa SS).hold 0 rfl) rfl) ?_)|(refine rd rfl (Bi 52 69 underlying52 rfl rfl) ?_)))
   go_ret
   exact⟨rfl,(Aa SS).fr.below⟩
