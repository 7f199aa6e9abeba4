import Derived.Test.YtfefpbjkbmaicaaGreatDoorRo
set_option linter.all false
namespace Go.Proofs.YtfefpbjkbmaicaaGreatDoor
set_option maxRecDepth 100000
set_option maxHeartbeats 0
section
open Go Go.Proofs Go.Maps Go.RowKit FM Tryz
attribute [local go_sem] Av Ap Dv Du De Au Ao Az Dd Gu Gt
theorem class_h (h:HP) (j:Nat) (q:OB) (w:World) (H:h.Is w) (hl:h.l.length<=65536) (hj:h.l[j]? =some q):Calls prog 59 #[.pointer (some ⟨h.b,0,none⟩), .int .i64 ((j:Int)+1)] w fun e w'=>e= .returned (.tuple #[.int .i64 q.c, .int .i64 0])/\w'=w:=by
 have HA:=Pa h ((j:Int)+1) w H
 rw[show thE ((j:Int)+1) h.l.length=0 by unfold thE;rw[Yu hj];rfl] at HA
 have HB:=Qn h j q w H hj hl
 have HO:=Ac (H.ob hj).1
 clear H
 go_enter func59,ntmps59
 go_wp2_with fail
 refine HA.mono ?_
 rintro _ _ ⟨rfl,rfl⟩
 go_wp2_with fail
 refine HB.mono ?_
 rintro _ _ ⟨rfl,rfl⟩
 go_wp2_with (first|go_skip|((with_reducible show wpList ..);first|(refine rd rfl (Aj 3 isAgg3 rfl rfl (Aa HO) rfl) ?_)))
 go_ret2
 exact⟨rfl,rfl⟩
theorem own88 (h:HP) (j:Nat) (q:OB) (w:World) (H:h.Is w) (hl:h.l.length<=65536) (hj:h.l[j]? =some q):Calls prog 60 #[.pointer (some ⟨h.b,0,none⟩), .int .i64 ((j:Int)+1)] w fun e w'=>e= .returned (ow1 q.ow)/\w'=w:=by
 have HA:=Zaj h ((j:Int)+1) w H
 rw[Yu hj] at HA
 have HB:=Qn h j q w H hj hl
 have HO:=Ac (H.ob hj).1
 clear H
 go_enter func60,ntmps60
 go_wp2_with fail
 refine HA.mono ?_
 rintro _ _ ⟨rfl,rfl⟩
 go_wp2_with fail
 refine HB.mono ?_
 rintro _ _ ⟨rfl,rfl⟩
 go_wp2_with (first|go_skip|((with_reducible show wpList ..);first|(refine rd rfl (Aj 20 isAgg20 rfl rfl (Aa HO) rfl) ?_)))
 go_ret
 exact⟨rfl,rfl⟩
theorem ta_par (v:Value) (w:World):(Instr.typeAssert (.iface 75 v) 20 75 true).run prog w= .ok (.tuple #[v, .bool true]) w:=by kernel_rfl
theorem ex_ta {o:Oper} {a:Act} {w:World} {x:Operand} {v:Value} (ho:o.op= .typeAssert x 20 75 true) (hx:a.eval x= .iface 75 v):(execOp a.eval o).run prog w= .ok (.value (.tuple #[v, .bool true])) w:=by
 unfold execOp
 simp only[ho,hx]
 simp[ta_par]
theorem Pj (h:HP) (j:Nat) (q:OB) (p:PM) (w:World) (H:h.Is w) (hl:h.l.length<=65536) (hj:h.l[j]? =some q) (ho:q.ow=some (75, .pointer (some ⟨p.b,0,none⟩))):Calls prog 32 #[.pointer (some ⟨h.b,0,none⟩), .int .i64 ((j:Int)+1)] w fun e w'=>e= .returned (.tuple #[.pointer (some ⟨p.b,0,none⟩), .int .i64 0])/\w'=w:=by
 have HA:=class_h h j q w H hl hj
 have HB:=own88 h j q w H hl hj
 rw[ho,show ow1 (some (75, .pointer (some ⟨p.b,0,none⟩)))= .iface 75 (.pointer (some ⟨p.b,0,none⟩)) from rfl] at HB
 generalize q.c=c at *
 clear H hj ho
 go_enter func32,ntmps32
 go_wp2_with fail
 refine HA.mono ?_
 rintro _ _ ⟨rfl,rfl⟩
 go_wp2_with fail
 refine HB.mono ?_
 rintro _ _ ⟨rfl,rfl⟩
 go_wp2_with (first|go_skip|((with_reducible show wpList ..);first|(refine rd rfl (ex_ta rfl rfl) ?_)))
 go_ret2
 exact⟨rfl,rfl⟩
theorem PM.Is.on {p:PM} {X Y:World} (H:p.Is X) (k:Below X.heap.size X Y):p.Is Y:=(PM.To.refl H k).is
theorem PM.Is.blk {p:PM} {X:World} (H:p.Is X):Holds X p.b (pcs p):=(H.ho _ (List.mem_cons_self ..)).1
theorem PM.Is.ro {p:PM} {X:World} (H:p.Is X):X.ownsRow 0 89 7 p.lv p.l.length (p.l.flatMap PA.cs):=H.ho _ (List.mem_cons_of_mem _ (List.mem_cons_self ..))
theorem PM.Is.pl {p:PM} {X:World} (H:p.Is X):MapK KS X p.pb p.pn p.pF:=H.ho _ (List.mem_cons_of_mem _ (List.mem_cons_of_mem _ (List.mem_cons_self ..)))
theorem PM.Is.ti {p:PM} {X:World} (H:p.Is X):MapK KI X p.tb p.tn p.tF:=H.ho _ (List.mem_cons_of_mem _ (List.mem_cons_of_mem _ (List.mem_cons_of_mem _ (List.mem_cons_self ..))))
theorem PM.To.trans {p p' p2:PM} {w w' w2:World} (A:p.To p' w w') (B:p'.To p2 w' w2):p.To p2 w w2:=
 ⟨B.is,A.fr.trans B.fr (fun b hb=>A.sub b hb),fun b hb=>(B.sub b hb).elim (A.sub b) (fun h1=> .inr (Nat.le_trans A.fr.size h1))⟩
theorem ex_cu {o:Oper} {a:Act} {w:World} {x:Operand} {n:Nat} (ho:o.op= .convert 44 3 x) (hx:a.eval x= .int .u32 (n:Nat)) (hn:n<=1000000):(execOp a.eval o).run prog w= .ok (.value (.int .i64 (n:Nat))) w:=by
 have e:IntKind.i64.wrap (n:Int)=(n:Int):=by rw[IntKind.wrap_i64];omega
 unfold execOp
 simp only[ho,hx]
 simp[go_sem,convert,e]
theorem tied_y (p:PM) (k:KK) (i:Nat) (m:Nat) (w:World) (H:p.Is w) (hsz:k.s.size<4611686018427387904) (hix:Nz (Dg k.s)=some i) (hi:i<=1000000) (hF:p.tF (i:Int)=some m):Calls prog 179 #[.pointer (some ⟨p.b,0,none⟩),k.agg] w fun e w'=>e= .returned (.tuple #[.int .i64 (m:Nat), .bool true])/\Below w.heap.size w w':=by
 have HP_:=Ac H
 clear H
 have SS:=Ac (Sy.nil w [])
 have HI:=Zbv k.s hsz
 rw[hix] at HI
 simp only[Option.getD_some,Option.isSome_some] at HI
 have hwf:(Lit.int .i64 (i:Int)).wf=true:=Rk hi
 have hw1:IntKind.i64.wrap (i:Int)=(i:Int):=by rw[IntKind.wrap_i64];omega
 have r2:=iY hF
 rw[Ec]
 go_enter func179,ntmps179
 go_wp2_with (first|go_skip|((with_reducible show wpList ..);first|(refine zB 42 (k.cs) (by rfl) rfl rfl rfl SS ?_;clear SS;intro Xa Ba SS;simp only[nn])|(refine rd rfl (Aj 9 isAgg9 rfl rfl ((Aa SS).hold 0 rfl) rfl) ?_)))
 refine(HI _).mono ?_
 rintro _ _ ⟨rfl,rfl⟩
 go_wp2_with (first|go_skip|((with_reducible show wpList ..);first|(refine rd rfl (Aj 84 isAgg84 rfl rfl (((Aa HP_).on (Aa SS).fr.below).blk) rfl) ?_)|(refine rd rfl (ex_cu rfl rfl hi) ?_)|(refine rd rfl (Zx rfl rfl rfl ((Aa HP_).on (Aa SS).fr.below).ti hwf r2) ?_)))
 go_ret2
 exact⟨rfl,(Aa SS).fr.below⟩
theorem tied_n (p:PM) (k:KK) (i:Nat) (w:World) (H:p.Is w) (hsz:k.s.size<4611686018427387904) (hix:Nz (Dg k.s)=some i) (hi:i<=1000000) (hF:p.tF (i:Int)=none):Calls prog 179 #[.pointer (some ⟨p.b,0,none⟩),k.agg] w fun e w'=>e= .returned (.tuple #[.int .i64 0, .bool false])/\Below w.heap.size w w':=by
 have HP_:=Ac H
 clear H
 have SS:=Ac (Sy.nil w [])
 have HI:=Zbv k.s hsz
 rw[hix] at HI
 simp only[Option.getD_some,Option.isSome_some] at HI
 have hwf:(Lit.int .i64 (i:Int)).wf=true:=Rk hi
 have hw1:IntKind.i64.wrap (i:Int)=(i:Int):=by rw[IntKind.wrap_i64];omega
 have r2:=iN hF
 rw[Ec]
 go_enter func179,ntmps179
 go_wp2_with (first|go_skip|((with_reducible show wpList ..);first|(refine zB 42 (k.cs) (by rfl) rfl rfl rfl SS ?_;clear SS;intro Xa Ba SS;simp only[nn])|(refine rd rfl (Aj 9 isAgg9 rfl rfl ((Aa SS).hold 0 rfl) rfl) ?_)))
 refine(HI _).mono ?_
 rintro _ _ ⟨rfl,rfl⟩
 go_wp2_with (first|go_skip|((with_reducible show wpList ..);first|(refine rd rfl (Aj 84 isAgg84 rfl rfl (((Aa HP_).on (Aa SS).fr.below).blk) rfl) ?_)|(refine rd rfl (ex_cu rfl rfl hi) ?_)|(refine rd rfl (Zx rfl rfl rfl ((Aa HP_).on (Aa SS).fr.below).ti hwf r2) ?_)))
 go_ret2
 exact⟨rfl,(Aa SS).fr.below⟩
theorem Yr (h:HP) (j:Nat) (q:OB) (p:PM) (k:KK) (i:Nat) (m:Nat) (w:World) (H:h.Is w) (hl:h.l.length<=65536) (hj:h.l[j]? =some q) (ho:q.ow=some (75, .pointer (some ⟨p.b,0,none⟩))) (he:h.e=pmO p) (hsz:k.s.size<4611686018427387904) (hix:Nz (Dg k.s)=some i) (hi:i<=1000000) (hF:p.tF (i:Int)=some m):Calls prog 175 #[.agg #[], .pointer (some ⟨h.b,0,none⟩), .int .i64 ((j:Int)+1),k.agg] w fun e w'=>e= .returned (.tuple #[.pointer (some ⟨p.b,0,none⟩), .int .i64 (m:Nat), .bool true])/\Below w.heap.size w w':=by
 have HP_:=Ac (H.pms he)
 have HPA:=Pj h j q p
 have H_:=Ac H
 have SS:=Ac (Sy.nil w [])
 rw[Ec]
 go_enter func175,ntmps175
 go_wp2_with (first|go_skip|((with_reducible show wpList ..);first|((refine bx0 74 (by rfl) rfl rfl (Aa SS) ?_);intro X0 B0 S0;replace SS:=Ac S0;clear S0;simp only[nn])|(refine zB 42 (k.cs) (by rfl) rfl rfl rfl SS ?_;clear SS;intro Xa Ba SS;simp only[nn])))
 refine(HPA _ (H.on (Aa SS).fr.below) hl hj ho).mono ?_
 rintro _ _ ⟨rfl,rfl⟩
 go_wp2_with (first|go_skip|((with_reducible show wpList ..);first|(refine zL (k.cs) 42 2 0 rwK szK (by rfl) rfl rfl SS rfl rfl rfl ?_;simp only[nn])))
 have HC:=tied_y p k i m _ ((Aa HP_).on (Aa SS).fr.below) hsz hix hi hF
 rw[Ec] at HC
 refine HC.mono ?_
 clear HC
 rintro _ Y2 ⟨rfl,hb2⟩
 replace SS:=Ac ((Aa SS).on hb2)
 clear hb2
 go_wp2
 go_ret3
 exact⟨rfl,(Aa SS).fr.below⟩
theorem tie_n (h:HP) (j:Nat) (q:OB) (p:PM) (k:KK) (i:Nat) (w:World) (H:h.Is w) (hl:h.l.length<=65536) (hj:h.l[j]? =some q) (ho:q.ow=some (75, .pointer (some ⟨p.b,0,none⟩))) (he:h.e=pmO p) (hsz:k.s.size<4611686018427387904) (hix:Nz (Dg k.s)=some i) (hi:i<=1000000) (hF:p.tF (i:Int)=none):Calls prog 175 #[.agg #[], .pointer (some ⟨h.b,0,none⟩), .int .i64 ((j:Int)+1),k.agg] w fun e w'=>e= .returned (.tuple #[.pointer (some ⟨p.b,0,none⟩), .int .i64 0, .bool false])/\Below w.heap.size w w':=by
 have HP_:=Ac (H.pms he)
 have HPA:=Pj h j q p
 have H_:=Ac H
 have SS:=Ac (Sy.nil w [])
 rw[Ec]
 go_enter func175,ntmps175
 go_wp2_with (first|go_skip|((with_reducible show wpList ..);first|((refine bx0 74 (by rfl) rfl rfl (Aa SS) ?_);intro X0 B0 S0;replace SS:=Ac S0;clear S0;simp only[nn])|(refine zB 42 (k.cs) (by rfl) rfl rfl rfl SS ?_;clear SS;intro Xa Ba SS;simp only[nn])))
 refine(HPA _ (H.on (Aa SS).fr.below) hl hj ho).mono ?_
 rintro _ _ ⟨rfl,rfl⟩
 go_wp2_with (first|go_skip|((with_reducible show wpList ..);first|(refine zL (k.cs) 42 2 0 rwK szK (by rfl) rfl rfl SS rfl rfl rfl ?_;simp only[nn])))
 have HC:=tied_n p k i _ ((Aa HP_).on (Aa SS).fr.below) hsz hix hi hF
 rw[Ec] at HC
 refine HC.mono ?_
 clear HC
 rintro _ Y2 ⟨rfl,hb2⟩
 replace SS:=Ac ((Aa SS).on hb2)
 clear hb2
 go_wp2
 go_ret3
 exact⟨rfl,(Aa SS).fr.below⟩
noncomputable def PM.loose (p:PM) (i:Nat):PM:={p with tF:=putK p.tF (i:Int) none}
theorem Mx (p:PM) (n:Nat) (a:PA) (w:World) (H:p.Is w) (hj:p.l[n]? =some a) (ht:a.t<=1000000):Calls prog 177 #[.pointer (some ⟨p.b,0,none⟩), .int .i64 (n:Nat)] w fun e w'=>e= .returned (.tuple #[])/\p.To (p.loose a.t) w w':=by
 obtain⟨g,c0,hlv⟩:=H.at hj
 have hjl:=(List.getElem?_eq_some_iff.1 hj).1
 have HLV:=Ac hlv
 clear hlv
 obtain⟨q,hq⟩: ∃q,q=0+n * 7:=⟨_,rfl⟩
 have HQ:=Ac hq
 clear hq
 have SS:Hid (Sy w w p.blocks [Al p.b (pcs p),Ew 0 89 7 p.lv p.l.length (p.l.flatMap PA.cs),Gd KS p.pb p.pn p.pF,Gd KI p.tb p.tn p.tF]):=Ac H.sy
 clear H
 have hwf:(Lit.int .i64 (a.t:Int)).wf=true:=Rk ht
 go_enter func177,ntmps177
 go_wp2_with fail
 have hS:Sy w _ p.blocks [Al p.b (pcs p),Ew 0 89 7 p.lv p.l.length (p.l.flatMap PA.cs),Gd KS p.pb p.pn p.pF,Gd KI p.tb p.tn p.tF]:=(Aa SS).drew
 clear SS
 refine wp_region_held_drew (P:=prog) (S:=fun X=>Holds X p.b (pcs p)/\X.rangeAt g q a.cs) (by kernel_rfl) (⟨hS.hold 0 rfl,Dy (Aa HQ) (Dp (hS.get 1 rfl) (Aa HLV) rfl hj)⟩) (fun hS0=> ?_)
 refine gp 0 (some 4) (.pointer (some ⟨p.b,0,none⟩)) rfl rfl (⟨hS.hold 0 rfl,Dy (Aa HQ) (Dp (hS.get 1 rfl) (Aa HLV) rfl hj)⟩) ?_
 refine gp 1 (some 5) (.pointer (some ⟨p.b,0,none⟩)) rfl rfl (⟨hS.hold 0 rfl,Dy (Aa HQ) (Dp (hS.get 1 rfl) (Aa HLV) rfl hj)⟩) ?_
 refine gp 2 (some 6) (.pointer (some ⟨p.b,2,none⟩)) rfl rfl (⟨hS.hold 0 rfl,Dy (Aa HQ) (Dp (hS.get 1 rfl) (Aa HLV) rfl hj)⟩) ?_
 refine gq 3 (some 7) (.map (some p.tb)) rfl rfl (fun X hX=>Aj 84 isAgg84 rfl rfl hX.1 rfl) (⟨hS.hold 0 rfl,Dy (Aa HQ) (Dp (hS.get 1 rfl) (Aa HLV) rfl hj)⟩) ?_
 refine gp 4 (some 8) (.pointer (some ⟨p.b,0,none⟩)) rfl rfl (⟨hS.hold 0 rfl,Dy (Aa HQ) (Dp (hS.get 1 rfl) (Aa HLV) rfl hj)⟩) ?_
 refine gp 5 (some 9) (.pointer (some ⟨p.b,0,none⟩)) rfl rfl (⟨hS.hold 0 rfl,Dy (Aa HQ) (Dp (hS.get 1 rfl) (Aa HLV) rfl hj)⟩) ?_
 refine gp 6 (some 10) (.pointer (some ⟨p.b,0,none⟩)) rfl rfl (⟨hS.hold 0 rfl,Dy (Aa HQ) (Dp (hS.get 1 rfl) (Aa HLV) rfl hj)⟩) ?_
 refine gq 7 (some 11) (p.lv) rfl rfl (fun X hX=>Aj 82 isAgg82 rfl rfl hX.1 rfl) (⟨hS.hold 0 rfl,Dy (Aa HQ) (Dp (hS.get 1 rfl) (Aa HLV) rfl hj)⟩) ?_
 refine gp 8 (some 12) (.int .i64 (n:Nat)) rfl rfl (⟨hS.hold 0 rfl,Dy (Aa HQ) (Dp (hS.get 1 rfl) (Aa HLV) rfl hj)⟩) ?_
 refine gq 9 (some 13) (.pointer (some ⟨g,q,none⟩)) rfl rfl (fun X hX=>Km q n rfl rfl (Aa HLV) rfl hjl (Aa HQ)) (⟨hS.hold 0 rfl,Dy (Aa HQ) (Dp (hS.get 1 rfl) (Aa HLV) rfl hj)⟩) ?_
 refine gp 10 (some 14) (.pointer (some ⟨g,q+6,none⟩)) rfl rfl (⟨hS.hold 0 rfl,Dy (Aa HQ) (Dp (hS.get 1 rfl) (Aa HLV) rfl hj)⟩) ?_
 refine gq 11 (some 15) (.int .i64 (a.t:Nat)) rfl rfl (fun X hX=>Qj (p:=a) rfl rfl hX.2) (⟨hS.hold 0 rfl,Dy (Aa HQ) (Dp (hS.get 1 rfl) (Aa HLV) rfl hj)⟩) ?_
 obtain⟨X8,hrun8,hM8,ht8⟩:=MapK.drop KI_ok (show MapK KI _ p.tb p.tn p.tF from hS.get 3 rfl) (s:=(a.t:Int)) hwf _
 have hq9:=hS.set 3 rfl (Ns KI _ _ _) hM8 (Qa ht8) (fun b hb=> .inl hb)
 refine gr (rs:= [12]) (gv 12 none rfl rfl (ex_dlI rfl rfl rfl hrun8) ⟨hq9.hold 0 rfl,Dy (Aa HQ) (Dp (hq9.get 1 rfl) (Aa HLV) rfl hj)⟩ ?_ gn)
 simp only[nn]
 refine wpAnyH_done (by kernel_rfl) ?_ _
 try simp only[nn]
 have SS:=Ac hq9
 clear hq9 hM8 ht8 hrun8
 go_wp2
 refine bodyPost_end (results_none rfl _ _ _) rfl ?_
 exact⟨rfl,PM.To.end (M:= []) (Aa SS) (by simp[PM.things,pcs,PM.loose])⟩
def Qo (d:DD):Bool:= !(decide (d.g.k=0))|| !(decide (d.s.k=0))
theorem Jt (d:DD) (w:World):Calls prog 180 #[d.agg] w fun e w'=>e= .returned (.bool (Qo d))/\Below w.heap.size w w':=by
 unfold Qo
 by_cases h1:d.g.k=0
 ·by_cases h2:d.s.k=0
  ·rw[decide_eq_true h1,decide_eq_true h2]
   have SS:=Ac (Sy.nil w [])
   rw[Em]
   go_enter func180,ntmps180
   go_wp2_with (first|go_skip|((with_reducible show wpList ..);first|(refine zB 29 (d.cs) (by rfl) rfl rfl rfl SS ?_;clear SS;intro Xa Ba SS;simp only[nn])|(refine rd rfl (Aj 3 isAgg3 rfl rfl ((Aa SS).hold 0 rfl) rfl) ?_)|(refine rd rfl (Ex rfl rfl rfl h1) ?_)|(refine rd rfl (Ex rfl rfl rfl h2) ?_)))
   go_ret
   exact⟨rfl,(Aa SS).fr.below⟩
  ·rw[decide_eq_true h1,decide_eq_false h2]
   have SS:=Ac (Sy.nil w [])
   rw[Em]
   go_enter func180,ntmps180
   go_wp2_with (first|go_skip|((with_reducible show wpList ..);first|(refine zB 29 (d.cs) (by rfl) rfl rfl rfl SS ?_;clear SS;intro Xa Ba SS;simp only[nn])|(refine rd rfl (Aj 3 isAgg3 rfl rfl ((Aa SS).hold 0 rfl) rfl) ?_)|(refine rd rfl (Ex rfl rfl rfl h1) ?_)|(refine rd rfl (Jb rfl rfl rfl h2) ?_)))
   go_ret
   exact⟨rfl,(Aa SS).fr.below⟩
 ·rw[decide_eq_false h1]
  rw[show (!false|| !(decide (d.s.k=0)))=true from rfl]
  have SS:=Ac (Sy.nil w [])
  rw[Em]
  go_enter func180,ntmps180
  go_wp2_with (first|go_skip|((with_reducible show wpList ..);first|(refine zB 29 (d.cs) (by rfl) rfl rfl rfl SS ?_;clear SS;intro Xa Ba SS;simp only[nn])|(refine rd rfl (Aj 3 isAgg3 rfl rfl ((Aa SS).hold 0 rfl) rfl) ?_)|(refine rd rfl (Jb rfl rfl rfl h1) ?_)))
  go_ret
  exact⟨rfl,(Aa SS).fr.below⟩
