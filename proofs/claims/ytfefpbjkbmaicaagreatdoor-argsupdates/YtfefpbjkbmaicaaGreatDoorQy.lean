import Derived.Test.YtfefpbjkbmaicaaGreatDoorQx
set_option linter.all false
namespace Go.Proofs.YtfefpbjkbmaicaaGreatDoor
set_option maxRecDepth 100000
set_option maxHeartbeats 0
section
open Go Go.Proofs Go.Maps Go.RowKit FM Tryz
theorem Lp (h:HP) (w:World) (H:h.Is w):Calls prog 54 #[.pointer (some ⟨h.b,0,none⟩)] w fun e w'=>e= .returned (.int .i64 (h.l.length:Nat))/\w'=w:=by
 obtain⟨A,c,hgv⟩:=H.form
 have HB:Hid (Holds w h.b [.slice A h.l.length c, .int .i64 h.cap, .int .i64 h.fuel, .int .i64 h.depth, .int .i64 h.ent]):=Ac (by have:=H.blk;unfold hcs at this;rw[hgv] at this;exact this)
 clear hgv H
 go_enter func54,ntmps54
 go_wp2_with (first|go_skip|((with_reducible show wpList ..);first|(refine rd rfl (Aj 59 isAgg59 rfl rfl (Aa HB) rfl) ?_)|(refine rd rfl (Dj 59 104 underlying59 rfl rfl) ?_)))
 go_ret
 exact⟨rfl,rfl⟩
def Qw (o:Int) (n:Nat):Bool:=decide (1<=o) && decide (o<=(n:Int))
theorem Zaj (h:HP) (o:Int) (w:World) (H:h.Is w):Calls prog 63 #[.pointer (some ⟨h.b,0,none⟩), .int .i64 o] w fun e w'=>e= .returned (.bool (Qw o h.l.length))/\w'=w:=by
 have HL:=Ac (Lp h w H)
 clear H
 unfold Qw
 by_cases h1:1<=o
 ·have e:(decide (1<=o) && decide (o<=(h.l.length:Int)))=decide (o<=(h.l.length:Int)):=by simp[h1]
  rw[e]
  clear e
  go_enter func63,ntmps63
  go_wp2_with fail
  refine(Aa HL).mono ?_
  rintro _ _ ⟨rfl,rfl⟩
  go_wp2
  go_ret
  exact⟨rfl,rfl⟩
 ·have e:(decide (1<=o) && decide (o<=(h.l.length:Int)))=false:=by simp[h1]
  rw[e]
  clear e
  go_enter func63,ntmps63
  go_wp2
  go_ret
  exact⟨rfl,rfl⟩
def thE (o:Int) (n:Nat):Int:=if Qw o n then 0 else 4
theorem Pa (h:HP) (o:Int) (w:World) (H:h.Is w):Calls prog 36 #[.pointer (some ⟨h.b,0,none⟩), .int .i64 o] w fun e w'=>e= .returned (.int .i64 (thE o h.l.length))/\w'=w:=by
 have HL:=Ac (Zaj h o w H)
 clear H
 unfold thE
 generalize Qw o h.l.length=z at *
 cases z
 ·go_enter func36,ntmps36
  go_wp2_with fail
  refine(Aa HL).mono ?_
  rintro _ _ ⟨rfl,rfl⟩
  go_wp2
  go_ret
  exact⟨rfl,rfl⟩
 ·go_enter func36,ntmps36
  go_wp2_with fail
  refine(Aa HL).mono ?_
  rintro _ _ ⟨rfl,rfl⟩
  go_wp2
  go_ret
  exact⟨rfl,rfl⟩
theorem Zai {h:HP} {o:Int} (ho:Qw o h.l.length=true): ∃(j:Nat) (q:OB),o=(j:Int)+1/\h.l[j]? =some q:=by
 unfold Qw at ho
 simp at ho
 refine⟨(o - 1).toNat,h.l[(o - 1).toNat]'(by omega),by omega,List.getElem?_eq_getElem _⟩
theorem Yu {h:HP} {j:Nat} {q:OB} (hj:h.l[j]? =some q):Qw ((j:Int)+1) h.l.length=true:=by
 have:=(List.getElem?_eq_some_iff.1 hj).1
 unfold Qw
 simp
 omega
theorem Zck {o:Oper} {a:Act} {w:World} {x ix:Operand} {g n cap:Nat} (t:TypeId) (j:Nat) (hk:prog.underlying t=some (.slice (prog.elem t))) (he: ∀w,(sizeOf (prog.elem t)).run prog w= .ok 1 w) (ho:o.op= .indexAddr t x ix) (hx:a.eval x= .slice (some ⟨g,0,none⟩) n cap) (hix:a.eval ix= .int .i64 (j:Nat)) (hj:j<n):(execOp a.eval o).run prog w= .ok (.value (.pointer (some ⟨g,j,none⟩))) w:=by
 have h1:(Instr.indexAt t (.slice (some ⟨g,0,none⟩) n cap) (.int .i64 (j:Nat))).run prog w= .ok (.pointer (some ⟨g,j,none⟩)) w:=by
  rw[run_indexAt_slice (h:=hk),if_pos ⟨by omega,by omega⟩,he]
  have e2:(Addr.add ⟨g,0,none⟩ ((j:Int).toNat * 1))=⟨g,j,none⟩:=by
   rw[Addr.add_mid]
   simp
  show Result.ok (Value.pointer (some (Addr.add ⟨g,0,none⟩ ((j:Int).toNat * 1)))) w=_
  rw[e2]
 unfold execOp
 simp only[ho,hx,hix]
 simp[h1]
theorem Ka {o:Oper} {a:Act} {w:World} {x:Operand} {b p:Nat} {v:Value} (t:TypeId) (ht: ∀w,(isAgg t).run prog w= .ok false w) (ho:o.op= .load t x) (hx:a.eval x= .pointer (some ⟨b,p,none⟩)) (hv:w.cell? ⟨b,p,none⟩=some v):(execOp a.eval o).run prog w= .ok (.value v) w:=by
 unfold execOp
 simp only[ho,hx]
 simp[go_sem,ht,hv]
theorem Qn (h:HP) (j:Nat) (q:OB) (w:World) (H:h.Is w) (hj:h.l[j]? =some q) (hn:h.l.length<=65536):Calls prog 77 #[.pointer (some ⟨h.b,0,none⟩), .int .i64 ((j:Int)+1)] w fun e w'=>e= .returned (.pointer (some ⟨q.b,0,none⟩))/\w'=w:=by
 obtain⟨g,c,hgv,hcell⟩:=H.ptr hj
 have hlt:=(List.getElem?_eq_some_iff.1 hj).1
 have HB:Hid (Holds w h.b [.slice (some ⟨g,0,none⟩) h.l.length c, .int .i64 h.cap, .int .i64 h.fuel, .int .i64 h.depth, .int .i64 h.ent]):=Ac (by have:=H.blk;unfold hcs at this;rw[hgv] at this;exact this)
 have HC:Hid (w.cell? ⟨g,j,none⟩=some (.pointer (some ⟨q.b,0,none⟩))):=Ac hcell
 have z1:IntKind.i64.wrap ((j:Int)+1 - 1)=(j:Int):=by rw[IntKind.wrap_i64];omega
 clear hgv H hcell hj
 go_enter func77,ntmps77
 go_wp2_with (first|go_skip|((with_reducible show wpList ..);first|(refine rd rfl (Aj 59 isAgg59 rfl rfl (Aa HB) rfl) ?_)|(refine rd rfl (Zck 59 j unOs idOs rfl rfl rfl hlt) ?_)|(refine rd rfl (Ka 104 isAgg104 rfl rfl (Aa HC)) ?_)))
 go_ret
 exact⟨rfl,rfl⟩
structure HP.Ok (h:HP):Prop where
 len:h.l.length<=65536
 f0:0<=h.fuel
 f1:h.fuel<=9223372036854775807
 e0:0<=h.ent
 e1:h.ent<=h.depth
 d1:h.depth<=100000000
def HP.less (h:HP):HP:={h with fuel:=h.fuel - 1}
def HP.inn (h:HP):HP:={h with fuel:=h.fuel - 1,ent:=h.ent+1}
def HP.out (h:HP):HP:={h with ent:=h.ent - 1}
theorem ex_subF {o:Oper} {a:Act} {w:World} {x y:Operand} (h:HP) (ho:o.op= .binOp .sub 3 x y 3) (hx:a.eval x= .int .i64 h.fuel) (hc:a.eval y= .int .i64 1) (hF:0<=h.fuel/\h.fuel<=9223372036854775807):(execOp a.eval o).run prog w= .ok (.value (.int .i64 (h.fuel - 1))) w:=by
 have z:IntKind.i64.wrap (h.fuel - 1)=h.fuel - 1:=by rw[IntKind.wrap_i64];omega
 unfold execOp
 simp only[ho,hx,hc]
 simp[go_sem,z]
theorem ex_addE {o:Oper} {a:Act} {w:World} {x y:Operand} (h:HP) (ho:o.op= .binOp .add 3 x y 3) (hx:a.eval x= .int .i64 h.ent) (hc:a.eval y= .int .i64 1) (hF:0<=h.ent/\h.ent<=100000000):(execOp a.eval o).run prog w= .ok (.value (.int .i64 (h.ent+1))) w:=by
 have z:IntKind.i64.wrap (h.ent+1)=h.ent+1:=by rw[IntKind.wrap_i64];omega
 unfold execOp
 simp only[ho,hx,hc]
 simp[go_sem,z]
theorem ex_subE {o:Oper} {a:Act} {w:World} {x y:Operand} (h:HP) (ho:o.op= .binOp .sub 3 x y 3) (hx:a.eval x= .int .i64 h.ent) (hc:a.eval y= .int .i64 1) (hF:0<=h.ent/\h.ent<=100000001):(execOp a.eval o).run prog w= .ok (.value (.int .i64 (h.ent - 1))) w:=by
 have z:IntKind.i64.wrap (h.ent - 1)=h.ent - 1:=by rw[IntKind.wrap_i64];omega
 unfold execOp
 simp only[ho,hx,hc]
 simp[go_sem,z]
theorem Nw (h:HP) (j:Nat) (q:OB) (m:Nat) (hm:mt q.m=m) (w:World) (H:h.Is w) (K:h.Ok) (hj:h.l[j]? =some q) (hf:h.fuel≠0) (hd:h.ent≠h.depth):Calls prog 67 #[.pointer (some ⟨h.b,0,none⟩), .int .i64 ((j:Int)+1)] w fun e w'=>e= .returned (.tuple #[.iface m (.agg #[]), .int .i64 0])/\h.To h.inn w w':=by
 subst hm
 have hF:0<=h.fuel/\h.fuel<=9223372036854775807:=⟨K.f0,K.f1⟩
 have hE:0<=h.ent/\h.ent<=100000000:=⟨K.e0,by have:=K.e1;have:=K.d1;omega⟩
 have hl:=K.len
 have SS:=Ac H.start
 go_enter func67,ntmps67
 go_wp2_with (first|go_skip|((with_reducible show wpList ..);first|(refine rd rfl (Aj 3 isAgg3 rfl rfl (((Aa SS).hp 0 rfl).blk) rfl) ?_)|(refine rd rfl (Pw rfl rfl rfl hf) ?_)|(refine rd rfl (ex_subF h rfl rfl rfl hF) ?_)|((refine stH (vs:= [.int .i64 (h.fuel - 1)]) (h.less) 0 3 (by rfl) rfl rfl rfl rfl (by simp[Value.oneCell']) sz_i (Aa SS) rfl (by simp) rfl rfl rfl (by simp[Dq,hcs,HP.less,HP.inn,HP.out]) ?_);intro X1 S1;replace SS:=Ac S1;clear S1;simp only[nn])))
 have hS:Sy w _ h.blocks [hpO h.less]:=(Aa SS).drew
 refine wp_region_held_drew (P:=prog) (S:=fun X=>Sy w X h.blocks [hpO h.less]) (by kernel_rfl) hS (fun hS0=> ?_)
 refine y0 0 (some 18) (.pointer (some ⟨h.b,0,none⟩)) rfl hS ?_
 refine y0 1 (some 19) (.pointer (some ⟨h.b,0,none⟩)) rfl hS ?_
 refine y0 2 (some 20) (.pointer (some ⟨h.b,4,none⟩)) rfl hS ?_
 refine y1 3 (some 21) (.int .i64 h.ent) rfl (fun X hX=>Aj 3 isAgg3 rfl rfl ((Sy.hp hX 0 rfl).blk) rfl) hS ?_
 refine y0 4 (some 22) (.pointer (some ⟨h.b,0,none⟩)) rfl hS ?_
 refine y0 5 (some 23) (.pointer (some ⟨h.b,0,none⟩)) rfl hS ?_
 refine y0 6 (some 24) (.pointer (some ⟨h.b,3,none⟩)) rfl hS ?_
 refine y1 7 (some 25) (.int .i64 h.depth) rfl (fun X hX=>Aj 3 isAgg3 rfl rfl ((Sy.hp hX 0 rfl).blk) rfl) hS ?_
 refine y1 8 (some 26) (.bool false) rfl (fun X hX=>Pw rfl rfl rfl hd) hS ?_
 refine wpAnyH_done (by kernel_rfl) ?_ _
 try simp only[nn]
 replace SS:=Ac hS
 go_wp2_with (first|go_skip|((with_reducible show wpList ..);first|(refine rd rfl (Aj 3 isAgg3 rfl rfl (((Aa SS).hp 0 rfl).blk) rfl) ?_)|(refine rd rfl (ex_addE h rfl rfl rfl hE) ?_)|((refine stH (h:=h.less) (vs:= [.int .i64 (h.ent+1)]) (h.inn) 0 3 (by rfl) rfl rfl rfl rfl (by simp[Value.oneCell']) sz_i (Aa SS) rfl (by simp) rfl rfl rfl (by simp[Dq,hcs,HP.less,HP.inn,HP.out]) ?_);intro X2 S2;replace SS:=Ac S2;clear S2;simp only[nn])))
 have HI:=(Aa SS).hp 0 rfl
 refine(Qn h.inn j q _ HI hj hl).mono ?_
 rintro _ _ ⟨rfl,rfl⟩
 have HO:=Ac (HI.ob (j:=j) (o:=q) hj).1
 go_wp2_with (first|go_skip|((with_reducible show wpList ..);first|(refine rd rfl (Aj 102 isAgg102 rfl rfl (Aa HO) rfl) ?_)))
 go_ret2
 exact⟨rfl,HP.To.end H (Aa SS) rfl⟩
theorem Nt (h:HP) (u:FrameMode) (w:World) (H:h.Is w) (hF:0<=h.ent/\h.ent<=100000001):CallsD prog 68 #[.pointer (some ⟨h.b,0,none⟩)] u w fun e u' w'=>u'=u/\(e= .returned (.tuple #[])/\h.To h.out w w'):=by
 have SS:=Ac H.start
 go_enter_d func68,ntmps68
 go_wp2_with (first|go_skip|((with_reducible show wpList ..);first|(refine rd rfl (Aj 3 isAgg3 rfl rfl (((Aa SS).hp 0 rfl).blk) rfl) ?_)|(refine rd rfl (ex_subE h rfl rfl rfl hF) ?_)|((refine stH (vs:= [.int .i64 (h.ent - 1)]) (h.out) 0 3 (by rfl) rfl rfl rfl rfl (by simp[Value.oneCell']) sz_i (Aa SS) rfl (by simp) rfl rfl rfl (by simp[Dq,hcs,HP.less,HP.inn,HP.out]) ?_);intro X1 S1;replace SS:=Ac S1;clear S1;simp only[nn])))
 go_end0
 exact⟨rfl,HP.To.end H (Aa SS) rfl⟩
