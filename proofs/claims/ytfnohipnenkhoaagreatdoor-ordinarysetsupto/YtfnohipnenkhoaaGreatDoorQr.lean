import Derived.Test.YtfnohipnenkhoaaGreatDoorQq
set_option linter.all false
namespace Go.Proofs.YtfnohipnenkhoaaGreatDoor
set_option maxRecDepth 100000
set_option maxHeartbeats 0
section
open Go Go.Proofs Go.Maps Go.RowKit FM Tryz
theorem Ng (h:HP) (w:World) (H:h.Is w):Calls prog 21 #[.pointer (some ⟨h.b,0,none⟩)] w fun e w'=>e= .returned (.int .i64 (h.l.length:Nat))/\w'=w:=by
 obtain⟨A,c,hgv⟩:=H.form
 have HB:Hid (Holds w h.b [.slice A h.l.length c, .int .i64 h.cap, .int .i64 h.fuel, .int .i64 h.depth, .int .i64 h.ent]):=Ab (by have:=H.blk;unfold hcs at this;rw[hgv] at this;exact this)
 clear hgv H
 go_enter func21,ntmps21
 go_wp2_with (first|go_skip|((with_reducible show wpList ..);first|(refine rd rfl (Ad 80 isAgg80 rfl rfl (Aa HB) rfl) ?_)|(refine rd rfl (Bi 80 83 underlying80 rfl rfl) ?_)))
 go_ret
 exact⟨rfl,rfl⟩
theorem fuel_h (h:HP) (w:World) (H:h.Is w):Calls prog 8 #[.pointer (some ⟨h.b,0,none⟩)] w fun e w'=>e= .returned (.int .i64 h.fuel)/\w'=w:=by
 have HB:=Ab H.blk
 clear H
 go_enter func8,ntmps8
 go_wp2_with (first|go_skip|((with_reducible show wpList ..);(refine rd rfl (Ad 3 isAgg3 rfl rfl (Aa HB) rfl) ?_)))
 go_ret
 exact⟨rfl,rfl⟩
def Rm (o:Int) (n:Nat):Bool:=decide (1<=o) && decide (o<=(n:Int))
theorem Zef (h:HP) (o:Int) (w:World) (H:h.Is w):Calls prog 51 #[.pointer (some ⟨h.b,0,none⟩), .int .i64 o] w fun e w'=>e= .returned (.bool (Rm o h.l.length))/\w'=w:=by
 have HL:=Ab (Ng h w H)
 clear H
 unfold Rm
 by_cases h1:1<=o
 ·have e:(decide (1<=o) && decide (o<=(h.l.length:Int)))=decide (o<=(h.l.length:Int)):=by simp[h1]
  rw[e]
  clear e
  go_enter func51,ntmps51
  go_wp2_with fail
  refine(Aa HL).mono ?_
  rintro _ _ ⟨rfl,rfl⟩
  go_wp2
  go_ret
  exact⟨rfl,rfl⟩
 ·have e:(decide (1<=o) && decide (o<=(h.l.length:Int)))=false:=by simp[h1]
  rw[e]
  clear e
  go_enter func51,ntmps51
  go_wp2
  go_ret
  exact⟨rfl,rfl⟩
def thE (o:Int) (n:Nat):Int:=if Rm o n then 0 else 4
theorem Kn (h:HP) (o:Int) (w:World) (H:h.Is w):Calls prog 29 #[.pointer (some ⟨h.b,0,none⟩), .int .i64 o] w fun e w'=>e= .returned (.int .i64 (thE o h.l.length))/\w'=w:=by
 have HL:=Ab (Zef h o w H)
 clear H
 unfold thE
 generalize Rm o h.l.length=z at *
 cases z
 ·go_enter func29,ntmps29
  go_wp2_with fail
  refine(Aa HL).mono ?_
  rintro _ _ ⟨rfl,rfl⟩
  go_wp2
  go_ret
  exact⟨rfl,rfl⟩
 ·go_enter func29,ntmps29
  go_wp2_with fail
  refine(Aa HL).mono ?_
  rintro _ _ ⟨rfl,rfl⟩
  go_wp2
  go_ret
  exact⟨rfl,rfl⟩
theorem Oc {h:HP} {o:Int} (ho:Rm o h.l.length=true): ∃(j:Nat) (q:OB),o=(j:Int)+1/\h.l[j]? =some q:=by
 unfold Rm at ho
 simp at ho
 refine⟨(o - 1).toNat,h.l[(o - 1).toNat]'(by omega),by omega,List.getElem?_eq_getElem _⟩
theorem Za3 {o:Oper} {a:Act} {w:World} {x ix:Operand} {g n cap:Nat} (t:TypeId) (j:Nat) (hk:prog.underlying t=some (.slice (prog.elem t))) (he: ∀w,(sizeOf (prog.elem t)).run prog w= .ok 1 w) (ho:o.op= .indexAddr t x ix) (hx:a.eval x= .slice (some ⟨g,0,none⟩) n cap) (hix:a.eval ix= .int .i64 (j:Nat)) (hj:j<n):(execOp a.eval o).run prog w= .ok (.value (.pointer (some ⟨g,j,none⟩))) w:=by
 have h1:(Instr.indexAt t (.slice (some ⟨g,0,none⟩) n cap) (.int .i64 (j:Nat))).run prog w= .ok (.pointer (some ⟨g,j,none⟩)) w:=by
  rw[run_indexAt_slice (h:=hk),if_pos ⟨by omega,by omega⟩,he]
  have e2:(Addr.add ⟨g,0,none⟩ ((j:Int).toNat * 1))=⟨g,j,none⟩:=by
   rw[Addr.add_mid]
   simp
  show Result.ok (Value.pointer (some (Addr.add ⟨g,0,none⟩ ((j:Int).toNat * 1)))) w=_
  rw[e2]
 unfold execOp
 simp only[ho,hx,hix]
 simp[h1]
theorem Uz {o:Oper} {a:Act} {w:World} {x:Operand} {b p:Nat} {v:Value} (t:TypeId) (ht: ∀w,(isAgg t).run prog w= .ok false w) (ho:o.op= .load t x) (hx:a.eval x= .pointer (some ⟨b,p,none⟩)) (hv:w.cell? ⟨b,p,none⟩=some v):(execOp a.eval o).run prog w= .ok (.value v) w:=by
 unfold execOp
 simp only[ho,hx]
 simp[go_sem,ht,hv]
theorem Kg (h:HP) (j:Nat) (q:OB) (w:World) (H:h.Is w) (hj:h.l[j]? =some q) (hn:h.l.length<=65536):Calls prog 72 #[.pointer (some ⟨h.b,0,none⟩), .int .i64 ((j:Int)+1)] w fun e w'=>e= .returned (.pointer (some ⟨q.b,0,none⟩))/\w'=w:=by
 obtain⟨g,c,hgv,hcell⟩:=H.ptr hj
 have hlt:=(List.getElem?_eq_some_iff.1 hj).1
 have HB:Hid (Holds w h.b [.slice (some ⟨g,0,none⟩) h.l.length c, .int .i64 h.cap, .int .i64 h.fuel, .int .i64 h.depth, .int .i64 h.ent]):=Ab (by have:=H.blk;unfold hcs at this;rw[hgv] at this;exact this)
 have HC:Hid (w.cell? ⟨g,j,none⟩=some (.pointer (some ⟨q.b,0,none⟩))):=Ab hcell
 have z1:IntKind.i64.wrap ((j:Int)+1 - 1)=(j:Int):=by rw[IntKind.wrap_i64];omega
 clear hgv H hcell hj
 go_enter func72,ntmps72
 go_wp2_with (first|go_skip|((with_reducible show wpList ..);first|(refine rd rfl (Ad 80 isAgg80 rfl rfl (Aa HB) rfl) ?_)|(refine rd rfl (Za3 80 j unOs idOs rfl rfl rfl hlt) ?_)|(refine rd rfl (Uz 83 isAgg83 rfl rfl (Aa HC)) ?_)))
 go_ret
 exact⟨rfl,rfl⟩
structure HP.Ok (h:HP):Prop where
 len:h.l.length<=65536
 f0:0<=h.fuel
 f1:h.fuel<=9223372036854775807
 e0:0<=h.ent
 e1:h.ent<=h.depth
 d1:h.depth<=100000000
def HP.less (h:HP):HP:={h with fuel:=h.fuel - 1}
def HP.inn (h:HP):HP:={h with fuel:=h.fuel - 1,ent:=h.ent+1}
def HP.out (h:HP):HP:={h with ent:=h.ent - 1}
def Yn:Value:= .iface 91 (.agg #[])
theorem Ll (h:HP) (o:Int) (w:World) (H:h.Is w) (hf:h.fuel=0):Calls prog 56 #[.pointer (some ⟨h.b,0,none⟩), .int .i64 o] w fun e w'=>e= .returned (.tuple #[.nilIface, .int .i64 1])/\w'=w:=by
 have HB:Hid (Holds w h.b [h.gv, .int .i64 h.cap, .int .i64 0, .int .i64 h.depth, .int .i64 h.ent]):=Ab (by have:=H.blk;unfold hcs at this;rw[hf] at this;exact this)
 clear H
 go_enter func56,ntmps56
 go_wp2_with (first|go_skip|((with_reducible show wpList ..);(refine rd rfl (Ad 3 isAgg3 rfl rfl (Aa HB) rfl) ?_)))
 go_ret2
 exact⟨rfl,rfl⟩
theorem Zek {o:Oper} {a:Act} {w:World} {x y:Operand} (h:HP) (ho:o.op= .binOp .sub 3 x y 3) (hx:a.eval x= .int .i64 h.fuel) (hc:a.eval y= .int .i64 1) (hF:0<=h.fuel/\h.fuel<=9223372036854775807):(execOp a.eval o).run prog w= .ok (.value (.int .i64 (h.fuel - 1))) w:=by
 have z:IntKind.i64.wrap (h.fuel - 1)=h.fuel - 1:=by rw[IntKind.wrap_i64];omega
 unfold execOp
 simp only[ho,hx,hc]
 simp[go_sem,z]
theorem ex_addE {o:Oper} {a:Act} {w:World} {x y:Operand} (h:HP) (ho:o.op= .binOp .add 3 x y 3) (hx:a.eval x= .int .i64 h.ent) (hc:a.eval y= .int .i64 1) (hF:0<=h.ent/\h.ent<=100000000):(execOp a.eval o).run prog w= .ok (.value (.int .i64 (h.ent+1))) w:=by
 have z:IntKind.i64.wrap (h.ent+1)=h.ent+1:=by rw[IntKind.wrap_i64];omega
 unfold execOp
 simp only[ho,hx,hc]
 simp[go_sem,z]
theorem ex_subE {o:Oper} {a:Act} {w:World} {x y:Operand} (h:HP) (ho:o.op= .binOp .sub 3 x y 3) (hx:a.eval x= .int .i64 h.ent) (hc:a.eval y= .int .i64 1) (hF:0<=h.ent/\h.ent<=100000001):(execOp a.eval o).run prog w= .ok (.value (.int .i64 (h.ent - 1))) w:=by
 have z:IntKind.i64.wrap (h.ent - 1)=h.ent - 1:=by rw[IntKind.wrap_i64];omega
 unfold execOp
 simp only[ho,hx,hc]
 simp[go_sem,z]
theorem Lk (h:HP) (o:Int) (w:World) (H:h.Is w) (K:h.Ok) (hf:h.fuel≠0) (hd:h.ent=h.depth):Calls prog 56 #[.pointer (some ⟨h.b,0,none⟩), .int .i64 o] w fun e w'=>e= .returned (.tuple #[.nilIface, .int .i64 2])/\h.To h.less w w':=by
 have hF:0<=h.fuel/\h.fuel<=9223372036854775807:=⟨K.f0,K.f1⟩
 have SS:=Ab H.start
 go_enter func56,ntmps56
 go_wp2_with (first|go_skip|((with_reducible show wpList ..);first|(refine rd rfl (Ad 3 isAgg3 rfl rfl (((Aa SS).hp 0 rfl).blk) rfl) ?_)|(refine rd rfl (Kk rfl rfl rfl hf) ?_)|(refine rd rfl (Zek h rfl rfl rfl hF) ?_)|((refine stH (vs:= [.int .i64 (h.fuel - 1)]) (h.less) 0 3 (by rfl) rfl rfl rfl rfl (by simp[Value.oneCell']) sz_i (Aa SS) rfl (by simp) rfl rfl rfl (by simp[Bw,hcs,HP.less,HP.inn,HP.out]) ?_);intro X1 S1;replace SS:=Ab S1;clear S1;simp only[nn])))
 have hS:Sy w _ h.blocks [hpO h.less]:=(Aa SS).drew
 refine wp_region_held_drew (P:=prog) (S:=fun X=>Sy w X h.blocks [hpO h.less]) (by kernel_rfl) hS (fun hS0=> ?_)
 refine y0 0 (some 18) (.pointer (some ⟨h.b,0,none⟩)) rfl hS ?_
 refine y0 1 (some 19) (.pointer (some ⟨h.b,0,none⟩)) rfl hS ?_
 refine y0 2 (some 20) (.pointer (some ⟨h.b,4,none⟩)) rfl hS ?_
 refine y1 3 (some 21) (.int .i64 h.ent) rfl (fun X hX=>Ad 3 isAgg3 rfl rfl ((Sy.hp hX 0 rfl).blk) rfl) hS ?_
 refine y0 4 (some 22) (.pointer (some ⟨h.b,0,none⟩)) rfl hS ?_
 refine y0 5 (some 23) (.pointer (some ⟨h.b,0,none⟩)) rfl hS ?_
 refine y0 6 (some 24) (.pointer (some ⟨h.b,3,none⟩)) rfl hS ?_
 refine y1 7 (some 25) (.int .i64 h.depth) rfl (fun X hX=>Ad 3 isAgg3 rfl rfl ((Sy.hp hX 0 rfl).blk) rfl) hS ?_
 refine y1 8 (some 26) (.bool true) rfl (fun X hX=>Jb rfl rfl rfl hd) hS ?_
 refine wpAnyH_done (by kernel_rfl) ?_ _
 try simp only[nn]
 have SE:=Ab hS
 go_wp2
 go_ret2
 exact⟨rfl,HP.To.end H (Aa SE) rfl⟩
theorem Lc (h:HP) (j:Nat) (q:OB) (w:World) (H:h.Is w) (K:h.Ok) (hj:h.l[j]? =some q) (hf:h.fuel≠0) (hd:h.ent≠h.depth):Calls prog 56 #[.pointer (some ⟨h.b,0,none⟩), .int .i64 ((j:Int)+1)] w fun e w'=>e= .returned (.tuple #[Yn, .int .i64 0])/\h.To h.inn w w':=by
 have hF:0<=h.fuel/\h.fuel<=9223372036854775807:=⟨K.f0,K.f1⟩
 have hE:0<=h.ent/\h.ent<=100000000:=⟨K.e0,by have:=K.e1;have:=K.d1;omega⟩
 have hl:=K.len
 have SS:=Ab H.start
 go_enter func56,ntmps56
 go_wp2_with (first|go_skip|((with_reducible show wpList ..);first|(refine rd rfl (Ad 3 isAgg3 rfl rfl (((Aa SS).hp 0 rfl).blk) rfl) ?_)|(refine rd rfl (Kk rfl rfl rfl hf) ?_)|(refine rd rfl (Zek h rfl rfl rfl hF) ?_)|((refine stH (vs:= [.int .i64 (h.fuel - 1)]) (h.less) 0 3 (by rfl) rfl rfl rfl rfl (by simp[Value.oneCell']) sz_i (Aa SS) rfl (by simp) rfl rfl rfl (by simp[Bw,hcs,HP.less,HP.inn,HP.out]) ?_);intro X1 S1;replace SS:=Ab S1;clear S1;simp only[nn])))
 have hS:Sy w _ h.blocks [hpO h.less]:=(Aa SS).drew
 refine wp_region_held_drew (P:=prog) (S:=fun X=>Sy w X h.blocks [hpO h.less]) (by kernel_rfl) hS (fun hS0=> ?_)
 refine y0 0 (some 18) (.pointer (some ⟨h.b,0,none⟩)) rfl hS ?_
 refine y0 1 (some 19) (.pointer (some ⟨h.b,0,none⟩)) rfl hS ?_
 refine y0 2 (some 20) (.pointer (some ⟨h.b,4,none⟩)) rfl hS ?_
 refine y1 3 (some 21) (.int .i64 h.ent) rfl (fun X hX=>Ad 3 isAgg3 rfl rfl ((Sy.hp hX 0 rfl).blk) rfl) hS ?_
 refine y0 4 (some 22) (.pointer (some ⟨h.b,0,none⟩)) rfl hS ?_
 refine y0 5 (some 23) (.pointer (some ⟨h.b,0,none⟩)) rfl hS ?_
 refine y0 6 (some 24) (.pointer (some ⟨h.b,3,none⟩)) rfl hS ?_
 refine y1 7 (some 25) (.int .i64 h.depth) rfl (fun X hX=>Ad 3 isAgg3 rfl rfl ((Sy.hp hX 0 rfl).blk) rfl) hS ?_
 refine y1 8 (some 26) (.bool false) rfl (fun X hX=>Kk rfl rfl rfl hd) hS ?_
 refine wpAnyH_done (by kernel_rfl) ?_ _
 try simp only[nn]
 replace SS:=Ab hS
 go_wp2_with (first|go_skip|((with_reducible show wpList ..);first|(refine rd rfl (Ad 3 isAgg3 rfl rfl (((Aa SS).hp 0 rfl).blk) rfl) ?_)|(refine rd rfl (ex_addE h rfl rfl rfl hE) ?_)|((refine stH (h:=h.less) (vs:= [.int .i64 (h.ent+1)]) (h.inn) 0 3 (by rfl) rfl rfl rfl rfl (by simp[Value.oneCell']) sz_i (Aa SS) rfl (by simp) rfl rfl rfl (by simp[Bw,hcs,HP.less,HP.inn,HP.out]) ?_);intro X2 S2;replace SS:=Ab S2;clear S2;simp only[nn])))
 have HI:=(Aa SS).hp 0 rfl
 refine(Kg h.inn j q _ HI hj hl).mono ?_
 rintro _ _ ⟨rfl,rfl⟩
 have HO:=Ab (HI.ob (j:=j) (o:=q) hj).1
 go_wp2_with (first|go_skip|((with_reducible show wpList ..);(refine rd rfl (Ad 99 isAgg99 rfl rfl (Aa HO) rfl) ?_)))
 go_ret2
 exact⟨rfl,HP.To.end H (Aa SS) rfl⟩
theorem Kw (h:HP) (u:FrameMode) (w:World) (H:h.Is w) (hF:0<=h.ent/\h.ent<=100000001):CallsD prog 57 #[.pointer (some ⟨h.b,0,none⟩)] u w fun e u' w'=>u'=u/\(e= .returned (.tuple #[])/\h.To h.out w w'):=by
 have SS:=Ab H.start
 go_enter_d func57,ntmps57
 go_wp2_with (first|go_skip|((with_reducible show wpList ..);first|(refine rd rfl (Ad 3 isAgg3 rfl rfl (((Aa SS).hp 0 rfl).blk) rfl) ?_)|(refine rd rfl (ex_subE h rfl rfl rfl hF) ?_)|((refine stH (vs:= [.int .i64 (h.ent - 1)]) (h.out) 0 3 (by rfl) rfl rfl rfl rfl (by simp[Value.oneCell']) sz_i (Aa SS) rfl (by simp) rfl rfl rfl (by simp[Bw,hcs,HP.less,HP.inn,HP.out]) ?_);intro X1 S1;replace SS:=Ab S1;clear S1;simp only[nn])))
 go_end0
 exact⟨rfl,HP.To.end H (Aa SS) rfl⟩
