import Derived.Test.YthcmamjpfigdfaaGreatDoorRe
import Derived.Test.YthcmamjpfigdfaaGreatDoorRd
set_option linter.all false
namespace Go.Proofs.YthcmamjpfigdfaaGreatDoor
set_option maxRecDepth 100000
set_option maxHeartbeats 0
section
open Go Go.Proofs Go.Maps Go.RowKit FM Tryz
theorem Zdl (h:HP) (w:World) (H:h.Is w):Calls prog 22 #[.pointer (some ⟨h.b,0,none⟩)] w fun e w'=>e= .returned (.int .i64 (h.l.length:Nat))/\w'=w:=by
 obtain⟨A,c,hgv⟩:=H.form
 have HB:Hid (Holds w h.b [.slice A h.l.length c, .int .i64 h.cap, .int .i64 h.fuel, .int .i64 h.depth, .int .i64 h.ent]):=Ab (by have:=H.blk;unfold hcs at this;rw[hgv] at this;exact this)
 clear hgv H
 go_enter func22,ntmps22
 go_wp2_with (first|go_skip|((with_reducible show wpList ..);first|(refine rd rfl (Ad 92 isAgg92 rfl rfl (Aa HB) rfl) ?_)|(refine rd rfl (Bp 92 97 underlying92 rfl rfl) ?_)))
 go_ret
 exact⟨rfl,rfl⟩
def Ri (o:Int) (n:Nat):Bool:=decide (1<=o) && decide (o<=(n:Int))
theorem Zds (h:HP) (o:Int) (w:World) (H:h.Is w):Calls prog 89 #[.pointer (some ⟨h.b,0,none⟩), .int .i64 o] w fun e w'=>e= .returned (.bool (Ri o h.l.length))/\w'=w:=by
 have HL:=Ab (Zdl h w H)
 clear H
 unfold Ri
 by_cases h1:1<=o
 ·have e:(decide (1<=o) && decide (o<=(h.l.length:Int)))=decide (o<=(h.l.length:Int)):=by simp[h1]
  rw[e]
  clear e
  go_enter func89,ntmps89
  go_wp2_with fail
  refine(Aa HL).mono ?_
  rintro _ _ ⟨rfl,rfl⟩
  go_wp2
  go_ret
  exact⟨rfl,rfl⟩
 ·have e:(decide (1<=o) && decide (o<=(h.l.length:Int)))=false:=by simp[h1]
  rw[e]
  clear e
  go_enter func89,ntmps89
  go_wp2
  go_ret
  exact⟨rfl,rfl⟩
def thE (o:Int) (n:Nat):Int:=if Ri o n then 0 else 4
theorem Gw (h:HP) (o:Int) (w:World) (H:h.Is w):Calls prog 37 #[.pointer (some ⟨h.b,0,none⟩), .int .i64 o] w fun e w'=>e= .returned (.int .i64 (thE o h.l.length))/\w'=w:=by
 have HL:=Ab (Zds h o w H)
 clear H
 unfold thE
 generalize Ri o h.l.length=z at *
 cases z
 ·go_enter func37,ntmps37
  go_wp2_with fail
  refine(Aa HL).mono ?_
  rintro _ _ ⟨rfl,rfl⟩
  go_wp2
  go_ret
  exact⟨rfl,rfl⟩
 ·go_enter func37,ntmps37
  go_wp2_with fail
  refine(Aa HL).mono ?_
  rintro _ _ ⟨rfl,rfl⟩
  go_wp2
  go_ret
  exact⟨rfl,rfl⟩
theorem Mk {h:HP} {o:Int} (ho:Ri o h.l.length=true): ∃(j:Nat) (q:OB),o=(j:Int)+1/\h.l[j]? =some q:=by
 unfold Ri at ho
 simp at ho
 refine⟨(o - 1).toNat,h.l[(o - 1).toNat]'(by omega),by omega,List.getElem?_eq_getElem _⟩
theorem ZbJ {o:Oper} {a:Act} {w:World} {x ix:Operand} {g n cap:Nat} (t:TypeId) (j:Nat) (hk:prog.underlying t=some (.slice (prog.elem t))) (he: ∀w,(sizeOf (prog.elem t)).run prog w= .ok 1 w) (ho:o.op= .indexAddr t x ix) (hx:a.eval x= .slice (some ⟨g,0,none⟩) n cap) (hix:a.eval ix= .int .i64 (j:Nat)) (hj:j<n):(execOp a.eval o).run prog w= .ok (.value (.pointer (some ⟨g,j,none⟩))) w:=by
 have h1:(Instr.indexAt t (.slice (some ⟨g,0,none⟩) n cap) (.int .i64 (j:Nat))).run prog w= .ok (.pointer (some ⟨g,j,none⟩)) w:=by
  rw[run_indexAt_slice (h:=hk),if_pos ⟨by omega,by omega⟩,he]
  have e2:(Addr.add ⟨g,0,none⟩ ((j:Int).toNat * 1))=⟨g,j,none⟩:=by
   rw[Addr.add_mid]
   simp
  show Result.ok (Value.pointer (some (Addr.add ⟨g,0,none⟩ ((j:Int).toNat * 1)))) w=_
  rw[e2]
 unfold execOp
 simp only[ho,hx,hix]
 simp[h1]
theorem Vl {o:Oper} {a:Act} {w:World} {x:Operand} {b p:Nat} {v:Value} (t:TypeId) (ht: ∀w,(isAgg t).run prog w= .ok false w) (ho:o.op= .load t x) (hx:a.eval x= .pointer (some ⟨b,p,none⟩)) (hv:w.cell? ⟨b,p,none⟩=some v):(execOp a.eval o).run prog w= .ok (.value v) w:=by
 unfold execOp
 simp only[ho,hx]
 simp[go_sem,ht,hv]
theorem Kv (h:HP) (j:Nat) (q:OB) (w:World) (H:h.Is w) (hj:h.l[j]? =some q) (hn:h.l.length<=65536):Calls prog 105 #[.pointer (some ⟨h.b,0,none⟩), .int .i64 ((j:Int)+1)] w fun e w'=>e= .returned (.pointer (some ⟨q.b,0,none⟩))/\w'=w:=by
 obtain⟨g,c,hgv,hcell⟩:=H.ptr hj
 have hlt:=(List.getElem?_eq_some_iff.1 hj).1
 have HB:Hid (Holds w h.b [.slice (some ⟨g,0,none⟩) h.l.length c, .int .i64 h.cap, .int .i64 h.fuel, .int .i64 h.depth, .int .i64 h.ent]):=Ab (by have:=H.blk;unfold hcs at this;rw[hgv] at this;exact this)
 have HC:Hid (w.cell? ⟨g,j,none⟩=some (.pointer (some ⟨q.b,0,none⟩))):=Ab hcell
 have z1:IntKind.i64.wrap ((j:Int)+1 - 1)=(j:Int):=by rw[IntKind.wrap_i64];omega
 clear hgv H hcell hj
 go_enter func105,ntmps105
 go_wp2_with (first|go_skip|((with_reducible show wpList ..);first|(refine rd rfl (Ad 92 isAgg92 rfl rfl (Aa HB) rfl) ?_)|(refine rd rfl (ZbJ 92 j unOs idOs rfl rfl rfl hlt) ?_)|(refine rd rfl (Vl 97 isAgg97 rfl rfl (Aa HC)) ?_)))
 go_ret
 exact⟨rfl,rfl⟩
structure HP.Ok (h:HP):Prop where
 len:h.l.length<=65536
 f0:0<=h.fuel
 f1:h.fuel<=9223372036854775807
 e0:0<=h.ent
 e1:h.ent<=h.depth
 d1:h.depth<=100000000
def HP.less (h:HP):HP:={h with fuel:=h.fuel - 1}
def HP.inn (h:HP):HP:={h with fuel:=h.fuel - 1,ent:=h.ent+1}
def HP.out (h:HP):HP:={h with ent:=h.ent - 1}
def Yx:Value:= .iface 109 (.agg #[])
theorem Ks (h:HP) (o:Int) (w:World) (H:h.Is w) (hf:h.fuel=0):Calls prog 94 #[.pointer (some ⟨h.b,0,none⟩), .int .i64 o] w fun e w'=>e= .returned (.tuple #[.nilIface, .int .i64 1])/\w'=w:=by
 have HB:Hid (Holds w h.b [h.gv, .int .i64 h.cap, .int .i64 0, .int .i64 h.depth, .int .i64 h.ent]):=Ab (by have:=H.blk;unfold hcs at this;rw[hf] at this;exact this)
 clear H
 go_enter func94,ntmps94
 go_wp2_with (first|go_skip|((with_reducible show wpList ..);(refine rd rfl (Ad 3 isAgg3 rfl rfl (Aa HB) rfl) ?_)))
 go_ret2
 exact⟨rfl,rfl⟩
theorem Zfw {o:Oper} {a:Act} {w:World} {x y:Operand} (h:HP) (ho:o.op= .binOp .sub 3 x y 3) (hx:a.eval x= .int .i64 h.fuel) (hc:a.eval y= .int .i64 1) (hF:0<=h.fuel/\h.fuel<=9223372036854775807):(execOp a.eval o).run prog w= .ok (.value (.int .i64 (h.fuel - 1))) w:=by
 have z:IntKind.i64.wrap (h.fuel - 1)=h.fuel - 1:=by rw[IntKind.wrap_i64];omega
 unfold execOp
 simp only[ho,hx,hc]
 simp[go_sem,z]
theorem ex_addE {o:Oper} {a:Act} {w:World} {x y:Operand} (h:HP) (ho:o.op= .binOp .add 3 x y 3) (hx:a.eval x= .int .i64 h.ent) (hc:a.eval y= .int .i64 1) (hF:0<=h.ent/\h.ent<=100000000):(execOp a.eval o).run prog w= .ok (.value (.int .i64 (h.ent+1))) w:=by
 have z:IntKind.i64.wrap (h.ent+1)=h.ent+1:=by rw[IntKind.wrap_i64];omega
 unfold execOp
 simp only[ho,hx,hc]
 simp[go_sem,z]
theorem ex_subE {o:Oper} {a:Act} {w:World} {x y:Operand} (h:HP) (ho:o.op= .binOp .sub 3 x y 3) (hx:a.eval x= .int .i64 h.ent) (hc:a.eval y= .int .i64 1) (hF:0<=h.ent/\h.ent<=100000001):(execOp a.eval o).run prog w= .ok (.value (.int .i64 (h.ent - 1))) w:=by
 have z:IntKind.i64.wrap (h.ent - 1)=h.ent - 1:=by rw[IntKind.wrap_i64];omega
 unfold execOp
 simp only[ho,hx,hc]
 simp[go_sem,z]
theorem Ko (h:HP) (o:Int) (w:World) (H:h.Is w) (K:h.Ok) (hf:h.fuel≠0) (hd:h.ent=h.depth):Calls prog 94 #[.pointer (some ⟨h.b,0,none⟩), .int .i64 o] w fun e w'=>e= .returned (.tuple #[.nilIface, .int .i64 2])/\h.To h.less w w':=by
 have hF:0<=h.fuel/\h.fuel<=9223372036854775807:=⟨K.f0,K.f1⟩
 have SS:=Ab H.start
 go_enter func94,ntmps94
 go_wp2_with (first|go_skip|((with_reducible show wpList ..);first|(refine rd rfl (Ad 3 isAgg3 rfl rfl (((Aa SS).hp 0 rfl).blk) rfl) ?_)|(refine rd rfl (Ma rfl rfl rfl hf) ?_)|(refine rd rfl (Zfw h rfl rfl rfl hF) ?_)|((refine stH (vs:= [.int .i64 (h.fuel - 1)]) (h.less) 0 3 rfl rfl rfl rfl (by simp[Value.oneCell']) sz_i (Aa SS) rfl (by simp) rfl rfl rfl (by simp[Bt,hcs,HP.less,HP.inn,HP.out]) ?_);intro X1 S1;replace SS:=Ab S1;clear S1;simp only[nn])))
 have hS:Sy w _ h.blocks [hpO h.less]:=(Aa SS).drew
 refine wp_region_held_drew (P:=prog) (S:=fun X=>Sy w X h.blocks [hpO h.less]) (by kernel_rfl) hS (fun hS0=> ?_)
 refine y0 0 (some 18) (.pointer (some ⟨h.b,0,none⟩)) rfl hS ?_
 refine y0 1 (some 19) (.pointer (some ⟨h.b,0,none⟩)) rfl hS ?_
 refine y0 2 (some 20) (.pointer (some ⟨h.b,4,none⟩)) rfl hS ?_
 refine y1 3 (some 21) (.int .i64 h.ent) rfl (fun X hX=>Ad 3 isAgg3 rfl rfl ((Sy.hp hX 0 rfl).blk) rfl) hS ?_
 refine y0 4 (some 22) (.pointer (some ⟨h.b,0,none⟩)) rfl hS ?_
 refine y0 5 (some 23) (.pointer (some ⟨h.b,0,none⟩)) rfl hS ?_
 refine y0 6 (some 24) (.pointer (some ⟨h.b,3,none⟩)) rfl hS ?_
 refine y1 7 (some 25) (.int .i64 h.depth) rfl (fun X hX=>Ad 3 isAgg3 rfl rfl ((Sy.hp hX 0 rfl).blk) rfl) hS ?_
 refine y1 8 (some 26) (.bool true) rfl (fun X hX=>Mo rfl rfl rfl hd) hS ?_
 refine dn ?_
 try simp only[nn]
 have SE:=Ab hS
 go_wp2
 go_ret2
 exact⟨rfl,HP.To.end H (Aa SE) rfl⟩
theorem Kn (h:HP) (j:Nat) (q:OB) (w:World) (H:h.Is w) (K:h.Ok) (hj:h.l[j]? =some q) (hf:h.fuel≠0) (hd:h.ent≠h.depth):Calls prog 94 #[.pointer (some ⟨h.b,0,none⟩), .int .i64 ((j:Int)+1)] w fun e w'=>e= .returned (.tuple #[Yx, .int .i64 0])/\h.To h.inn w w':=by
 have hF:0<=h.fuel/\h.fuel<=9223372036854775807:=⟨K.f0,K.f1⟩
 have hE:0<=h.ent/\h.ent<=100000000:=⟨K.e0,by have:=K.e1;have:=K.d1;omega⟩
 have hl:=K.len
 have SS:=Ab H.start
 go_enter func94,ntmps94
 go_wp2_with (first|go_skip|((with_reducible show wpList ..);first|(refine rd rfl (Ad 3 isAgg3 rfl rfl (((Aa SS).hp 0 rfl).blk) rfl) ?_)|(refine rd rfl (Ma rfl rfl rfl hf) ?_)|(refine rd rfl (Zfw h rfl rfl rfl hF) ?_)|((refine stH (vs:= [.int .i64 (h.fuel - 1)]) (h.less) 0 3 rfl rfl rfl rfl (by simp[Value.oneCell']) sz_i (Aa SS) rfl (by simp) rfl rfl rfl (by simp[Bt,hcs,HP.less,HP.inn,HP.out]) ?_);intro X1 S1;replace SS:=Ab S1;clear S1;simp only[nn])))
 have hS:Sy w _ h.blocks [hpO h.less]:=(Aa SS).drew
 refine wp_region_held_drew (P:=prog) (S:=fun X=>Sy w X h.blocks [hpO h.less]) (by kernel_rfl) hS (fun hS0=> ?_)
 refine y0 0 (some 18) (.pointer (some ⟨h.b,0,none⟩)) rfl hS ?_
 refine y0 1 (some 19) (.pointer (some ⟨h.b,0,none⟩)) rfl hS ?_
 refine y0 2 (some 20) (.pointer (some ⟨h.b,4,none⟩)) rfl hS ?_
 refine y1 3 (some 21) (.int .i64 h.ent) rfl (fun X hX=>Ad 3 isAgg3 rfl rfl ((Sy.hp hX 0 rfl).blk) rfl) hS ?_
 refine y0 4 (some 22) (.pointer (some ⟨h.b,0,none⟩)) rfl hS ?_
 refine y0 5 (some 23) (.pointer (some ⟨h.b,0,none⟩)) rfl hS ?_
 refine y0 6 (some 24) (.pointer (some ⟨h.b,3,none⟩)) rfl hS ?_
 refine y1 7 (some 25) (.int .i64 h.depth) rfl (fun X hX=>Ad 3 isAgg3 rfl rfl ((Sy.hp hX 0 rfl).blk) rfl) hS ?_
 refine y1 8 (some 26) (.bool false) rfl (fun X hX=>Ma rfl rfl rfl hd) hS ?_
 refine dn ?_
 try simp only[nn]
 replace SS:=Ab hS
 go_wp2_with (first|go_skip|((with_reducible show wpList ..);first|(refine rd rfl (Ad 3 isAgg3 rfl rfl (((Aa SS).hp 0 rfl).blk) rfl) ?_)|(refine rd rfl (ex_addE h rfl rfl rfl hE) ?_)|((refine stH (h:=h.less) (vs:= [.int .i64 (h.ent+1)]) (h.inn) 0 3 rfl rfl rfl rfl (by simp[Value.oneCell']) sz_i (Aa SS) rfl (by simp) rfl rfl rfl (by simp[Bt,hcs,HP.less,HP.inn,HP.out]) ?_);intro X2 S2;replace SS:=Ab S2;clear S2;simp only[nn])))
 have HI:=(Aa SS).hp 0 rfl
 refine(Kv h.inn j q _ HI hj hl).mono ?_
 rintro _ _ ⟨rfl,rfl⟩
 have HO:=Ab (HI.ob (j:=j) (o:=q) hj).1
 go_wp2_with (first|go_skip|((with_reducible show wpList ..);(refine rd rfl (Ad 153 isAgg153 rfl rfl (Aa HO) rfl) ?_)))
 go_ret2
 exact⟨rfl,HP.To.end H (Aa SS) rfl⟩
theorem Kk (h:HP) (u:FrameMode) (w:World) (H:h.Is w) (hF:0<=h.ent/\h.ent<=100000001):CallsD prog 95 #[.pointer (some ⟨h.b,0,none⟩)] u w fun e u' w'=>u'=u/\(e= .returned (.tuple #[])/\h.To h.out w w'):=by
 have SS:=Ab H.start
 go_enter_d func95,ntmps95
 go_wp2_with (first|go_skip|((with_reducible show wpList ..);first|(refine rd rfl (Ad 3 isAgg3 rfl rfl (((Aa SS).hp 0 rfl).blk) rfl) ?_)|(refine rd rfl (ex_subE h rfl rfl rfl hF) ?_)|((refine stH (vs:= [.int .i64 (h.ent - 1)]) (h.out) 0 3 rfl rfl rfl rfl (by simp[Value.oneCell']) sz_i (Aa SS) rfl (by simp) rfl rfl rfl (by simp[Bt,hcs,HP.less,HP.inn,HP.out]) ?_);intro X1 S1;replace SS:=Ab S1;clear S1;simp only[nn])))
 go_end0
 exact⟨rfl,HP.To.end H (Aa SS) rfl⟩
theorem Al (w : World) : (method 429 109 (.agg #[]) "GetPrototypeOf").run prog w = .ok (203, .agg #[]) w := by kernel_rfl
theorem Ak (w : World) : (method 429 109 (.agg #[]) "SetPrototypeOf").run prog w = .ok (209, .agg #[]) w := by kernel_rfl
theorem Ar (w : World) : (method 429 109 (.agg #[]) "IsExtensible").run prog w = .ok (205, .agg #[]) w := by kernel_rfl
theorem Ah (w : World) : (method 429 109 (.agg #[]) "PreventExtensions").run prog w = .ok (207, .agg #[]) w := by kernel_rfl
theorem Am (w : World) : (method 429 109 (.agg #[]) "GetOwnProperty").run prog w = .ok (202, .agg #[]) w := by kernel_rfl
theorem Ai (w : World) : (method 429 109 (.agg #[]) "DefineOwnProperty").run prog w = .ok (60, .agg #[]) w := by kernel_rfl
theorem Au (w : World) : (method 429 109 (.agg #[]) "HasProperty").run prog w = .ok (204, .agg #[]) w := by kernel_rfl
theorem Dd (w : World) : (method 429 109 (.agg #[]) "Get").run prog w = .ok (201, .agg #[]) w := by kernel_rfl
theorem Db (w : World) : (method 429 109 (.agg #[]) "Set").run prog w = .ok (208, .agg #[]) w := by kernel_rfl
theorem Bi (w : World) : (method 429 109 (.agg #[]) "Delete").run prog w = .ok (200, .agg #[]) w := by kernel_rfl
theorem Aj (w : World) : (method 429 109 (.agg #[]) "OwnPropertyKeys").run prog w = .ok (206, .agg #[]) w := by kernel_rfl
theorem Bh (w:World):(Instr.typeAssert (.iface 109 (.agg #[])) 153 199 true).run prog w= .ok (.tuple #[.nilIface, .bool false]) w:=run_typeAssert_lacksB underlying199 (by kernel_rfl) (by kernel_rfl) _ _ _
theorem Ez (d:DD): ∀u∈d.cs,u.oneCell'=true:=by simp[DD.cs,VV.cs,Value.oneCell']
theorem Gh (d:VV): ∀u∈d.cs,u.oneCell'=true:=by simp[VV.cs,Value.oneCell']
section
variable {ops:Array Oper} {rest:List Oper} {Q:Exit->Act->World->Prop} {w w0:World} {a:Act} {o:Oper} {E:List Nat} {L:List Ob}
theorem bx0 {x:Operand} (ty:TypeId)  (ho:o.op= .box ty x) (hx:a.eval x= .agg #[]) (hL:Sy w0 w E L)
  (h: ∀X B,Sy w0 X E L->wpList prog ops Q rest (a.put o.dst (.pointer (some ⟨B,0,none⟩))) X) (hw:Region.wanted o (yielded ops a.tmps)=true:=by rfl):wpList prog ops Q (o::rest) a w:=by
 refine BigFrame.wpList_want hw fun K hK=> ?_
 have hP:=hK _ _ (h _ w.heap.size (hL.on ((Below.refl _ _).alloc (Nat.le_refl _) (Obj.cells #[] ty))))
 have e2:(Instr.box ty (.agg #[])).run prog w= .ok (.pointer (some ⟨w.heap.size,0,none⟩)) (w.alloc (Obj.cells #[] ty)):=rfl
 unfold Oper.wp execOp
 simp only[ho,hx]
 simp[e2]
 exact hP
end
section
variable {md:Region.Mode} {ops:Array Oper} {Q:Exit->Act->World->Prop} {S:World->Prop} {w w0:World} {fuel:Nat} {listed:Array Bool} {a:Act} {o:Oper} {E:List Nat} {L:List Ob}
theorem Zcw (i:Nat) (dst:Option Tmp) (ty:TypeId) (cs:List Value) {v:Value} {rs:List Nat} (hi:ops[i]? =some o) (hd:o.dst=dst)  (ho:o.op= .alloc ty) (hz: ∀w,(zeroValue ty).run prog w= .ok v w) (hv:v.cells.toList=cs)  (hL:Sy w0 w E L)
  (hS: ∀X,Sy w0 X E (L++ [Av w.heap.size cs])->S X) (h: ∀X B,B=w.heap.size->Sy w0 X E (L++ [Av B cs])->wpAnyH prog md ops Q S fuel (listed.setIfInBounds i true) (a.put dst (.pointer (some ⟨B,0,none⟩))) X) (hs:AllReadyH prog md ops Q S fuel listed a w rs) (hw:Region.wanted o (yielded ops a.tmps)=true:=by kernel_rfl) (hc:0<cs.length:=by exact Nat.succ_pos _):AllReadyH prog md ops Q S fuel listed a w (i::rs):=by
 have e:v.cells=cs.toArray:=by rw[←hv]
 have he:(execOp a.eval o).run prog w= .ok (.value (.pointer (some ⟨w.heap.size,0,none⟩))) (w.alloc (Obj.cells cs.toArray ty)):=by
  unfold execOp
  simp only[ho]
  simp[go_sem,hz]
  show w.alloc (Obj.cells v.cells ty)=_
  rw[e]
 have hb:=hL.box cs ty hc
 exact Qb i dst hi hd hw he (hS _ hb) (h _ _ rfl hb) hs
theorem gbxS (i:Nat) (dst:Option Tmp) (ty:TypeId) (cs:List Value) {v:Value} {x:Operand} {rs:List Nat} (hi:ops[i]? =some o) (hd:o.dst=dst) (hw:Region.wanted o (yielded ops a.tmps)=true) (ho:o.op= .box ty x) (hx:a.eval x=v) (hv:v.cells.toList=cs) (hc:0<cs.length) (hL:Sy w0 w E L)
  (hS: ∀X,Sy w0 X E (L++ [Av w.heap.size cs])->S X) (h: ∀X B,B=w.heap.size->Sy w0 X E (L++ [Av B cs])->wpAnyH prog md ops Q S fuel (listed.setIfInBounds i true) (a.put dst (.pointer (some ⟨B,0,none⟩))) X) (hs:AllReadyH prog md ops Q S fuel listed a w rs):AllReadyH prog md ops Q S fuel listed a w (i::rs):=by
 have e:v.cells=cs.toArray:=by rw[←hv]
 have e2:(Instr.box ty v).run prog w= .ok (.pointer (some ⟨w.heap.size,0,none⟩)) (w.alloc (Obj.cells cs.toArray ty)):=by rw[←e];rfl
 have he:(execOp a.eval o).run prog w= .ok (.value (.pointer (some ⟨w.heap.size,0,none⟩))) (w.alloc (Obj.cells cs.toArray ty)):=by
  unfold execOp
  simp only[ho,hx]
  simp[e2]
 have hb:=hL.box cs ty hc
 exact Qb i dst hi hd hw he (hS _ hb) (h _ _ rfl hb) hs
theorem Xt {b p:Nat} {cs vs new:List Value} {v:Value} {x y:Operand} {rs:List Nat} (i k:Nat) (ty:TypeId) (hi:ops[i]? =some o) (hd:o.dst=none)  (ho:o.op= .store ty x y) (hx:a.eval x= .pointer (some ⟨b,p,none⟩)) (hy:a.eval y=v)
  (hv:v.cells.toList=vs) (h1: ∀u∈vs,u.oneCell'=true) (hsz:(prog.info? ty).map (·.size)=some vs.length) (hL:Sy w0 w E L) (hg:L[k]? =some (Av b cs)) (hp:p+vs.length<=cs.length) (hn:Bt cs p vs=new)
  (hS: ∀X,Sy w0 X E (L.set k (Av b new))->S X) (h: ∀X,Sy w0 X E (L.set k (Av b new))->wpAnyH prog md ops Q S fuel (listed.setIfInBounds i true) (a.put none undef) X) (hs:AllReadyH prog md ops Q S fuel listed a w rs) (hw:Region.wanted o (yielded ops a.tmps)=true:=by kernel_rfl):AllReadyH prog md ops Q S fuel listed a w (i::rs):=by
 have hq:=hL.put k hg p vs hp
 rw[hn] at hq
 have he:(execOp a.eval o).run prog w= .ok .skip (w.setCells b p vs):=by
  unfold execOp
  simp only[ho,hx,hy,Instr.storeAt,Instr.sureAddr,Sem.run_bind,Sem.run_pure,Result.andThen_ok,Dw w b p ty v vs hv ((hL.hold k hg).there p vs.length hp) hsz h1]
 exact Zbk i none hi hd hw he (hS _ hq) (h _ hq) hs
end
end
section
open Go Go.Proofs Go.Maps Go.RowKit FM Tryz
attribute [local go_sem] Al Ak Ar Ah Am Ai Au Dd Db Bi Aj Bh
theorem Lw {fn:Func} {tmps:Array Value} {w:World} {b r T n t t2:Nat} {cs:List Value} {v v2:Value} (hT: ∃d,prog.underlying T=some d/\d.isRow=true) (hn:(prog.info? T).map (·.size)=some n) (hr:fn.results= #[.cell r T, .tmp t, .tmp t2])
  (hx:tmps.getD r undef= .pointer (some ⟨b,0,none⟩)) (hv:tmps.getD t undef=v) (hv2:tmps.getD t2 undef=v2) (hc:Holds w b cs) (hcs:cs.length=n):(results fn tmps).run prog w= .ok (.tuple #[.agg cs.toArray,v,v2]) w:=by
 obtain⟨d,hu,hd⟩:=hT
 have h0:=hc.mid 0 n
 rw[List.drop_zero,List.take_of_length_le (by omega)] at h0
 have hl:=run_loadVar_mid (P:=prog) w b 0 T _ d h0 hu hd (by rw[hn,hcs])
 simp only[Array.getD_eq_getD_getElem?] at hx hv hv2
 unfold results
 simp[hr,hx,hl,asAddr,hv,hv2]
 try rfl
theorem Gx {fn:Func} {tmps:Array Value} {w:World} {b r T n t:Nat} {cs:List Value} {v:Value} (hT: ∃d,prog.underlying T=some d/\d.isRow=true) (hn:(prog.info? T).map (·.size)=some n) (hr:fn.results= #[.cell r T, .tmp t])
  (hx:tmps.getD r undef= .pointer (some ⟨b,0,none⟩)) (hv:tmps.getD t undef=v) (hc:Holds w b cs) (hcs:cs.length=n):(results fn tmps).run prog w= .ok (.tuple #[.agg cs.toArray,v]) w:=by
 obtain⟨d,hu,hd⟩:=hT
 have h0:=hc.mid 0 n
 rw[List.drop_zero,List.take_of_length_le (by omega)] at h0
 have hl:=run_loadVar_mid (P:=prog) w b 0 T _ d h0 hu hd (by rw[hn,hcs])
 simp only[Array.getD_eq_getD_getElem?] at hx hv
 unfold results
 simp[hr,hx,hl,asAddr,hv]
 try rfl
theorem Qj (d:DD):d.agg= .agg d.cs.toArray:=rfl
theorem Du (d:KK):d.agg= .agg d.cs.toArray:=rfl
theorem Dg (d:VV):d.agg= .agg d.cs.toArray:=rfl
theorem Ze9 (h:HP) (j:Nat) (q:OB) (k:KK) (w:World) (H:h.Is w) (hl:h.l.length<=65536) (hj:h.l[j]? =some q) (hk:OkK k):Calls prog 202 #[.agg #[], .pointer (some ⟨h.b,0,none⟩), .int .i64 ((j:Int)+1),k.agg] w fun e w'=>e= .returned (.tuple #[(getD q.T k).agg, .bool (q.T.find k).isSome, .nilIface])/\Below w.heap.size w w':=by
 have SS:=Ab (Sy.nil w [])
 rw[Du]
 go_enter func202,ntmps202
 go_wp2_with (first|go_skip|((with_reducible show wpList ..);first|((refine bx0 109 rfl rfl (Aa SS) ?_);intro X0 B0 S0;replace SS:=Ab S0;clear S0;simp only[nn])|(refine zB 37 (k.cs) rfl rfl rfl SS ?_;clear SS;intro Xa Ba SS;simp only[nn])|(refine zA 43 (zeroD.cs) rfl SS ?_;clear SS;intro Xb Bb SS;simp only[nn])))
 have hS:Sy w _ [] [Av Ba k.cs,Av Bb zeroD.cs]:=(Aa SS).drew
 clear SS
 have cu: ∀{X:World} {M:List Ob},Sy w X [] ([Av Ba k.cs,Av Bb zeroD.cs]++M)->Sy w X [] [Av Ba k.cs,Av Bb zeroD.cs]:=fun h=>Sy.left h
 refine wp_region_held_drew (P:=prog) (S:=fun X=>Sy w X [] _) (by kernel_rfl) (hS) (fun hS0=> ?_)
 refine gp 0 (some 14) (.pointer (some ⟨h.b,0,none⟩)) rfl rfl (hS) ?_
 refine gp 1 (some 15) (.int .i64 ((j:Int)+1)) rfl rfl (hS) ?_
 refine gq 6 (some 20) (.agg k.cs.toArray) rfl rfl (fun X hX=>Af (vs:=k.cs) 37 2 rwK szK rfl rfl (hX.hold 0 rfl) rfl rfl) (hS) ?_
 refine gr (rs:= [2,11]) (gcW 2 (some 16) rfl rfl (hS) (Kv h j q _ (H.on hS.fr.below) hj hl) ?_ (Zcw (v:= .agg (zeroD.cs).toArray) 11 (some 11) 43 (zeroD.cs) rfl rfl rfl (fun w=>by kernel_rfl) rfl hS (fun _ hZ=>cu hZ) ?_ gn))
 ·refine gp 3 (some 17) (.pointer (some ⟨q.b,0,none⟩)) rfl rfl (hS) ?_
  refine gp 4 (some 18) (.pointer (some ⟨q.b,7,none⟩)) rfl rfl (hS) ?_
  refine gq 5 (some 19) (.pointer (some ⟨q.T.t,0,none⟩)) rfl rfl (fun X hX=>Ad 151 isAgg151 rfl rfl ((H.on hX.fr.below).ob hj).1 rfl) (hS) ?_
  refine gr (rs:= [7,11]) (gcB 7 (some 21) rfl rfl hS (Zdx q.T k _ ((H.on hS.fr.below).ob hj).2.1 hk) id ?_ (Zcw (v:= .agg (zeroD.cs).toArray) 11 (some 11) 43 (zeroD.cs) rfl rfl rfl (fun w=>by kernel_rfl) rfl hS (fun _ hZ=>cu hZ) ?_ gn))
  ·intro Y2 hq2
   refine gp 8 (some 13) (.tuple #[(getD q.T k).agg, .bool (q.T.find k).isSome]) rfl rfl (hq2) ?_
   refine gp 9 (some 22) ((getD q.T k).agg) rfl rfl (hq2) ?_
   refine gp 10 (some 23) (.bool (q.T.find k).isSome) rfl rfl (hq2) ?_
   refine gr (rs:= [11]) (Zcw (v:= .agg (zeroD.cs).toArray) 11 (some 11) 43 (zeroD.cs) rfl rfl rfl (fun w=>by kernel_rfl) rfl hq2 (fun _ hZ=>cu hZ) ?_ gn)
   intro Y3 B3 hE3 hq3
   clear hE3
   simp only[nn]
   refine gr (rs:= [12]) (Xt (vs:=(getD q.T k).cs) (new:=(getD q.T k).cs) 12 2 43 rfl rfl rfl rfl rfl rfl (Ez _) szD hq3 rfl (by simp[Bt,VV.cs,KK.cs,DD.cs,OB.cs,hcs,zeroD,Aq]) (by simp[Bt,VV.cs,KK.cs,DD.cs,OB.cs,hcs,zeroD,Aq]) (fun _ hZ=>cu hZ) ?_ gn)
   intro Y4 hq4
   refine gp 13 (some 12) (.bool (q.T.find k).isSome) rfl rfl (cu hq4) ?_
   refine dn ?_
   try simp only[nn]
   have SS:=Ab hq4
   go_wp2_with (first|go_skip|((with_reducible show wpList ..);first|(refine zL ((getD q.T k).cs) 43 18 2 rwD szD rfl rfl SS rfl rfl rfl ?_;simp only[nn])|(refine zS ((getD q.T k).cs) 1 43 rfl rfl rfl rfl (Ez _) szD SS rfl ?_;clear SS;intro Xr SS;simp only[nn])))
   refine bodyPost_ret (Lw rwD szD rfl rfl rfl rfl ((Aa SS).hold 1 rfl) rfl) rfl ?_
   exact⟨rfl,(Aa SS).fr.below⟩
  ·intro Y5 B5 hE5 hq5
   clear hE5
   simp only[nn]
   refine gr (rs:= [7]) (gcB 7 (some 21) rfl rfl hq5 (Zdx q.T k _ ((H.on hq5.fr.below).ob hj).2.1 hk) (fun x=>cu x) ?_ gn)
   intro Y6 hq6
   refine gp 8 (some 13) (.tuple #[(getD q.T k).agg, .bool (q.T.find k).isSome]) rfl rfl (cu hq6) ?_
   refine gp 9 (some 22) ((getD q.T k).agg) rfl rfl (cu hq6) ?_
   refine gp 10 (some 23) (.bool (q.T.find k).isSome) rfl rfl (cu hq6) ?_
   refine gr (rs:= [12]) (Xt (vs:=(getD q.T k).cs) (new:=(getD q.T k).cs) 12 2 43 rfl rfl rfl rfl rfl rfl (Ez _) szD hq6 rfl (by simp[Bt,VV.cs,KK.cs,DD.cs,OB.cs,hcs,zeroD,Aq]) (by simp[Bt,VV.cs,KK.cs,DD.cs,OB.cs,hcs,zeroD,Aq]) (fun _ hZ=>cu hZ) ?_ gn)
   intro Y7 hq7
   refine gp 13 (some 12) (.bool (q.T.find k).isSome) rfl rfl (cu hq7) ?_
   refine dn ?_
   try simp only[nn]
   have SS:=Ab hq7
   go_wp2_with (first|go_skip|((with_reducible show wpList ..);first|(refine zL ((getD q.T k).cs) 43 18 2 rwD szD rfl rfl SS rfl rfl rfl ?_;simp only[nn])|(refine zS ((getD q.T k).cs) 1 43 rfl rfl rfl rfl (Ez _) szD SS rfl ?_;clear SS;intro Xr SS;simp only[nn])))
   refine bodyPost_ret (Lw rwD szD rfl rfl rfl rfl ((Aa SS).hold 1 rfl) rfl) rfl ?_
   exact⟨rfl,(Aa SS).fr.below⟩
 ·intro Y8 B8 hE8 hq8
  clear hE8
  simp only[nn]
  refine gr (rs:= [2]) (gcW 2 (some 16) rfl rfl (cu hq8) (Kv h j q _ (H.on hq8.fr.below) hj hl) ?_ gn)
  refine gp 3 (some 17) (.pointer (some ⟨q.b,0,none⟩)) rfl rfl (cu hq8) ?_
  refine gp 4 (some 18) (.pointer (some ⟨q.b,7,none⟩)) rfl rfl (cu hq8) ?_
  refine gq 5 (some 19) (.pointer (some ⟨q.T.t,0,none⟩)) rfl rfl (fun X hX=>Ad 151 isAgg151 rfl rfl ((H.on hX.fr.below).ob hj).1 rfl) (cu hq8) ?_
  refine gr (rs:= [7]) (gcB 7 (some 21) rfl rfl hq8 (Zdx q.T k _ ((H.on hq8.fr.below).ob hj).2.1 hk) (fun x=>cu x) ?_ gn)
  intro Y10 hq10
  refine gp 8 (some 13) (.tuple #[(getD q.T k).agg, .bool (q.T.find k).isSome]) rfl rfl (cu hq10) ?_
  refine gp 9 (some 22) ((getD q.T k).agg) rfl rfl (cu hq10) ?_
  refine gp 10 (some 23) (.bool (q.T.find k).isSome) rfl rfl (cu hq10) ?_
  refine gr (rs:= [12]) (Xt (vs:=(getD q.T k).cs) (new:=(getD q.T k).cs) 12 2 43 rfl rfl rfl rfl rfl rfl (Ez _) szD hq10 rfl (by simp[Bt,VV.cs,KK.cs,DD.cs,OB.cs,hcs,zeroD,Aq]) (by simp[Bt,VV.cs,KK.cs,DD.cs,OB.cs,hcs,zeroD,Aq]) (fun _ hZ=>cu hZ) ?_ gn)
  intro Y11 hq11
  refine gp 13 (some 12) (.bool (q.T.find k).isSome) rfl rfl (cu hq11) ?_
  refine dn ?_
  try simp only[nn]
  have SS:=Ab hq11
  go_wp2_with (first|go_skip|((with_reducible show wpList ..);first|(refine zL ((getD q.T k).cs) 43 18 2 rwD szD rfl rfl SS rfl rfl rfl ?_;simp only[nn])|(refine zS ((getD q.T k).cs) 1 43 rfl rfl rfl rfl (Ez _) szD SS rfl ?_;clear SS;intro Xr SS;simp only[nn])))
  refine bodyPost_ret (Lw rwD szD rfl rfl rfl rfl ((Aa SS).hold 1 rfl) rfl) rfl ?_
  exact⟨rfl,(Aa SS).fr.below⟩
theorem Mz (h:HP):h.inn.out=h.less:=by
 unfold HP.inn HP.out HP.less
 simp
def Ax (c:Int):Value:= .iface 31 (.int .i64 c)
theorem Bl {P:Program} {fn:Func} {R:Ending->World->Prop} {a:Act} {w:World} {v:Value} (hr:(results fn a.tmps).run P w= .ok v w) (hd:a.defers= []) (h:R (.returned v) w):bodyPostD P fn R .ret a w:=by
 show Leaves P fn a.tmps R a.defers .returning w
 rw[hd]
 exact⟨v,hr,h⟩
theorem ZaO {o:Oper} {a:Act} {w:World} (ho:o.op= .build 43 #[]):(execOp a.eval o).run prog w= .ok (.value (.agg zeroD.cs.toArray)) w:=by
 have e:(Instr.build 43 #[]).run prog w= .ok (.agg zeroD.cs.toArray) w:=by kernel_rfl
 unfold execOp
 simp only[ho]
 simp[e]
theorem Lo {o:Oper} {a:Act} {w:World} (ho:o.op= .build 40 #[]):(execOp a.eval o).run prog w= .ok (.value (.agg Aq.cs.toArray)) w:=by
 have e:(Instr.build 40 #[]).run prog w= .ok (.agg Aq.cs.toArray) w:=by kernel_rfl
 unfold execOp
 simp only[ho]
 simp[e]
theorem Ui (h:HP) (j:Nat)  (w:World) (H:h.Is w) (hf:h.fuel=0):Calls prog 118 #[.pointer (some ⟨h.b,0,none⟩), .int .i64 ((j:Int)+1)] w fun e w'=>e= .returned (.tuple #[Aq.agg,Ax 1])/\h.To h w w':=by
 have SS:=Ab H.start
 go_enter_defers func118,ntmps118
 go_wp2_with (first|go_skip|((with_reducible show wpList ..);(refine zA 40 (Aq.cs) rfl SS ?_;clear SS;intro Xc Bc SS;simp only[nn])))
 refine(Ks h _ _ ((Aa SS).hp 0 rfl) hf).mono ?_
 rintro _ _ ⟨rfl,rfl⟩
 go_wp2_with (first|go_skip|((with_reducible show wpList ..);first|(refine rd rfl (Lo rfl) ?_)|(refine zS (Aq.cs) 1 40 rfl rfl rfl rfl (Gh _) szV SS rfl ?_;clear SS;intro Xz SS;simp only[nn])))
 refine Bl (Gx rwV szV rfl rfl rfl ((Aa SS).hold 1 rfl) rfl) rfl ?_
 exact⟨rfl,HP.To.end H (Aa SS) rfl⟩
theorem Uh (h:HP) (j:Nat)  (w:World) (H:h.Is w) (K:h.Ok) (hf:h.fuel≠0) (hd:h.ent=h.depth):Calls prog 118 #[.pointer (some ⟨h.b,0,none⟩), .int .i64 ((j:Int)+1)] w fun e w'=>e= .returned (.tuple #[Aq.agg,Ax 2])/\h.To h.less w w':=by
 have SS:=Ab H.start
 go_enter_defers func118,ntmps118
 go_wp2_with (first|go_skip|((with_reducible show wpList ..);(refine zA 40 (Aq.cs) rfl SS ?_;clear SS;intro Xc Bc SS;simp only[nn])))
 refine(Ko h _ _ ((Aa SS).hp 0 rfl) K hf hd).mono ?_
 rintro _ Y1 ⟨rfl,T1⟩
 replace SS:=Ab ((Aa SS).heap 0 rfl T1)
 clear T1
 go_wp2_with (first|go_skip|((with_reducible show wpList ..);first|(refine rd rfl (Lo rfl) ?_)|(refine zS (Aq.cs) 1 40 rfl rfl rfl rfl (Gh _) szV SS rfl ?_;clear SS;intro Xz SS;simp only[nn])))
 refine Bl (Gx rwV szV rfl rfl rfl ((Aa SS).hold 1 rfl) rfl) rfl ?_
 exact⟨rfl,HP.To.end H (Aa SS) rfl⟩
theorem Ug (h:HP) (j:Nat) (q:OB)  (P:HP->VV->Value->Prop) (w:World) (H:h.Is w) (K:h.Ok) (hj:h.l[j]? =some q) (hf:h.fuel≠0) (hd:h.ent≠h.depth) (hC: ∀X,h.To h.inn w X->Calls prog 203 #[.agg #[], .pointer (some ⟨h.b,0,none⟩), .int .i64 ((j:Int)+1)] X fun e w'=> ∃(h1:HP) (V:VV) (er:Value),e= .returned (.tuple #[V.agg,er])/\P h1 V er/\h1.ent=h.ent+1/\h.inn.To h1 X w'):Calls prog 118 #[.pointer (some ⟨h.b,0,none⟩), .int .i64 ((j:Int)+1)] w fun e w'=> ∃(h1:HP) (V:VV) (er:Value),e= .returned (.tuple #[V.agg,er])/\P h1 V er/\h.To h1.out w w':=by
 have SS:=Ab H.start
 have HC:=Ab hC
 have hE0:0<=h.ent+1/\h.ent+1<=100000001:=by have:=K.e0;have:=K.e1;have:=K.d1;omega
 clear hC
 go_enter_defers func118,ntmps118
 go_wp2_with (first|go_skip|((with_reducible show wpList ..);(refine zA 40 (Aq.cs) rfl SS ?_;clear SS;intro Xc Bc SS;simp only[nn])))
 refine(Kn h j q _ ((Aa SS).hp 0 rfl) K hj hf hd).mono ?_
 rintro _ Y1 ⟨rfl,T1⟩
 replace SS:=Ab ((Aa SS).heap 0 rfl T1)
 clear T1
 unfold Yx
 go_wp2_with fail
 refine(Aa HC _ (HP.To.end H (Aa SS) rfl)).mono ?_
 rintro _ Y2 ⟨h1,V,er,rfl,hP,hen,T2⟩
 replace SS:=Ab ((Aa SS).heap 0 rfl T2)
 have hb1:h1.b=h.b:=T2.hb
 clear T2
 go_wp2_with (first|go_skip|((with_reducible show wpList ..);(refine zS (V.cs) 1 40 rfl rfl rfl rfl (Gh _) szV SS rfl ?_;clear SS;intro Xz SS;simp only[nn])))
 refine leaves_cons (f:=95) (args:= #[.pointer (some ⟨h.b,0,none⟩)]) (by simp) (by simp[go_sem]) ?_
 have HL:=Kk h1 .returning _ ((Aa SS).hp 0 rfl) (by rw[hen];exact hE0)
 rw[hb1] at HL
 refine HL.mono ?_
 rintro e u2 w2 ⟨rfl,rfl,T3⟩
 replace SS:=Ab ((Aa SS).heap 0 rfl T3)
 exact⟨_,Gx rwV szV rfl rfl rfl ((Aa SS).hold 1 rfl) rfl,h1,V,er,rfl,hP,HP.To.end H (Aa SS) hb1⟩
theorem Uf (h:HP) (j:Nat) (v:VV) (w:World) (H:h.Is w) (hf:h.fuel=0):Calls prog 119 #[.pointer (some ⟨h.b,0,none⟩), .int .i64 ((j:Int)+1),v.agg] w fun e w'=>e= .returned (.tuple #[.bool false,Ax 1])/\h.To h w w':=by
 have SS:=Ab H.start
 rw[Dg]
 go_enter_defers func119,ntmps119
 go_wp2_with (first|go_skip|((with_reducible show wpList ..);(refine zB 40 (v.cs) rfl rfl rfl SS ?_;clear SS;intro Xp0 Bp0 SS;simp only[nn])))
 refine(Ks h _ _ ((Aa SS).hp 0 rfl) hf).mono ?_
 rintro _ _ ⟨rfl,rfl⟩
 go_wp2
 refine Bl (results_tmp2 rfl _ _ _) rfl ?_
 exact⟨rfl,HP.To.end H (Aa SS) rfl⟩
theorem Ue (h:HP) (j:Nat) (v:VV) (w:World) (H:h.Is w) (K:h.Ok) (hf:h.fuel≠0) (hd:h.ent=h.depth):Calls prog 119 #[.pointer (some ⟨h.b,0,none⟩), .int .i64 ((j:Int)+1),v.agg] w fun e w'=>e= .returned (.tuple #[.bool false,Ax 2])/\h.To h.less w w':=by
 have SS:=Ab H.start
 rw[Dg]
 go_enter_defers func119,ntmps119
 go_wp2_with (first|go_skip|((with_reducible show wpList ..);(refine zB 40 (v.cs) rfl rfl rfl SS ?_;clear SS;intro Xp0 Bp0 SS;simp only[nn])))
 refine(Ko h _ _ ((Aa SS).hp 0 rfl) K hf hd).mono ?_
 rintro _ Y1 ⟨rfl,T1⟩
 replace SS:=Ab ((Aa SS).heap 0 rfl T1)
 clear T1
 go_wp2
 refine Bl (results_tmp2 rfl _ _ _) rfl ?_
 exact⟨rfl,HP.To.end H (Aa SS) rfl⟩
theorem Ud (h:HP) (j:Nat) (q:OB) (v:VV) (P:HP->Bool->Value->Prop) (w:World) (H:h.Is w) (K:h.Ok) (hj:h.l[j]? =some q) (hf:h.fuel≠0) (hd:h.ent≠h.depth) (hC: ∀X,h.To h.inn w X->Calls prog 209 #[.agg #[], .pointer (some ⟨h.b,0,none⟩), .int .i64 ((j:Int)+1),v.agg] X fun e w'=> ∃(h1:HP) (y:Bool) (er:Value),e= .returned (.tuple #[.bool y,er])/\P h1 y er/\h1.ent=h.ent+1/\h.inn.To h1 X w'):Calls prog 119 #[.pointer (some ⟨h.b,0,none⟩), .int .i64 ((j:Int)+1),v.agg] w fun e w'=> ∃(h1:HP) (y:Bool) (er:Value),e= .returned (.tuple #[.bool y,er])/\P h1 y er/\h.To h1.out w w':=by
 have SS:=Ab H.start
 have HC:=Ab hC
 have hE0:0<=h.ent+1/\h.ent+1<=100000001:=by have:=K.e0;have:=K.e1;have:=K.d1;omega
 clear hC
 rw[Dg] at HC ⊢
 go_enter_defers func119,ntmps119
 go_wp2_with (first|go_skip|((with_reducible show wpList ..);(refine zB 40 (v.cs) rfl rfl rfl SS ?_;clear SS;intro Xp0 Bp0 SS;simp only[nn])))
 refine(Kn h j q _ ((Aa SS).hp 0 rfl) K hj hf hd).mono ?_
 rintro _ Y1 ⟨rfl,T1⟩
 replace SS:=Ab ((Aa SS).heap 0 rfl T1)
 clear T1
 unfold Yx
 go_wp2_with (first|go_skip|((with_reducible show wpList ..);(refine zL (v.cs) 40 5 1 rwV szV rfl rfl SS rfl rfl rfl ?_;simp only[nn])))
 refine(Aa HC _ (HP.To.end H (Aa SS) rfl)).mono ?_
 rintro _ Y2 ⟨h1,y,er,rfl,hP,hen,T2⟩
 replace SS:=Ab ((Aa SS).heap 0 rfl T2)
 have hb1:h1.b=h.b:=T2.hb
 clear T2
 go_wp2
 refine leaves_cons (f:=95) (args:= #[.pointer (some ⟨h.b,0,none⟩)]) (by simp) (by simp[go_sem]) ?_
 have HL:=Kk h1 .returning _ ((Aa SS).hp 0 rfl) (by rw[hen];exact hE0)
 rw[hb1] at HL
 refine HL.mono ?_
 rintro e u2 w2 ⟨rfl,rfl,T3⟩
 replace SS:=Ab ((Aa SS).heap 0 rfl T3)
 exact⟨_,results_tmp2 rfl _ _ _,h1,y,er,rfl,hP,HP.To.end H (Aa SS) hb1⟩
theorem Yd (h:HP) (j:Nat)  (w:World) (H:h.Is w) (hf:h.fuel=0):Calls prog 120 #[.pointer (some ⟨h.b,0,none⟩), .int .i64 ((j:Int)+1)] w fun e w'=>e= .returned (.tuple #[.bool false,Ax 1])/\h.To h w w':=by
 have SS:=Ab H.start
 go_enter_defers func120,ntmps120
 go_wp2_with fail
 refine(Ks h _ _ ((Aa SS).hp 0 rfl) hf).mono ?_
 rintro _ _ ⟨rfl,rfl⟩
 go_wp2
 refine Bl (results_tmp2 rfl _ _ _) rfl ?_
 exact⟨rfl,HP.To.end H (Aa SS) rfl⟩
theorem Yc (h:HP) (j:Nat)  (w:World) (H:h.Is w) (K:h.Ok) (hf:h.fuel≠0) (hd:h.ent=h.depth):Calls prog 120 #[.pointer (some ⟨h.b,0,none⟩), .int .i64 ((j:Int)+1)] w fun e w'=>e= .returned (.tuple #[.bool false,Ax 2])/\h.To h.less w w':=by
 have SS:=Ab H.start
 go_enter_defers func120,ntmps120
 go_wp2_with fail
 refine(Ko h _ _ ((Aa SS).hp 0 rfl) K hf hd).mono ?_
 rintro _ Y1 ⟨rfl,T1⟩
 replace SS:=Ab ((Aa SS).heap 0 rfl T1)
 clear T1
 go_wp2
 refine Bl (results_tmp2 rfl _ _ _) rfl ?_
 exact⟨rfl,HP.To.end H (Aa SS) rfl⟩
theorem Ya (h:HP) (j:Nat) (q:OB)  (P:HP->Bool->Value->Prop) (w:World) (H:h.Is w) (K:h.Ok) (hj:h.l[j]? =some q) (hf:h.fuel≠0) (hd:h.ent≠h.depth) (hC: ∀X,h.To h.inn w X->Calls prog 205 #[.agg #[], .pointer (some ⟨h.b,0,none⟩), .int .i64 ((j:Int)+1)] X fun e w'=> ∃(h1:HP) (y:Bool) (er:Value),e= .returned (.tuple #[.bool y,er])/\P h1 y er/\h1.ent=h.ent+1/\h.inn.To h1 X w'):Calls prog 120 #[.pointer (some ⟨h.b,0,none⟩), .int .i64 ((j:Int)+1)] w fun e w'=> ∃(h1:HP) (y:Bool) (er:Value),e= .returned (.tuple #[.bool y,er])/\P h1 y er/\h.To h1.out w w':=by
 have SS:=Ab H.start
 have HC:=Ab hC
 have hE0:0<=h.ent+1/\h.ent+1<=100000001:=by have:=K.e0;have:=K.e1;have:=K.d1;omega
 clear hC
 go_enter_defers func120,ntmps120
 go_wp2_with fail
 refine(Kn h j q _ ((Aa SS).hp 0 rfl) K hj hf hd).mono ?_
 rintro _ Y1 ⟨rfl,T1⟩
 replace SS:=Ab ((Aa SS).heap 0 rfl T1)
 clear T1
 unfold Yx
 go_wp2_with fail
 refine(Aa HC _ (HP.To.end H (Aa SS) rfl)).mono ?_
 rintro _ Y2 ⟨h1,y,er,rfl,hP,hen,T2⟩
 replace SS:=Ab ((Aa SS).heap 0 rfl T2)
 have hb1:h1.b=h.b:=T2.hb
 clear T2
 go_wp2
 refine leaves_cons (f:=95) (args:= #[.pointer (some ⟨h.b,0,none⟩)]) (by simp) (by simp[go_sem]) ?_
 have HL:=Kk h1 .returning _ ((Aa SS).hp 0 rfl) (by rw[hen];exact hE0)
 rw[hb1] at HL
 refine HL.mono ?_
 rintro e u2 w2 ⟨rfl,rfl,T3⟩
 replace SS:=Ab ((Aa SS).heap 0 rfl T3)
 exact⟨_,results_tmp2 rfl _ _ _,h1,y,er,rfl,hP,HP.To.end H (Aa SS) hb1⟩
theorem Pd (h:HP) (j:Nat)  (w:World) (H:h.Is w) (hf:h.fuel=0):Calls prog 121 #[.pointer (some ⟨h.b,0,none⟩), .int .i64 ((j:Int)+1)] w fun e w'=>e= .returned (.tuple #[.bool false,Ax 1])/\h.To h w w':=by
 have SS:=Ab H.start
 go_enter_defers func121,ntmps121
 go_wp2_with fail
 refine(Ks h _ _ ((Aa SS).hp 0 rfl) hf).mono ?_
 rintro _ _ ⟨rfl,rfl⟩
 go_wp2
 refine Bl (results_tmp2 rfl _ _ _) rfl ?_
 exact⟨rfl,HP.To.end H (Aa SS) rfl⟩
theorem Pc (h:HP) (j:Nat)  (w:World) (H:h.Is w) (K:h.Ok) (hf:h.fuel≠0) (hd:h.ent=h.depth):Calls prog 121 #[.pointer (some ⟨h.b,0,none⟩), .int .i64 ((j:Int)+1)] w fun e w'=>e= .returned (.tuple #[.bool false,Ax 2])/\h.To h.less w w':=by
 have SS:=Ab H.start
 go_enter_defers func121,ntmps121
 go_wp2_with fail
 refine(Ko h _ _ ((Aa SS).hp 0 rfl) K hf hd).mono ?_
 rintro _ Y1 ⟨rfl,T1⟩
 replace SS:=Ab ((Aa SS).heap 0 rfl T1)
 clear T1
 go_wp2
 refine Bl (results_tmp2 rfl _ _ _) rfl ?_
 exact⟨rfl,HP.To.end H (Aa SS) rfl⟩
theorem Pb (h:HP) (j:Nat) (q:OB)  (P:HP->Bool->Value->Prop) (w:World) (H:h.Is w) (K:h.Ok) (hj:h.l[j]? =some q) (hf:h.fuel≠0) (hd:h.ent≠h.depth) (hC: ∀X,h.To h.inn w X->Calls prog 207 #[.agg #[], .pointer (some ⟨h.b,0,none⟩), .int .i64 ((j:Int)+1)] X fun e w'=> ∃(h1:HP) (y:Bool) (er:Value),e= .returned (.tuple #[.bool y,er])/\P h1 y er/\h1.ent=h.ent+1/\h.inn.To h1 X w'):Calls prog 121 #[.pointer (some ⟨h.b,0,none⟩), .int .i64 ((j:Int)+1)] w fun e w'=> ∃(h1:HP) (y:Bool) (er:Value),e= .returned (.tuple #[.bool y,er])/\P h1 y er/\h.To h1.out w w':=by
 have SS:=Ab H.start
 have HC:=Ab hC
 have hE0:0<=h.ent+1/\h.ent+1<=100000001:=by have:=K.e0;have:=K.e1;have:=K.d1;omega
 clear hC
 go_enter_defers func121,ntmps121
 go_wp2_with fail
 refine(Kn h j q _ ((Aa SS).hp 0 rfl) K hj hf hd).mono ?_
 rintro _ Y1 ⟨rfl,T1⟩
 replace SS:=Ab ((Aa SS).heap 0 rfl T1)
 clear T1
 unfold Yx
 go_wp2_with fail
 refine(Aa HC _ (HP.To.end H (Aa SS) rfl)).mono ?_
 rintro _ Y2 ⟨h1,y,er,rfl,hP,hen,T2⟩
 replace SS:=Ab ((Aa SS).heap 0 rfl T2)
 have hb1:h1.b=h.b:=T2.hb
 clear T2
 go_wp2
 refine leaves_cons (f:=95) (args:= #[.pointer (some ⟨h.b,0,none⟩)]) (by simp) (by simp[go_sem]) ?_
 have HL:=Kk h1 .returning _ ((Aa SS).hp 0 rfl) (by rw[hen];exact hE0)
 rw[hb1] at HL
 refine HL.mono ?_
 rintro e u2 w2 ⟨rfl,rfl,T3⟩
 replace SS:=Ab ((Aa SS).heap 0 rfl T3)
 exact⟨_,results_tmp2 rfl _ _ _,h1,y,er,rfl,hP,HP.To.end H (Aa SS) hb1⟩
theorem Ul (h:HP) (j:Nat) (k:KK) (w:World) (H:h.Is w) (hf:h.fuel=0):Calls prog 122 #[.pointer (some ⟨h.b,0,none⟩), .int .i64 ((j:Int)+1),k.agg] w fun e w'=>e= .returned (.tuple #[zeroD.agg, .bool false,Ax 1])/\h.To h w w':=by
 have SS:=Ab H.start
 rw[Du]
 go_enter_defers func122,ntmps122
 go_wp2_with (first|go_skip|((with_reducible show wpList ..);first|(refine zB 37 (k.cs) rfl rfl rfl SS ?_;clear SS;intro Xp0 Bp0 SS;simp only[nn])|(refine zA 43 (zeroD.cs) rfl SS ?_;clear SS;intro Xc Bc SS;simp only[nn])))
 refine(Ks h _ _ ((Aa SS).hp 0 rfl) hf).mono ?_
 rintro _ _ ⟨rfl,rfl⟩
 go_wp2_with (first|go_skip|((with_reducible show wpList ..);first|(refine rd rfl (ZaO rfl) ?_)|(refine zS (zeroD.cs) 2 43 rfl rfl rfl rfl (Ez _) szD SS rfl ?_;clear SS;intro Xz SS;simp only[nn])))
 refine Bl (Lw rwD szD rfl rfl rfl rfl ((Aa SS).hold 2 rfl) rfl) rfl ?_
 exact⟨rfl,HP.To.end H (Aa SS) rfl⟩
theorem Uk (h:HP) (j:Nat) (k:KK) (w:World) (H:h.Is w) (K:h.Ok) (hf:h.fuel≠0) (hd:h.ent=h.depth):Calls prog 122 #[.pointer (some ⟨h.b,0,none⟩), .int .i64 ((j:Int)+1),k.agg] w fun e w'=>e= .returned (.tuple #[zeroD.agg, .bool false,Ax 2])/\h.To h.less w w':=by
 have SS:=Ab H.start
 rw[Du]
 go_enter_defers func122,ntmps122
 go_wp2_with (first|go_skip|((with_reducible show wpList ..);first|(refine zB 37 (k.cs) rfl rfl rfl SS ?_;clear SS;intro Xp0 Bp0 SS;simp only[nn])|(refine zA 43 (zeroD.cs) rfl SS ?_;clear SS;intro Xc Bc SS;simp only[nn])))
 refine(Ko h _ _ ((Aa SS).hp 0 rfl) K hf hd).mono ?_
 rintro _ Y1 ⟨rfl,T1⟩
 replace SS:=Ab ((Aa SS).heap 0 rfl T1)
 clear T1
 go_wp2_with (first|go_skip|((with_reducible show wpList ..);first|(refine rd rfl (ZaO rfl) ?_)|(refine zS (zeroD.cs) 2 43 rfl rfl rfl rfl (Ez _) szD SS rfl ?_;clear SS;intro Xz SS;simp only[nn])))
 refine Bl (Lw rwD szD rfl rfl rfl rfl ((Aa SS).hold 2 rfl) rfl) rfl ?_
 exact⟨rfl,HP.To.end H (Aa SS) rfl⟩
theorem Uj (h:HP) (j:Nat) (q:OB) (k:KK) (P:HP->DD->Bool->Value->Prop) (w:World) (H:h.Is w) (K:h.Ok) (hj:h.l[j]? =some q) (hf:h.fuel≠0) (hd:h.ent≠h.depth) (hC: ∀X,h.To h.inn w X->Calls prog 202 #[.agg #[], .pointer (some ⟨h.b,0,none⟩), .int .i64 ((j:Int)+1),k.agg] X fun e w'=> ∃(h1:HP) (V:DD) (y:Bool) (er:Value),e= .returned (.tuple #[V.agg, .bool y,er])/\P h1 V y er/\h1.ent=h.ent+1/\h.inn.To h1 X w'):Calls prog 122 #[.pointer (some ⟨h.b,0,none⟩), .int .i64 ((j:Int)+1),k.agg] w fun e w'=> ∃(h1:HP) (V:DD) (y:Bool) (er:Value),e= .returned (.tuple #[V.agg, .bool y,er])/\P h1 V y er/\h.To h1.out w w':=by
 have SS:=Ab H.start
 have HC:=Ab hC
 have hE0:0<=h.ent+1/\h.ent+1<=100000001:=by have:=K.e0;have:=K.e1;have:=K.d1;omega
 clear hC
 rw[Du] at HC ⊢
 go_enter_defers func122,ntmps122
 go_wp2_with (first|go_skip|((with_reducible show wpList ..);first|(refine zB 37 (k.cs) rfl rfl rfl SS ?_;clear SS;intro Xp0 Bp0 SS;simp only[nn])|(refine zA 43 (zeroD.cs) rfl SS ?_;clear SS;intro Xc Bc SS;simp only[nn])))
 refine(Kn h j q _ ((Aa SS).hp 0 rfl) K hj hf hd).mono ?_
 rintro _ Y1 ⟨rfl,T1⟩
 replace SS:=Ab ((Aa SS).heap 0 rfl T1)
 clear T1
 unfold Yx
 go_wp2_with (first|go_skip|((with_reducible show wpList ..);(refine zL (k.cs) 37 2 1 rwK szK rfl rfl SS rfl rfl rfl ?_;simp only[nn])))
 refine(Aa HC _ (HP.To.end H (Aa SS) rfl)).mono ?_
 rintro _ Y2 ⟨h1,V,y,er,rfl,hP,hen,T2⟩
 replace SS:=Ab ((Aa SS).heap 0 rfl T2)
 have hb1:h1.b=h.b:=T2.hb
 clear T2
 go_wp2_with (first|go_skip|((with_reducible show wpList ..);(refine zS (V.cs) 2 43 rfl rfl rfl rfl (Ez _) szD SS rfl ?_;clear SS;intro Xz SS;simp only[nn])))
 refine leaves_cons (f:=95) (args:= #[.pointer (some ⟨h.b,0,none⟩)]) (by simp) (by simp[go_sem]) ?_
 have HL:=Kk h1 .returning _ ((Aa SS).hp 0 rfl) (by rw[hen];exact hE0)
 rw[hb1] at HL
 refine HL.mono ?_
 rintro e u2 w2 ⟨rfl,rfl,T3⟩
 replace SS:=Ab ((Aa SS).heap 0 rfl T3)
 exact⟨_,Lw rwD szD rfl rfl rfl rfl ((Aa SS).hold 2 rfl) rfl,h1,V,y,er,rfl,hP,HP.To.end H (Aa SS) hb1⟩
theorem Pg (h:HP) (j:Nat) (k:KK) (d:DD) (w:World) (H:h.Is w) (hf:h.fuel=0):Calls prog 42 #[.pointer (some ⟨h.b,0,none⟩), .int .i64 ((j:Int)+1),k.agg,d.agg] w fun e w'=>e= .returned (.tuple #[.bool false,Ax 1])/\h.To h w w':=by
 have SS:=Ab H.start
 rw[Qj,Du]
 go_enter_defers func42,ntmps42
 go_wp2_with (first|go_skip|((with_reducible show wpList ..);first|(refine zB 37 (k.cs) rfl rfl rfl SS ?_;clear SS;intro Xp0 Bp0 SS;simp only[nn])|(refine zB 43 (d.cs) rfl rfl rfl SS ?_;clear SS;intro Xp1 Bp1 SS;simp only[nn])))
 refine(Ks h _ _ ((Aa SS).hp 0 rfl) hf).mono ?_
 rintro _ _ ⟨rfl,rfl⟩
 go_wp2
 refine Bl (results_tmp2 rfl _ _ _) rfl ?_
 exact⟨rfl,HP.To.end H (Aa SS) rfl⟩
theorem Pf (h:HP) (j:Nat) (k:KK) (d:DD) (w:World) (H:h.Is w) (K:h.Ok) (hf:h.fuel≠0) (hd:h.ent=h.depth):Calls prog 42 #[.pointer (some ⟨h.b,0,none⟩), .int .i64 ((j:Int)+1),k.agg,d.agg] w fun e w'=>e= .returned (.tuple #[.bool false,Ax 2])/\h.To h.less w w':=by
 have SS:=Ab H.start
 rw[Qj,Du]
 go_enter_defers func42,ntmps42
 go_wp2_with (first|go_skip|((with_reducible show wpList ..);first|(refine zB 37 (k.cs) rfl rfl rfl SS ?_;clear SS;intro Xp0 Bp0 SS;simp only[nn])|(refine zB 43 (d.cs) rfl rfl rfl SS ?_;clear SS;intro Xp1 Bp1 SS;simp only[nn])))
 refine(Ko h _ _ ((Aa SS).hp 0 rfl) K hf hd).mono ?_
 rintro _ Y1 ⟨rfl,T1⟩
 replace SS:=Ab ((Aa SS).heap 0 rfl T1)
 clear T1
 go_wp2
 refine Bl (results_tmp2 rfl _ _ _) rfl ?_
 exact⟨rfl,HP.To.end H (Aa SS) rfl⟩
theorem Pe (h:HP) (j:Nat) (q:OB) (k:KK) (d:DD) (P:HP->Bool->Value->Prop) (w:World) (H:h.Is w) (K:h.Ok) (hj:h.l[j]? =some q) (hf:h.fuel≠0) (hd:h.ent≠h.depth) (hC: ∀X,h.To h.inn w X->Calls prog 60 #[.agg #[], .pointer (some ⟨h.b,0,none⟩), .int .i64 ((j:Int)+1),k.agg,d.agg] X fun e w'=> ∃(h1:HP) (y:Bool) (er:Value),e= .returned (.tuple #[.bool y,er])/\P h1 y er/\h1.ent=h.ent+1/\h.inn.To h1 X w'):Calls prog 42 #[.pointer (some ⟨h.b,0,none⟩), .int .i64 ((j:Int)+1),k.agg,d.agg] w fun e w'=> ∃(h1:HP) (y:Bool) (er:Value),e= .returned (.tuple #[.bool y,er])/\P h1 y er/\h.To h1.out w w':=by
 have SS:=Ab H.start
 have HC:=Ab hC
 have hE0:0<=h.ent+1/\h.ent+1<=100000001:=by have:=K.e0;have:=K.e1;have:=K.d1;omega
 clear hC
 rw[Qj,Du] at HC ⊢
 go_enter_defers func42,ntmps42
 go_wp2_with (first|go_skip|((with_reducible show wpList ..);first|(refine zB 37 (k.cs) rfl rfl rfl SS ?_;clear SS;intro Xp0 Bp0 SS;simp only[nn])|(refine zB 43 (d.cs) rfl rfl rfl SS ?_;clear SS;intro Xp1 Bp1 SS;simp only[nn])))
 refine(Kn h j q _ ((Aa SS).hp 0 rfl) K hj hf hd).mono ?_
 rintro _ Y1 ⟨rfl,T1⟩
 replace SS:=Ab ((Aa SS).heap 0 rfl T1)
 clear T1
 unfold Yx
 go_wp2_with (first|go_skip|((with_reducible show wpList ..);first|(refine zL (k.cs) 37 2 1 rwK szK rfl rfl SS rfl rfl rfl ?_;simp only[nn])|(refine zL (d.cs) 43 18 2 rwD szD rfl rfl SS rfl rfl rfl ?_;simp only[nn])))
 refine(Aa HC _ (HP.To.end H (Aa SS) rfl)).mono ?_
 rintro _ Y2 ⟨h1,y,er,rfl,hP,hen,T2⟩
 replace SS:=Ab ((Aa SS).heap 0 rfl T2)
 have hb1:h1.b=h.b:=T2.hb
 clear T2
 go_wp2
 refine leaves_cons (f:=95) (args:= #[.pointer (some ⟨h.b,0,none⟩)]) (by simp) (by simp[go_sem]) ?_
 have HL:=Kk h1 .returning _ ((Aa SS).hp 0 rfl) (by rw[hen];exact hE0)
 rw[hb1] at HL
 refine HL.mono ?_
 rintro e u2 w2 ⟨rfl,rfl,T3⟩
 replace SS:=Ab ((Aa SS).heap 0 rfl T3)
 exact⟨_,results_tmp2 rfl _ _ _,h1,y,er,rfl,hP,HP.To.end H (Aa SS) hb1⟩
theorem Zd (h:HP) (j:Nat) (k:KK) (w:World) (H:h.Is w) (hf:h.fuel=0):Calls prog 123 #[.pointer (some ⟨h.b,0,none⟩), .int .i64 ((j:Int)+1),k.agg] w fun e w'=>e= .returned (.tuple #[.bool false,Ax 1])/\h.To h w w':=by
 have SS:=Ab H.start
 rw[Du]
 go_enter_defers func123,ntmps123
 go_wp2_with (first|go_skip|((with_reducible show wpList ..);(refine zB 37 (k.cs) rfl rfl rfl SS ?_;clear SS;intro Xp0 Bp0 SS;simp only[nn])))
 refine(Ks h _ _ ((Aa SS).hp 0 rfl) hf).mono ?_
 rintro _ _ ⟨rfl,rfl⟩
 go_wp2
 refine Bl (results_tmp2 rfl _ _ _) rfl ?_
 exact⟨rfl,HP.To.end H (Aa SS) rfl⟩
theorem Zc (h:HP) (j:Nat) (k:KK) (w:World) (H:h.Is w) (K:h.Ok) (hf:h.fuel≠0) (hd:h.ent=h.depth):Calls prog 123 #[.pointer (some ⟨h.b,0,none⟩), .int .i64 ((j:Int)+1),k.agg] w fun e w'=>e= .returned (.tuple #[.bool false,Ax 2])/\h.To h.less w w':=by
 have SS:=Ab H.start
 rw[Du]
 go_enter_defers func123,ntmps123
 go_wp2_with (first|go_skip|((with_reducible show wpList ..);(refine zB 37 (k.cs) rfl rfl rfl SS ?_;clear SS;intro Xp0 Bp0 SS;simp only[nn])))
 refine(Ko h _ _ ((Aa SS).hp 0 rfl) K hf hd).mono ?_
 rintro _ Y1 ⟨rfl,T1⟩
 replace SS:=Ab ((Aa SS).heap 0 rfl T1)
 clear T1
 go_wp2
 refine Bl (results_tmp2 rfl _ _ _) rfl ?_
 exact⟨rfl,HP.To.end H (Aa SS) rfl⟩
theorem Zb (h:HP) (j:Nat) (q:OB) (k:KK) (P:HP->Bool->Value->Prop) (w:World) (H:h.Is w) (K:h.Ok) (hj:h.l[j]? =some q) (hf:h.fuel≠0) (hd:h.ent≠h.depth) (hC: ∀X,h.To h.inn w X->Calls prog 204 #[.agg #[], .pointer (some ⟨h.b,0,none⟩), .int .i64 ((j:Int)+1),k.agg] X fun e w'=> ∃(h1:HP) (y:Bool) (er:Value),e= .returned (.tuple #[.bool y,er])/\P h1 y er/\h1.ent=h.ent+1/\h.inn.To h1 X w'):Calls prog 123 #[.pointer (some ⟨h.b,0,none⟩), .int .i64 ((j:Int)+1),k.agg] w fun e w'=> ∃(h1:HP) (y:Bool) (er:Value),e= .returned (.tuple #[.bool y,er])/\P h1 y er/\h.To h1.out w w':=by
 have SS:=Ab H.start
 have HC:=Ab hC
 have hE0:0<=h.ent+1/\h.ent+1<=100000001:=by have:=K.e0;have:=K.e1;have:=K.d1;omega
 clear hC
 rw[Du] at HC ⊢
 go_enter_defers func123,ntmps123
 go_wp2_with (first|go_skip|((with_reducible show wpList ..);(refine zB 37 (k.cs) rfl rfl rfl SS ?_;clear SS;intro Xp0 Bp0 SS;simp only[nn])))
 refine(Kn h j q _ ((Aa SS).hp 0 rfl) K hj hf hd).mono ?_
 rintro _ Y1 ⟨rfl,T1⟩
 replace SS:=Ab ((Aa SS).heap 0 rfl T1)
 clear T1
 unfold Yx
 go_wp2_with (first|go_skip|((with_reducible show wpList ..);(refine zL (k.cs) 37 2 1 rwK szK rfl rfl SS rfl rfl rfl ?_;simp only[nn])))
 refine(Aa HC _ (HP.To.end H (Aa SS) rfl)).mono ?_
 rintro _ Y2 ⟨h1,y,er,rfl,hP,hen,T2⟩
 replace SS:=Ab ((Aa SS).heap 0 rfl T2)
 have hb1:h1.b=h.b:=T2.hb
 clear T2
 go_wp2
 refine leaves_cons (f:=95) (args:= #[.pointer (some ⟨h.b,0,none⟩)]) (by simp) (by simp[go_sem]) ?_
 have HL:=Kk h1 .returning _ ((Aa SS).hp 0 rfl) (by rw[hen];exact hE0)
 rw[hb1] at HL
 refine HL.mono ?_
 rintro e u2 w2 ⟨rfl,rfl,T3⟩
 replace SS:=Ab ((Aa SS).heap 0 rfl T3)
 exact⟨_,results_tmp2 rfl _ _ _,h1,y,er,rfl,hP,HP.To.end H (Aa SS) hb1⟩
theorem enGet_0 (h:HP) (j:Nat) (k:KK) (r:VV) (w:World) (H:h.Is w) (hf:h.fuel=0):Calls prog 44 #[.pointer (some ⟨h.b,0,none⟩), .int .i64 ((j:Int)+1),k.agg,r.agg] w fun e w'=>e= .returned (.tuple #[Aq.agg,Ax 1])/\h.To h w w':=by
 have SS:=Ab H.start
 rw[Du,Dg]
 go_enter_defers func44,ntmps44
 go_wp2_with (first|go_skip|((with_reducible show wpList ..);first|(refine zB 37 (k.cs) rfl rfl rfl SS ?_;clear SS;intro Xp0 Bp0 SS;simp only[nn])|(refine zB 40 (r.cs) rfl rfl rfl SS ?_;clear SS;intro Xp1 Bp1 SS;simp only[nn])|(refine zA 40 (Aq.cs) rfl SS ?_;clear SS;intro Xc Bc SS;simp only[nn])))
 refine(Ks h _ _ ((Aa SS).hp 0 rfl) hf).mono ?_
 rintro _ _ ⟨rfl,rfl⟩
 go_wp2_with (first|go_skip|((with_reducible show wpList ..);first|(refine rd rfl (Lo rfl) ?_)|(refine zS (Aq.cs) 3 40 rfl rfl rfl rfl (Gh _) szV SS rfl ?_;clear SS;intro Xz SS;simp only[nn])))
 refine Bl (Gx rwV szV rfl rfl rfl ((Aa SS).hold 3 rfl) rfl) rfl ?_
 exact⟨rfl,HP.To.end H (Aa SS) rfl⟩
theorem enGet_d (h:HP) (j:Nat) (k:KK) (r:VV) (w:World) (H:h.Is w) (K:h.Ok) (hf:h.fuel≠0) (hd:h.ent=h.depth):Calls prog 44 #[.pointer (some ⟨h.b,0,none⟩), .int .i64 ((j:Int)+1),k.agg,r.agg] w fun e w'=>e= .returned (.tuple #[Aq.agg,Ax 2])/\h.To h.less w w':=by
 have SS:=Ab H.start
 rw[Du,Dg]
 go_enter_defers func44,ntmps44
 go_wp2_with (first|go_skip|((with_reducible show wpList ..);first|(refine zB 37 (k.cs) rfl rfl rfl SS ?_;clear SS;intro Xp0 Bp0 SS;simp only[nn])|(refine zB 40 (r.cs) rfl rfl rfl SS ?_;clear SS;intro Xp1 Bp1 SS;simp only[nn])|(refine zA 40 (Aq.cs) rfl SS ?_;clear SS;intro Xc Bc SS;simp only[nn])))
 refine(Ko h _ _ ((Aa SS).hp 0 rfl) K hf hd).mono ?_
 rintro _ Y1 ⟨rfl,T1⟩
 replace SS:=Ab ((Aa SS).heap 0 rfl T1)
 clear T1
 go_wp2_with (first|go_skip|((with_reducible show wpList ..);first|(refine rd rfl (Lo rfl) ?_)|(refine zS (Aq.cs) 3 40 rfl rfl rfl rfl (Gh _) szV SS rfl ?_;clear SS;intro Xz SS;simp only[nn])))
 refine Bl (Gx rwV szV rfl rfl rfl ((Aa SS).hold 3 rfl) rfl) rfl ?_
 exact⟨rfl,HP.To.end H (Aa SS) rfl⟩
theorem enGet_n (h:HP) (j:Nat) (q:OB) (k:KK) (r:VV) (P:HP->VV->Value->Prop) (w:World) (H:h.Is w) (K:h.Ok) (hj:h.l[j]? =some q) (hf:h.fuel≠0) (hd:h.ent≠h.depth) (hC: ∀X,h.To h.inn w X->Calls prog 201 #[.agg #[], .pointer (some ⟨h.b,0,none⟩), .int .i64 ((j:Int)+1),k.agg,r.agg] X fun e w'=> ∃(h1:HP) (V:VV) (er:Value),e= .returned (.tuple #[V.agg,er])/\P h1 V er/\h1.ent=h.ent+1/\h.inn.To h1 X w'):Calls prog 44 #[.pointer (some ⟨h.b,0,none⟩), .int .i64 ((j:Int)+1),k.agg,r.agg] w fun e w'=> ∃(h1:HP) (V:VV) (er:Value),e= .returned (.tuple #[V.agg,er])/\P h1 V er/\h.To h1.out w w':=by
 have SS:=Ab H.start
 have HC:=Ab hC
 have hE0:0<=h.ent+1/\h.ent+1<=100000001:=by have:=K.e0;have:=K.e1;have:=K.d1;omega
 clear hC
 rw[Du,Dg] at HC ⊢
 go_enter_defers func44,ntmps44
 go_wp2_with (first|go_skip|((with_reducible show wpList ..);first|(refine zB 37 (k.cs) rfl rfl rfl SS ?_;clear SS;intro Xp0 Bp0 SS;simp only[nn])|(refine zB 40 (r.cs) rfl rfl rfl SS ?_;clear SS;intro Xp1 Bp1 SS;simp only[nn])|(refine zA 40 (Aq.cs) rfl SS ?_;clear SS;intro Xc Bc SS;simp only[nn])))
 refine(Kn h j q _ ((Aa SS).hp 0 rfl) K hj hf hd).mono ?_
 rintro _ Y1 ⟨rfl,T1⟩
 replace SS:=Ab ((Aa SS).heap 0 rfl T1)
 clear T1
 unfold Yx
 go_wp2_with (first|go_skip|((with_reducible show wpList ..);first|(refine zL (k.cs) 37 2 1 rwK szK rfl rfl SS rfl rfl rfl ?_;simp only[nn])|(refine zL (r.cs) 40 5 2 rwV szV rfl rfl SS rfl rfl rfl ?_;simp only[nn])))
 refine(Aa HC _ (HP.To.end H (Aa SS) rfl)).mono ?_
 rintro _ Y2 ⟨h1,V,er,rfl,hP,hen,T2⟩
 replace SS:=Ab ((Aa SS).heap 0 rfl T2)
 have hb1:h1.b=h.b:=T2.hb
 clear T2
 go_wp2_with (first|go_skip|((with_reducible show wpList ..);(refine zS (V.cs) 3 40 rfl rfl rfl rfl (Gh _) szV SS rfl ?_;clear SS;intro Xz SS;simp only[nn])))
 refine leaves_cons (f:=95) (args:= #[.pointer (some ⟨h.b,0,none⟩)]) (by simp) (by simp[go_sem]) ?_
 have HL:=Kk h1 .returning _ ((Aa SS).hp 0 rfl) (by rw[hen];exact hE0)
 rw[hb1] at HL
 refine HL.mono ?_
 rintro e u2 w2 ⟨rfl,rfl,T3⟩
 replace SS:=Ab ((Aa SS).heap 0 rfl T3)
 exact⟨_,Gx rwV szV rfl rfl rfl ((Aa SS).hold 3 rfl) rfl,h1,V,er,rfl,hP,HP.To.end H (Aa SS) hb1⟩
theorem enSet_0 (h:HP) (j:Nat) (k:KK) (v:VV) (r:VV) (w:World) (H:h.Is w) (hf:h.fuel=0):Calls prog 45 #[.pointer (some ⟨h.b,0,none⟩), .int .i64 ((j:Int)+1),k.agg,v.agg,r.agg] w fun e w'=>e= .returned (.tuple #[.bool false,Ax 1])/\h.To h w w':=by
 have SS:=Ab H.start
 rw[Du,Dg,Dg]
 go_enter_defers func45,ntmps45
 go_wp2_with (first|go_skip|((with_reducible show wpList ..);first|(refine zB 37 (k.cs) rfl rfl rfl SS ?_;clear SS;intro Xp0 Bp0 SS;simp only[nn])|(refine zB 40 (v.cs) rfl rfl rfl SS ?_;clear SS;intro Xp1 Bp1 SS;simp only[nn])|(refine zB 40 (r.cs) rfl rfl rfl SS ?_;clear SS;intro Xp2 Bp2 SS;simp only[nn])))
 refine(Ks h _ _ ((Aa SS).hp 0 rfl) hf).mono ?_
 rintro _ _ ⟨rfl,rfl⟩
 go_wp2
 refine Bl (results_tmp2 rfl _ _ _) rfl ?_
 exact⟨rfl,HP.To.end H (Aa SS) rfl⟩
theorem enSet_d (h:HP) (j:Nat) (k:KK) (v:VV) (r:VV) (w:World) (H:h.Is w) (K:h.Ok) (hf:h.fuel≠0) (hd:h.ent=h.depth):Calls prog 45 #[.pointer (some ⟨h.b,0,none⟩), .int .i64 ((j:Int)+1),k.agg,v.agg,r.agg] w fun e w'=>e= .returned (.tuple #[.bool false,Ax 2])/\h.To h.less w w':=by
 have SS:=Ab H.start
 rw[Du,Dg,Dg]
 go_enter_defers func45,ntmps45
 go_wp2_with (first|go_skip|((with_reducible show wpList ..);first|(refine zB 37 (k.cs) rfl rfl rfl SS ?_;clear SS;intro Xp0 Bp0 SS;simp only[nn])|(refine zB 40 (v.cs) rfl rfl rfl SS ?_;clear SS;intro Xp1 Bp1 SS;simp only[nn])|(refine zB 40 (r.cs) rfl rfl rfl SS ?_;clear SS;intro Xp2 Bp2 SS;simp only[nn])))
 refine(Ko h _ _ ((Aa SS).hp 0 rfl) K hf hd).mono ?_
 rintro _ Y1 ⟨rfl,T1⟩
 replace SS:=Ab ((Aa SS).heap 0 rfl T1)
 clear T1
 go_wp2
 refine Bl (results_tmp2 rfl _ _ _) rfl ?_
 exact⟨rfl,HP.To.end H (Aa SS) rfl⟩
theorem enSet_n (h:HP) (j:Nat) (q:OB) (k:KK) (v:VV) (r:VV) (P:HP->Bool->Value->Prop) (w:World) (H:h.Is w) (K:h.Ok) (hj:h.l[j]? =some q) (hf:h.fuel≠0) (hd:h.ent≠h.depth) (hC: ∀X,h.To h.inn w X->Calls prog 208 #[.agg #[], .pointer (some ⟨h.b,0,none⟩), .int .i64 ((j:Int)+1),k.agg,v.agg,r.agg] X fun e w'=> ∃(h1:HP) (y:Bool) (er:Value),e= .returned (.tuple #[.bool y,er])/\P h1 y er/\h1.ent=h.ent+1/\h.inn.To h1 X w'):Calls prog 45 #[.pointer (some ⟨h.b,0,none⟩), .int .i64 ((j:Int)+1),k.agg,v.agg,r.agg] w fun e w'=> ∃(h1:HP) (y:Bool) (er:Value),e= .returned (.tuple #[.bool y,er])/\P h1 y er/\h.To h1.out w w':=by
 have SS:=Ab H.start
 have HC:=Ab hC
 have hE0:0<=h.ent+1/\h.ent+1<=100000001:=by have:=K.e0;have:=K.e1;have:=K.d1;omega
 clear hC
 rw[Du,Dg,Dg] at HC ⊢
 go_enter_defers func45,ntmps45
 go_wp2_with (first|go_skip|((with_reducible show wpList ..);first|(refine zB 37 (k.cs) rfl rfl rfl SS ?_;clear SS;intro Xp0 Bp0 SS;simp only[nn])|(refine zB 40 (v.cs) rfl rfl rfl SS ?_;clear SS;intro Xp1 Bp1 SS;simp only[nn])|(refine zB 40 (r.cs) rfl rfl rfl SS ?_;clear SS;intro Xp2 Bp2 SS;simp only[nn])))
 refine(Kn h j q _ ((Aa SS).hp 0 rfl) K hj hf hd).mono ?_
 rintro _ Y1 ⟨rfl,T1⟩
 replace SS:=Ab ((Aa SS).heap 0 rfl T1)
 clear T1
 unfold Yx
 go_wp2_with (first|go_skip|((with_reducible show wpList ..);first|(refine zL (k.cs) 37 2 1 rwK szK rfl rfl SS rfl rfl rfl ?_;simp only[nn])|(refine zL (v.cs) 40 5 2 rwV szV rfl rfl SS rfl rfl rfl ?_;simp only[nn])|(refine zL (r.cs) 40 5 3 rwV szV rfl rfl SS rfl rfl rfl ?_;simp only[nn])))
 refine(Aa HC _ (HP.To.end H (Aa SS) rfl)).mono ?_
 rintro _ Y2 ⟨h1,y,er,rfl,hP,hen,T2⟩
 replace SS:=Ab ((Aa SS).heap 0 rfl T2)
 have hb1:h1.b=h.b:=T2.hb
 clear T2
 go_wp2
 refine leaves_cons (f:=95) (args:= #[.pointer (some ⟨h.b,0,none⟩)]) (by simp) (by simp[go_sem]) ?_
 have HL:=Kk h1 .returning _ ((Aa SS).hp 0 rfl) (by rw[hen];exact hE0)
 rw[hb1] at HL
 refine HL.mono ?_
 rintro e u2 w2 ⟨rfl,rfl,T3⟩
 replace SS:=Ab ((Aa SS).heap 0 rfl T3)
 exact⟨_,results_tmp2 rfl _ _ _,h1,y,er,rfl,hP,HP.To.end H (Aa SS) hb1⟩
theorem ZeE (h:HP) (j:Nat) (k:KK) (w:World) (H:h.Is w) (hf:h.fuel=0):Calls prog 124 #[.pointer (some ⟨h.b,0,none⟩), .int .i64 ((j:Int)+1),k.agg] w fun e w'=>e= .returned (.tuple #[.bool false,Ax 1])/\h.To h w w':=by
 have SS:=Ab H.start
 rw[Du]
 go_enter_defers func124,ntmps124
 go_wp2_with (first|go_skip|((with_reducible show wpList ..);(refine zB 37 (k.cs) rfl rfl rfl SS ?_;clear SS;intro Xp0 Bp0 SS;simp only[nn])))
 refine(Ks h _ _ ((Aa SS).hp 0 rfl) hf).mono ?_
 rintro _ _ ⟨rfl,rfl⟩
 go_wp2
 refine Bl (results_tmp2 rfl _ _ _) rfl ?_
 exact⟨rfl,HP.To.end H (Aa SS) rfl⟩
theorem ZeD (h:HP) (j:Nat) (k:KK) (w:World) (H:h.Is w) (K:h.Ok) (hf:h.fuel≠0) (hd:h.ent=h.depth):Calls prog 124 #[.pointer (some ⟨h.b,0,none⟩), .int .i64 ((j:Int)+1),k.agg] w fun e w'=>e= .returned (.tuple #[.bool false,Ax 2])/\h.To h.less w w':=by
 have SS:=Ab H.start
 rw[Du]
 go_enter_defers func124,ntmps124
 go_wp2_with (first|go_skip|((with_reducible show wpList ..);(refine zB 37 (k.cs) rfl rfl rfl SS ?_;clear SS;intro Xp0 Bp0 SS;simp only[nn])))
 refine(Ko h _ _ ((Aa SS).hp 0 rfl) K hf hd).mono ?_
 rintro _ Y1 ⟨rfl,T1⟩
 replace SS:=Ab ((Aa SS).heap 0 rfl T1)
 clear T1
 go_wp2
 refine Bl (results_tmp2 rfl _ _ _) rfl ?_
 exact⟨rfl,HP.To.end H (Aa SS) rfl⟩
theorem ZeC (h:HP) (j:Nat) (q:OB) (k:KK) (P:HP->Bool->Value->Prop) (w:World) (H:h.Is w) (K:h.Ok) (hj:h.l[j]? =some q) (hf:h.fuel≠0) (hd:h.ent≠h.depth) (hC: ∀X,h.To h.inn w X->Calls prog 200 #[.agg #[], .pointer (some ⟨h.b,0,none⟩), .int .i64 ((j:Int)+1),k.agg] X fun e w'=> ∃(h1:HP) (y:Bool) (er:Value),e= .returned (.tuple #[.bool y,er])/\P h1 y er/\h1.ent=h.ent+1/\h.inn.To h1 X w'):Calls prog 124 #[.pointer (some ⟨h.b,0,none⟩), .int .i64 ((j:Int)+1),k.agg] w fun e w'=> ∃(h1:HP) (y:Bool) (er:Value),e= .returned (.tuple #[.bool y,er])/\P h1 y er/\h.To h1.out w w':=by
 have SS:=Ab H.start
 have HC:=Ab hC
 have hE0:0<=h.ent+1/\h.ent+1<=100000001:=by have:=K.e0;have:=K.e1;have:=K.d1;omega
 clear hC
 rw[Du] at HC ⊢
 go_enter_defers func124,ntmps124
 go_wp2_with (first|go_skip|((with_reducible show wpList ..);(refine zB 37 (k.cs) rfl rfl rfl SS ?_;clear SS;intro Xp0 Bp0 SS;simp only[nn])))
 refine(Kn h j q _ ((Aa SS).hp 0 rfl) K hj hf hd).mono ?_
 rintro _ Y1 ⟨rfl,T1⟩
 replace SS:=Ab ((Aa SS).heap 0 rfl T1)
 clear T1
 unfold Yx
 go_wp2_with (first|go_skip|((with_reducible show wpList ..);(refine zL (k.cs) 37 2 1 rwK szK rfl rfl SS rfl rfl rfl ?_;simp only[nn])))
 refine(Aa HC _ (HP.To.end H (Aa SS) rfl)).mono ?_
 rintro _ Y2 ⟨h1,y,er,rfl,hP,hen,T2⟩
 replace SS:=Ab ((Aa SS).heap 0 rfl T2)
 have hb1:h1.b=h.b:=T2.hb
 clear T2
 go_wp2
 refine leaves_cons (f:=95) (args:= #[.pointer (some ⟨h.b,0,none⟩)]) (by simp) (by simp[go_sem]) ?_
 have HL:=Kk h1 .returning _ ((Aa SS).hp 0 rfl) (by rw[hen];exact hE0)
 rw[hb1] at HL
 refine HL.mono ?_
 rintro e u2 w2 ⟨rfl,rfl,T3⟩
 replace SS:=Ab ((Aa SS).heap 0 rfl T3)
 exact⟨_,results_tmp2 rfl _ _ _,h1,y,er,rfl,hP,HP.To.end H (Aa SS) hb1⟩
theorem Rl (h:HP) (j:Nat)  (w:World) (H:h.Is w) (hf:h.fuel=0):Calls prog 125 #[.pointer (some ⟨h.b,0,none⟩), .int .i64 ((j:Int)+1)] w fun e w'=>e= .returned (.tuple #[.slice none 0 0,Ax 1])/\h.To h w w':=by
 have SS:=Ab H.start
 go_enter_defers func125,ntmps125
 go_wp2_with fail
 refine(Ks h _ _ ((Aa SS).hp 0 rfl) hf).mono ?_
 rintro _ _ ⟨rfl,rfl⟩
 go_wp2
 refine Bl (results_tmp2 rfl _ _ _) rfl ?_
 exact⟨rfl,HP.To.end H (Aa SS) rfl⟩
theorem Rk (h:HP) (j:Nat)  (w:World) (H:h.Is w) (K:h.Ok) (hf:h.fuel≠0) (hd:h.ent=h.depth):Calls prog 125 #[.pointer (some ⟨h.b,0,none⟩), .int .i64 ((j:Int)+1)] w fun e w'=>e= .returned (.tuple #[.slice none 0 0,Ax 2])/\h.To h.less w w':=by
 have SS:=Ab H.start
 go_enter_defers func125,ntmps125
 go_wp2_with fail
 refine(Ko h _ _ ((Aa SS).hp 0 rfl) K hf hd).mono ?_
 rintro _ Y1 ⟨rfl,T1⟩
 replace SS:=Ab ((Aa SS).heap 0 rfl T1)
 clear T1
 go_wp2
 refine Bl (results_tmp2 rfl _ _ _) rfl ?_
 exact⟨rfl,HP.To.end H (Aa SS) rfl⟩
theorem Rj (h:HP) (j:Nat) (q:OB)  (P:HP->Value->Value->Prop) (w:World) (H:h.Is w) (K:h.Ok) (hj:h.l[j]? =some q) (hf:h.fuel≠0) (hd:h.ent≠h.depth) (hC: ∀X,h.To h.inn w X->Calls prog 206 #[.agg #[], .pointer (some ⟨h.b,0,none⟩), .int .i64 ((j:Int)+1)] X fun e w'=> ∃(h1:HP) (V:Value) (er:Value),e= .returned (.tuple #[V,er])/\P h1 V er/\h1.ent=h.ent+1/\h.inn.To h1 X w'):Calls prog 125 #[.pointer (some ⟨h.b,0,none⟩), .int .i64 ((j:Int)+1)] w fun e w'=> ∃(h1:HP) (V:Value) (er:Value),e= .returned (.tuple #[V,er])/\P h1 V er/\h.To h1.out w w':=by
 have SS:=Ab H.start
 have HC:=Ab hC
 have hE0:0<=h.ent+1/\h.ent+1<=100000001:=by have:=K.e0;have:=K.e1;have:=K.d1;omega
 clear hC
 go_enter_defers func125,ntmps125
 go_wp2_with fail
 refine(Kn h j q _ ((Aa SS).hp 0 rfl) K hj hf hd).mono ?_
 rintro _ Y1 ⟨rfl,T1⟩
 replace SS:=Ab ((Aa SS).heap 0 rfl T1)
 clear T1
 unfold Yx
 go_wp2_with fail
 refine(Aa HC _ (HP.To.end H (Aa SS) rfl)).mono ?_
 rintro _ Y2 ⟨h1,V,er,rfl,hP,hen,T2⟩
 replace SS:=Ab ((Aa SS).heap 0 rfl T2)
 have hb1:h1.b=h.b:=T2.hb
 clear T2
 go_wp2
 refine leaves_cons (f:=95) (args:= #[.pointer (some ⟨h.b,0,none⟩)]) (by simp) (by simp[go_sem]) ?_
 have HL:=Kk h1 .returning _ ((Aa SS).hp 0 rfl) (by rw[hen];exact hE0)
 rw[hb1] at HL
 refine HL.mono ?_
 rintro e u2 w2 ⟨rfl,rfl,T3⟩
 replace SS:=Ab ((Aa SS).heap 0 rfl T3)
 exact⟨_,results_tmp2 rfl _ _ _,h1,V,er,rfl,hP,HP.To.end H (Aa SS) hb1⟩
end
section
open Go Go.Proofs Go.Maps Go.RowKit FM
def pr (T:TT):List (KK×DD):=T.live.map RR.pr
def hasP (l:List (KK×DD)) (k:KK):Bool:=l.any (fun e=>decide (e.1=k))
def lkP (l:List (KK×DD)) (k:KK):Option DD:=(l.find? (fun e=>decide (e.1=k))).map (·.2)
def Oj (l:List (KK×DD)) (k:KK) (d:DD):List (KK×DD):=if hasP l k then l.map (fun e=>if e.1=k then (e.1,d) else e) else l++ [(k,d)]
def Un (l:List (KK×DD)) (k:KK):List (KK×DD):=l.filter (fun e=>decide (e.1≠k))
theorem pr_has (T:TT) (k:KK):hasP (pr T) k=(T.find k).isSome:=by
 unfold hasP pr TT.find
 rw[List.isSome_find?,List.any_map]
 rfl
theorem pr_lk (T:TT) (k:KK):lkP (pr T) k=(T.find k).map (·.d):=by
 unfold lkP pr TT.find
 rw[List.find?_map,Option.map_map]
 rfl
theorem pr_get (T:TT) (k:KK):getD T k=(lkP (pr T) k).getD zeroD:=by
 rw[pr_lk]
 rfl
theorem Zax (l:List (KK×DD)) (k:KK):(lkP l k).isSome=hasP l k:=by
 unfold lkP hasP
 rw[Option.isSome_map,List.isSome_find?]
theorem Zec {T T':TT} {k:KK} (hl:T'.live=T.live.filter (fun q=>decide (q.k≠k))):pr T'=Un (pr T) k:=by
 unfold pr Un
 rw[hl,List.filter_map]
 rfl
def PutT (T:TT) (k:KK) (d:DD) (T':TT):Prop:=(∃r,T.find k=some r/\T'=T.upd r.b d)∨(T.find k=none/\goodK k=true/\ ∃rv R,T'=T.added rv R k d)∨(T.find k=none/\goodK k=false/\T'=T)
theorem PutT.last {T T':TT} {k:KK} {d:DD} (h:PutT T k d T'):T'.last<=T.last+1:=by
 rcases h with ⟨r,h1,rfl⟩|⟨h1,h2,rv,B,rfl⟩|⟨h1,h2,rfl⟩
 ·exact Nat.le_succ _
 ·exact Nat.le_refl _
 ·exact Nat.le_succ _
theorem pr_put {T T':TT} {W:World} {k:KK} {d:DD} (hT:T.Is W) (hg:goodK k=true) (h:PutT T k d T'):pr T'=Oj (pr T) k d:=by
 unfold Oj
 rw[pr_has]
 rcases h with ⟨r,h1,rfl⟩|⟨h1,h2,rv,R,rfl⟩|⟨h1,h2,rfl⟩
 ·rw[h1,if_pos (show (some r).isSome=true from rfl)]
  have hrl:r∈T.live:=List.mem_of_find?_eq_some h1
  have hrk:r.k=k:=(TT.find_mem h1).2.2
  unfold pr
  rw[TT.upd_live,List.map_map,List.map_map]
  apply List.map_congr_left
  intro q hq
  have e:=ZbW hT hrl hq
  show RR.pr (Rt r.b d q)=if (RR.pr q).1=k then ((RR.pr q).1,d) else RR.pr q
  unfold Rt
  by_cases hb:q.b=r.b
  ·rw[if_pos hb,if_pos (show (RR.pr q).1=k from (e.1 hb).trans hrk)]
   rfl
  ·rw[if_neg hb,if_neg (show ¬(RR.pr q).1=k from fun h=>hb (e.2 (Eq.trans h hrk.symm)))]
 ·rw[h1,if_neg (show ¬((none:Option RR).isSome=true) by simp)]
  unfold pr
  rw[TT.added_live,List.map_append]
  rfl
 ·rw[hg] at h2
  cases h2
structure PO where
 c:Int
 p:VV
 x:Bool
 ps:List (KK×DD)
def OB.po (o:OB):PO:=⟨o.c,o.p,o.x,pr o.T⟩
def HP.abs (h:HP):List PO:=h.l.map OB.po
theorem abs_at {h:HP} {j:Nat} {q:OB} (hj:h.l[j]? =some q):h.abs[j]? =some q.po:=by
 unfold HP.abs
 rw[List.getElem?_map,hj]
 rfl
theorem abs_set (h:HP) (j:Nat) (q:OB):({h with l:=h.l.set j q}:HP).abs=h.abs.set j q.po:=by
 unfold HP.abs
 rw[List.map_set]
def Tabs (w:World):Prop:=Lib.Utf8Tabs 1 2 w/\TabQ w
theorem Tabs.on {w X:World} (h:Tabs w) (k:Below w.heap.size w X):Tabs X:=⟨Ao h.1 k,h.2.on k⟩
theorem Tabs.fr {w X:World} {E:List Nat} (h:Tabs w) (hf:Fr w X E) (hE: ∀b∈E,6<=b):Tabs X:=by
 refine⟨Zb2 h.1 hf (fun b hb=>by have:=hE b hb;omega), ?_⟩
 obtain⟨T,hl,h2⟩:=h.2
 refine⟨T,hl, ?_⟩
 unfold Lib.TabIs World.var? at *
 have hg : Tryz.prog.globalNamed "internal/strconv.uint64pow10" = some 3 := by kernel_rfl
 simp only[hg,Option.bind_some] at h2 ⊢
 have hlt:3<w.heap.size:=by
  rcases Nat.lt_or_ge 3 w.heap.size with h'|h'
  ·exact h'
  ·rw[Array.getElem?_eq_none h'] at h2;simp at h2
 rw[hf.block 3 hlt (fun hm=>by have:=hE 3 hm;omega)]
 exact h2
theorem HP.To.tabs {h h':HP} {w X:World} (A:h.To h' w X) (H:h.Is w) (hT:Tabs w):Tabs X:=hT.fr A.fr H.low
theorem Vv (h:HP):h.abs.length=h.l.length:=List.length_map _
end
section
open Go Go.Proofs Go.Maps Go.RowKit FM
attribute [local go_sem] Al Ak Ar Ah Am Ai Au Dd Db Bi Aj Bh
theorem Lu (h:HP) (j:Nat) (q:OB) (k:KK) (w:World) (H:h.Is w) (hl:h.l.length<=65536) (hj:h.l[j]? =some q) (hk:OkK k):Calls Tryz.prog 210 #[.pointer (some ⟨h.b,0,none⟩), .int .i64 ((j:Int)+1),k.agg] w fun e w'=>e= .returned (.tuple #[(getD q.T k).agg, .bool (q.T.find k).isSome, .nilIface])/\Below w.heap.size w w':=by
 have SS:=Ab (Sy.nil w [])
 rw[Du]
 go_enter Tryz.func210,Tryz.ntmps210
 go_wp2_with (first|go_skip|((with_reducible show wpList ..);first|(refine zB 37 (k.cs) rfl rfl rfl SS ?_;clear SS;intro Xa Ba SS;simp only[nn])|(refine zA 43 (zeroD.cs) rfl SS ?_;clear SS;intro Xb Bb SS;simp only[nn])))
 have hS:Sy w _ [] [Av Ba k.cs,Av Bb zeroD.cs]:=(Aa SS).drew
 clear SS
 have cu: ∀{X:World} {M:List Ob},Sy w X [] ([Av Ba k.cs]++M)->Sy w X [] [Av Ba k.cs]:=fun h=>Sy.left h
 refine wp_region_held_drew (P:=Tryz.prog) (S:=fun X=>Sy w X [] [Av Ba k.cs]) (by kernel_rfl) (cu hS) (fun hS0=> ?_)
 refine gp 0 (some 9) (.pointer (some ⟨h.b,0,none⟩)) rfl rfl (cu hS) ?_
 refine gp 1 (some 10) (.int .i64 ((j:Int)+1)) rfl rfl (cu hS) ?_
 refine gp 6 (some 15) (.pointer (some ⟨h.b,0,none⟩)) rfl rfl (cu hS) ?_
 refine gp 7 (some 16) (.int .i64 ((j:Int)+1)) rfl rfl (cu hS) ?_
 refine gq 8 (some 17) (.agg k.cs.toArray) rfl rfl (fun X hX=>Af (vs:=k.cs) 37 2 rwK szK rfl rfl (hX.hold 0 rfl) rfl rfl) (cu hS) ?_
 refine gr (rs:= [2]) (gcW 2 (some 11) rfl rfl (cu hS) (Kv h j q _ (H.on hS.fr.below) hj hl) ?_ gn)
 refine gp 3 (some 12) (.pointer (some ⟨q.b,0,none⟩)) rfl rfl (cu hS) ?_
 refine gp 4 (some 13) (.pointer (some ⟨q.b,8,none⟩)) rfl rfl (cu hS) ?_
 refine gq 5 (some 14) (.iface 109 (.agg #[])) rfl rfl (fun X hX=>Ad 153 Tryz.isAgg153 rfl rfl ((H.on hX.fr.below).ob hj).1 rfl) (cu hS) ?_
 refine gr (rs:= [9]) (gcB 9 (some 18) rfl rfl hS (Ze9 h j q k _ (H.on hS.fr.below) hl hj hk) (fun x=>cu x) ?_ gn)
 intro Y2 hq2
 refine gp 10 (some 19) ((getD q.T k).agg) rfl rfl (cu hq2) ?_
 refine gp 11 (some 20) (.bool (q.T.find k).isSome) rfl rfl (cu hq2) ?_
 refine gp 12 (some 21) (.nilIface) rfl rfl (cu hq2) ?_
 refine gr (rs:= [13]) (Xt (vs:=(getD q.T k).cs) (new:=(getD q.T k).cs) 13 1 43 rfl rfl rfl rfl rfl rfl (Ez _) szD hq2 rfl (by simp[Bt,VV.cs,KK.cs,DD.cs,OB.cs,hcs,zeroD,Aq]) (by simp[Bt,VV.cs,KK.cs,DD.cs,OB.cs,hcs,zeroD,Aq]) (fun _ hZ=>cu hZ) ?_ gn)
 intro Y3 hq3
 refine gp 14 (some 7) (.bool (q.T.find k).isSome) rfl rfl (cu hq3) ?_
 refine gp 15 (some 8) (.nilIface) rfl rfl (cu hq3) ?_
 refine dn ?_
 try simp only[nn]
 have SS:=Ab hq3
 go_wp2
 refine bodyPost_ret (Lw rwD szD rfl rfl rfl rfl ((Aa SS).hold 1 rfl) rfl) rfl ?_
 exact⟨rfl,(Aa SS).fr.below⟩
end
section
open Go Go.Proofs Go.Maps Go.RowKit FM Tryz
attribute [local go_sem] Al Ak Ar Ah Am Ai Au Dd Db Bi Aj Bh
theorem Zf7 (h:HP) (j:Nat) (q:OB) (w:World) (H:h.Is w) (hl:h.l.length<=65536) (hj:h.l[j]? =some q):Calls prog 203 #[.agg #[], .pointer (some ⟨h.b,0,none⟩), .int .i64 ((j:Int)+1)] w fun e w'=>e= .returned (.tuple #[q.p.agg, .nilIface])/\Below w.heap.size w w':=by
 have SS:=Ab (Sy.nil w [])
 go_enter func203,ntmps203
 go_wp2_with (first|go_skip|((with_reducible show wpList ..);first|((refine bx0 109 rfl rfl (Aa SS) ?_);intro X0 B0 S0;replace SS:=Ab S0;clear S0;simp only[nn])|(refine zA 40 (Aq.cs) rfl SS ?_;clear SS;intro Xc Bc SS;simp only[nn])))
 refine(Kv h j q _ (H.on (Aa SS).fr.below) hj hl).mono ?_
 rintro _ _ ⟨rfl,rfl⟩
 have HO:=Ab ((H.on (Aa SS).fr.below).ob hj).1
 go_wp2_with (first|go_skip|((with_reducible show wpList ..);first|(refine rd rfl (Af (vs:=q.p.cs) 40 5 rwV szV rfl rfl (Aa HO) rfl rfl) ?_)|(refine zS (q.p.cs) 0 40 rfl rfl rfl rfl (Gh _) szV SS rfl ?_;clear SS;intro Xz SS;simp only[nn])))
 refine bodyPost_ret (Gx rwV szV rfl rfl rfl ((Aa SS).hold 0 rfl) rfl) rfl ?_
 exact⟨rfl,(Aa SS).fr.below⟩
theorem ord_ext (h:HP) (j:Nat) (q:OB) (w:World) (H:h.Is w) (hl:h.l.length<=65536) (hj:h.l[j]? =some q):Calls prog 205 #[.agg #[], .pointer (some ⟨h.b,0,none⟩), .int .i64 ((j:Int)+1)] w fun e w'=>e= .returned (.tuple #[.bool q.x, .nilIface])/\Below w.heap.size w w':=by
 have SS:=Ab (Sy.nil w [])
 go_enter func205,ntmps205
 go_wp2_with (first|go_skip|((with_reducible show wpList ..);((refine bx0 109 rfl rfl (Aa SS) ?_);intro X0 B0 S0;replace SS:=Ab S0;clear S0;simp only[nn])))
 refine(Kv h j q _ (H.on (Aa SS).fr.below) hj hl).mono ?_
 rintro _ _ ⟨rfl,rfl⟩
 have HO:=Ab ((H.on (Aa SS).fr.below).ob hj).1
 go_wp2_with (first|go_skip|((with_reducible show wpList ..);(refine rd rfl (Ad 4 isAgg4 rfl rfl (Aa HO) rfl) ?_)))
 go_ret2
 exact⟨rfl,(Aa SS).fr.below⟩
theorem ord_keys (h:HP) (j:Nat) (q:OB) (w:World) (H:h.Is w) (hl:h.l.length<=65536) (hj:h.l[j]? =some q) (hT:Tabs w) (hlast:q.T.last<4000000) (hlv:q.T.live.length<=1500000):Calls prog 206 #[.agg #[], .pointer (some ⟨h.b,0,none⟩), .int .i64 ((j:Int)+1)] w fun e w'=> ∃v l9,e= .returned (.tuple #[v, .nilIface])/\OwnK w' w.heap.size v l9/\Below w.heap.size w w':=by
 have SS:=Ab (Sy.nil w [])
 go_enter func206,ntmps206
 go_wp2_with (first|go_skip|((with_reducible show wpList ..);((refine bx0 109 rfl rfl (Aa SS) ?_);intro X0 B0 S0;replace SS:=Ab S0;clear S0;simp only[nn])))
 refine(Kv h j q _ (H.on (Aa SS).fr.below) hj hl).mono ?_
 rintro _ _ ⟨rfl,rfl⟩
 have HI:=(H.on (Aa SS).fr.below).ob hj
 have HO:=Ab HI.1
 go_wp2_with (first|go_skip|((with_reducible show wpList ..);(refine rd rfl (Ad 151 isAgg151 rfl rfl (Aa HO) rfl) ?_)))
 have hb:=(Aa SS).fr.below
 refine(keysW q.T _ HI.2.1 hlast hlv (hT.on hb).1 (hT.on hb).2).mono ?_
 rintro _ Y ⟨v,l9,rfl,hO,hbY⟩
 have HF:=Ab (And.intro hO hbY)
 clear hO hbY
 go_wp2
 go_ret2
 refine⟨v,l9,rfl, ?_,hb.trans ((Aa HF).2.mono hb.size)⟩
 exact Np (Aa HF).1 hb.size
def HP.shut (h:HP) (j:Nat) (q:OB):HP:={h with l:=h.l.set j {q with x:=false}}
theorem Zde (h:HP) (j:Nat) (q:OB) (w:World) (H:h.Is w) (hl:h.l.length<=65536) (hj:h.l[j]? =some q):Calls prog 207 #[.agg #[], .pointer (some ⟨h.b,0,none⟩), .int .i64 ((j:Int)+1)] w fun e w'=>e= .returned (.tuple #[.bool true, .nilIface])/\h.To (h.shut j q) w w':=by
 have SS:=Ab H.start
 go_enter func207,ntmps207
 go_wp2_with (first|go_skip|((with_reducible show wpList ..);((refine bx0 109 rfl rfl (Aa SS) ?_);intro X0 B0 S0;replace SS:=Ab S0;clear S0;simp only[nn])))
 refine(Kv h j q _ ((Aa SS).hp 0 rfl) hj hl).mono ?_
 rintro _ _ ⟨rfl,rfl⟩
 go_wp2_with (first|go_skip|((with_reducible show wpList ..);((refine stO (p:=6) (vs:= [.bool false]) (h.shut j q) (j:=j) (q:=q) (q':={q with x:=false}) 0 4 rfl rfl rfl rfl (by simp[Value.oneCell']) sz_b (Aa SS) rfl hj (by simp) rfl rfl rfl rfl rfl (by simp[Bt,OB.cs,VV.cs]) ?_);intro X1 S1;replace SS:=Ab S1;clear S1;simp only[nn])))
 go_ret2
 exact⟨rfl,HP.To.end H (Aa SS) rfl⟩
def HP.tab (h:HP) (j:Nat) (q:OB) (T':TT):HP:={h with l:=h.l.set j {q with T:=T'}}
def DelP (h:HP) (j:Nat) (q:OB) (k:KK) (h1:HP) (y:Bool):Prop:=(q.T.find k=none/\h1=h/\y=true)∨((q.T.find k).isSome=true/\(getD q.T k).c=1/\h1=h/\y=false)∨((q.T.find k).isSome=true/\(getD q.T k).c≠1/\y=true/\ ∃T':TT,h1=h.tab j q T'/\T'.last=q.T.last/\pr T'=Un (pr q.T) k)
theorem ZcC {o:Oper} {a:Act} {w:World} {x y:Operand} {n m:Int} (ho:o.op= .binOp .eql 41 x y 41) (hx:a.eval x= .int .i64 n) (hc:a.eval y= .int .i64 m) (h:n=m):(execOp a.eval o).run prog w= .ok (.value (.bool true)) w:=by
 unfold execOp
 simp only[ho,hx,hc]
 simp[go_sem,eqGuard,h]
theorem Rf {o:Oper} {a:Act} {w:World} {x y:Operand} {n m:Int} (ho:o.op= .binOp .eql 41 x y 41) (hx:a.eval x= .int .i64 n) (hc:a.eval y= .int .i64 m) (h:n≠m):(execOp a.eval o).run prog w= .ok (.value (.bool false)) w:=by
 unfold execOp
 simp only[ho,hx,hc]
 simp[go_sem,eqGuard,h]
theorem Zeg (h:HP) (j:Nat) (q:OB) (k:KK) (w:World) (H:h.Is w) (hl:h.l.length<=65536) (hj:h.l[j]? =some q) (hk:OkK k) (hlast:q.T.last<100000):Calls prog 200 #[.agg #[], .pointer (some ⟨h.b,0,none⟩), .int .i64 ((j:Int)+1),k.agg] w fun e w'=> ∃(h1:HP) (y:Bool),e= .returned (.tuple #[.bool y, .nilIface])/\DelP h j q k h1 y/\h.To h1 w w':=by
 have hC:Hid (OkK k):=Ab hk
 cases hfi:q.T.find k with
 |none=>
  have SS:=Ab H.start
  rw[Du]
  go_enter func200,ntmps200
  go_wp2_with (first|go_skip|((with_reducible show wpList ..);first|((refine bx0 109 rfl rfl (Aa SS) ?_);intro X0 B0 S0;replace SS:=Ab S0;clear S0;simp only[nn])|(refine zB 37 (k.cs) rfl rfl rfl SS ?_;clear SS;intro Xa Ba SS;simp only[nn])|(refine zL (k.cs) 37 2 1 rwK szK rfl rfl SS rfl rfl rfl ?_;simp only[nn])))
  have T0:h.To h w _:=HP.To.end H (Aa SS) rfl
  refine(Lu h j q k _ ((Aa SS).hp 0 rfl) hl hj hk).mono ?_
  rintro _ Y1 ⟨rfl,hb1⟩
  replace SS:=Ab ((Aa SS).on hb1)
  clear hb1 T0
  rw[hfi]
  go_wp2_with (first|go_skip|((with_reducible show wpList ..);first|(refine zA 43 (zeroD.cs) rfl SS ?_;clear SS;intro Xb Bb SS;simp only[nn])|(refine zS ((getD q.T k).cs) 2 43 rfl rfl rfl rfl (Ez _) szD SS rfl ?_;clear SS;intro Xz SS;simp only[nn])))
  go_ret2
  exact⟨h,true,rfl, .inl ⟨hfi,rfl,rfl⟩,HP.To.end H (Aa SS) rfl⟩
 |some r=>
  by_cases hc:(getD q.T k).c=1
  ·have SS:=Ab H.start
   rw[Du]
   go_enter func200,ntmps200
   go_wp2_with (first|go_skip|((with_reducible show wpList ..);first|((refine bx0 109 rfl rfl (Aa SS) ?_);intro X0 B0 S0;replace SS:=Ab S0;clear S0;simp only[nn])|(refine zB 37 (k.cs) rfl rfl rfl SS ?_;clear SS;intro Xa Ba SS;simp only[nn])|(refine zL (k.cs) 37 2 1 rwK szK rfl rfl SS rfl rfl rfl ?_;simp only[nn])))
   have T0:h.To h w _:=HP.To.end H (Aa SS) rfl
   refine(Lu h j q k _ ((Aa SS).hp 0 rfl) hl hj hk).mono ?_
   rintro _ Y1 ⟨rfl,hb1⟩
   replace SS:=Ab ((Aa SS).on hb1)
   clear hb1 T0
   rw[hfi]
   go_wp2_with (first|go_skip|((with_reducible show wpList ..);first|(refine zA 43 (zeroD.cs) rfl SS ?_;clear SS;intro Xb Bb SS;simp only[nn])|(refine zS ((getD q.T k).cs) 2 43 rfl rfl rfl rfl (Ez _) szD SS rfl ?_;clear SS;intro Xz SS;simp only[nn])|(refine rd rfl (Ad 41 isAgg41 rfl rfl ((Aa SS).hold 2 rfl) rfl) ?_)|(refine rd rfl (ZcC rfl rfl rfl hc) ?_)))
   go_ret2
   exact⟨h,false,rfl, .inr (.inl ⟨by rw[hfi];rfl,hc,rfl,rfl⟩),HP.To.end H (Aa SS) rfl⟩
  ·have SS:=Ab H.start
   rw[Du]
   go_enter func200,ntmps200
   go_wp2_with (first|go_skip|((with_reducible show wpList ..);first|((refine bx0 109 rfl rfl (Aa SS) ?_);intro X0 B0 S0;replace SS:=Ab S0;clear S0;simp only[nn])|(refine zB 37 (k.cs) rfl rfl rfl SS ?_;clear SS;intro Xa Ba SS;simp only[nn])|(refine zL (k.cs) 37 2 1 rwK szK rfl rfl SS rfl rfl rfl ?_;simp only[nn])))
   have T0:h.To h w _:=HP.To.end H (Aa SS) rfl
   refine(Lu h j q k _ ((Aa SS).hp 0 rfl) hl hj hk).mono ?_
   rintro _ Y1 ⟨rfl,hb1⟩
   replace SS:=Ab ((Aa SS).on hb1)
   clear hb1 T0
   rw[hfi]
   go_wp2_with (first|go_skip|((with_reducible show wpList ..);first|(refine zA 43 (zeroD.cs) rfl SS ?_;clear SS;intro Xb Bb SS;simp only[nn])|(refine zS ((getD q.T k).cs) 2 43 rfl rfl rfl rfl (Ez _) szD SS rfl ?_;clear SS;intro Xz SS;simp only[nn])|(refine rd rfl (Ad 41 isAgg41 rfl rfl ((Aa SS).hold 2 rfl) rfl) ?_)|(refine rd rfl (Rf rfl rfl rfl hc) ?_)))
   have hS:Sy w _ h.blocks [hpO h,Av Ba k.cs,Av Bb (Bt zeroD.cs 0 (getD q.T k).cs)]:=(Aa SS).drew
   clear SS
   refine wp_region_held_drew (P:=prog) (S:=fun _=>True) (by kernel_rfl) (trivial) (fun hS0=> ?_)
   refine gp 0 (some 29) (.pointer (some ⟨h.b,0,none⟩)) rfl rfl (trivial) ?_
   refine gp 1 (some 30) (.int .i64 ((j:Int)+1)) rfl rfl (trivial) ?_
   refine gr (rs:= [2,6]) (gc 2 (some 31) rfl rfl (Kv h j q _ (hS.hp 0 rfl) hj hl) ?_ (gv 6 (some 35) rfl rfl (Af (vs:=k.cs) 37 2 rwK szK rfl rfl (hS.hold 1 rfl) rfl rfl) (trivial) ?_ gn))
   ·rintro e Y1 ⟨rfl,rfl⟩
    refine⟨_,rfl,trivial, ?_⟩
    refine gp 3 (some 32) (.pointer (some ⟨q.b,0,none⟩)) rfl rfl (trivial) ?_
    refine gp 4 (some 33) (.pointer (some ⟨q.b,7,none⟩)) rfl rfl (trivial) ?_
    refine gr (rs:= [5,6]) (gv 5 (some 34) rfl rfl (Ad 151 isAgg151 rfl rfl ((hS.hp 0 rfl).ob hj).1 rfl) (trivial) ?_ (gv 6 (some 35) rfl rfl (Af (vs:=k.cs) 37 2 rwK szK rfl rfl (hS.hold 1 rfl) rfl rfl) (trivial) ?_ gn))
    ·simp only[nn]
     refine gr (rs:= [6]) (gv 6 (some 35) rfl rfl (Af (vs:=k.cs) 37 2 rwK szK rfl rfl (hS.hold 1 rfl) rfl rfl) (trivial) ?_ gn)
     simp only[nn]
     refine gr (rs:= [7]) (gc 7 (some 36) rfl rfl (ZaY q.T k _ ((hS.hp 0 rfl).ob hj).2.1 hk hlast) ?_ gn)
     rintro e Y4 ⟨rfl,T',hT4,ht4,hla4,hf4,hs4,hlv4⟩
     have hq4:=Sy.heap hS 0 rfl ((hS.hp 0 rfl).table hj hT4 ht4 hf4 hs4)
     refine⟨_,rfl,trivial, ?_⟩
     refine dn ?_
     try simp only[nn]
     have SS:=Ab hq4
     have HP_:=Ab (And.intro hla4 hlv4)
     clear hla4 hlv4
     go_wp2
     go_ret2
     exact⟨h.tab j q T',true,rfl, .inr (.inr ⟨by rw[hfi];rfl,hc,rfl,T',rfl,(Aa HP_).1,Zec (Aa HP_).2⟩),HP.To.end H (Aa SS) rfl⟩
    ·simp only[nn]
     refine gr (rs:= [5]) (gv 5 (some 34) rfl rfl (Ad 151 isAgg151 rfl rfl ((hS.hp 0 rfl).ob hj).1 rfl) (trivial) ?_ gn)
     simp only[nn]
     refine gr (rs:= [7]) (gc 7 (some 36) rfl rfl (ZaY q.T k _ ((hS.hp 0 rfl).ob hj).2.1 hk hlast) ?_ gn)
     rintro e Y7 ⟨rfl,T',hT7,ht7,hla7,hf7,hs7,hlv7⟩
     have hq7:=Sy.heap hS 0 rfl ((hS.hp 0 rfl).table hj hT7 ht7 hf7 hs7)
     refine⟨_,rfl,trivial, ?_⟩
     refine dn ?_
     try simp only[nn]
     have SS:=Ab hq7
     have HP_:=Ab (And.intro hla7 hlv7)
     clear hla7 hlv7
     go_wp2
     go_ret2
     exact⟨h.tab j q T',true,rfl, .inr (.inr ⟨by rw[hfi];rfl,hc,rfl,T',rfl,(Aa HP_).1,Zec (Aa HP_).2⟩),HP.To.end H (Aa SS) rfl⟩
   ·simp only[nn]
    refine gr (rs:= [2]) (gc 2 (some 31) rfl rfl (Kv h j q _ (hS.hp 0 rfl) hj hl) ?_ gn)
    rintro e Y9 ⟨rfl,rfl⟩
    refine⟨_,rfl,trivial, ?_⟩
    refine gp 3 (some 32) (.pointer (some ⟨q.b,0,none⟩)) rfl rfl (trivial) ?_
    refine gp 4 (some 33) (.pointer (some ⟨q.b,7,none⟩)) rfl rfl (trivial) ?_
    refine gr (rs:= [5]) (gv 5 (some 34) rfl rfl (Ad 151 isAgg151 rfl rfl ((hS.hp 0 rfl).ob hj).1 rfl) (trivial) ?_ gn)
    simp only[nn]
    refine gr (rs:= [7]) (gc 7 (some 36) rfl rfl (ZaY q.T k _ ((hS.hp 0 rfl).ob hj).2.1 hk hlast) ?_ gn)
    rintro e Y11 ⟨rfl,T',hT11,ht11,hla11,hf11,hs11,hlv11⟩
    have hq11:=Sy.heap hS 0 rfl ((hS.hp 0 rfl).table hj hT11 ht11 hf11 hs11)
    refine⟨_,rfl,trivial, ?_⟩
    refine dn ?_
    try simp only[nn]
    have SS:=Ab hq11
    have HP_:=Ab (And.intro hla11 hlv11)
    clear hla11 hlv11
    go_wp2
    go_ret2
    exact⟨h.tab j q T',true,rfl, .inr (.inr ⟨by rw[hfi];rfl,hc,rfl,T',rfl,(Aa HP_).1,Zec (Aa HP_).2⟩),HP.To.end H (Aa SS) rfl⟩
