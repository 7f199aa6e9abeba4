import Derived.Test.YtfnohipnenkhoaaGreatDoorQs
set_option linter.all false
namespace Go.Proofs.YtfnohipnenkhoaaGreatDoor
set_option maxRecDepth 100000
set_option maxHeartbeats 0
section
open Go Go.Proofs Go.Maps Go.RowKit FM Tryz
attribute [local go_sem] Am Al Ar Ah Ao Ai Aw Do Dn Bq Aj Bo
theorem Kx (h:HP):h.inn.out=h.less:=by
 unfold HP.inn HP.out HP.less
 simp
def Bs (c:Int):Value:= .iface 28 (.int .i64 c)
theorem Da {P:Program} {fn:Func} {R:Ending->World->Prop} {a:Act} {w:World} {v:Value} (hr:(results fn a.tmps).run P w= .ok v w) (hd:a.defers= []) (h:R (.returned v) w):bodyPostD P fn R .ret a w:=by
 show Leaves P fn a.tmps R a.defers .returning w
 rw[hd]
 exact⟨v,hr,h⟩
theorem Uy {o:Oper} {a:Act} {w:World} (ho:o.op= .build 39 #[]):(execOp a.eval o).run prog w= .ok (.value (.agg Ak.cs.toArray)) w:=by
 have e:(Instr.build 39 #[]).run prog w= .ok (.agg Ak.cs.toArray) w:=by kernel_rfl
 unfold execOp
 simp only[ho]
 simp[e]
theorem Od {o:Oper} {a:Act} {w:World} (ho:o.op= .build 36 #[]):(execOp a.eval o).run prog w= .ok (.value (.agg Av.cs.toArray)) w:=by
 have e:(Instr.build 36 #[]).run prog w= .ok (.agg Av.cs.toArray) w:=by kernel_rfl
 unfold execOp
 simp only[ho]
 simp[e]
theorem Rw (h:HP) (j:Nat)  (w:World) (H:h.Is w) (hf:h.fuel=0):Calls prog 82 #[.pointer (some ⟨h.b,0,none⟩), .int .i64 ((j:Int)+1)] w fun e w'=>e= .returned (.tuple #[Av.agg,Bs 1])/\h.To h w w':=by
 have SS:=Ab H.start
 go_enter_defers func82,ntmps82
 go_wp2_with (first|go_skip|((with_reducible show wpList ..);(refine zA 36 (Av.cs) (by rfl) rfl SS ?_;clear SS;intro Xc Bc SS;simp only[nn])))
 refine(Ll h _ _ ((Aa SS).hp 0 rfl) hf).mono ?_
 rintro _ _ ⟨rfl,rfl⟩
 go_wp2_with (first|go_skip|((with_reducible show wpList ..);first|(refine rd rfl (Od rfl) ?_)|(refine zS (Av.cs) 1 36 (by rfl) rfl rfl rfl rfl (Em _) szV SS rfl ?_;clear SS;intro Xz SS;simp only[nn])))
 refine Da (Gr rwV szV rfl rfl rfl ((Aa SS).hold 1 rfl) rfl) rfl ?_
 exact⟨rfl,HP.To.end H (Aa SS) rfl⟩
theorem Rv (h:HP) (j:Nat)  (w:World) (H:h.Is w) (K:h.Ok) (hf:h.fuel≠0) (hd:h.ent=h.depth):Calls prog 82 #[.pointer (some ⟨h.b,0,none⟩), .int .i64 ((j:Int)+1)] w fun e w'=>e= .returned (.tuple #[Av.agg,Bs 2])/\h.To h.less w w':=by
 have SS:=Ab H.start
 go_enter_defers func82,ntmps82
 go_wp2_with (first|go_skip|((with_reducible show wpList ..);(refine zA 36 (Av.cs) (by rfl) rfl SS ?_;clear SS;intro Xc Bc SS;simp only[nn])))
 refine(Lk h _ _ ((Aa SS).hp 0 rfl) K hf hd).mono ?_
 rintro _ Y1 ⟨rfl,T1⟩
 replace SS:=Ab ((Aa SS).heap 0 rfl T1)
 clear T1
 go_wp2_with (first|go_skip|((with_reducible show wpList ..);first|(refine rd rfl (Od rfl) ?_)|(refine zS (Av.cs) 1 36 (by rfl) rfl rfl rfl rfl (Em _) szV SS rfl ?_;clear SS;intro Xz SS;simp only[nn])))
 refine Da (Gr rwV szV rfl rfl rfl ((Aa SS).hold 1 rfl) rfl) rfl ?_
 exact⟨rfl,HP.To.end H (Aa SS) rfl⟩
theorem Ru (h:HP) (j:Nat) (q:OB)  (P:HP->VV->Value->Prop) (w:World) (H:h.Is w) (K:h.Ok) (hj:h.l[j]? =some q) (hf:h.fuel≠0) (hd:h.ent≠h.depth) (hC: ∀X,h.To h.inn w X->Calls prog 156 #[.agg #[], .pointer (some ⟨h.b,0,none⟩), .int .i64 ((j:Int)+1)] X fun e w'=> ∃(h1:HP) (V:VV) (er:Value),e= .returned (.tuple #[V.agg,er])/\P h1 V er/\h1.ent=h.ent+1/\h.inn.To h1 X w'):Calls prog 82 #[.pointer (some ⟨h.b,0,none⟩), .int .i64 ((j:Int)+1)] w fun e w'=> ∃(h1:HP) (V:VV) (er:Value),e= .returned (.tuple #[V.agg,er])/\P h1 V er/\h.To h1.out w w':=by
 have SS:=Ab H.start
 have HC:=Ab hC
 have hE0:0<=h.ent+1/\h.ent+1<=100000001:=by have:=K.e0;have:=K.e1;have:=K.d1;omega
 clear hC
 go_enter_defers func82,ntmps82
 go_wp2_with (first|go_skip|((with_reducible show wpList ..);(refine zA 36 (Av.cs) (by rfl) rfl SS ?_;clear SS;intro Xc Bc SS;simp only[nn])))
 refine(Lc h j q _ ((Aa SS).hp 0 rfl) K hj hf hd).mono ?_
 rintro _ Y1 ⟨rfl,T1⟩
 replace SS:=Ab ((Aa SS).heap 0 rfl T1)
 clear T1
 unfold Yn
 go_wp2_with fail
 refine(Aa HC _ (HP.To.end H (Aa SS) rfl)).mono ?_
 rintro _ Y2 ⟨h1,V,er,rfl,hP,hen,T2⟩
 replace SS:=Ab ((Aa SS).heap 0 rfl T2)
 have hb1:h1.b=h.b:=T2.hb
 clear T2
 go_wp2_with (first|go_skip|((with_reducible show wpList ..);(refine zS (V.cs) 1 36 (by rfl) rfl rfl rfl rfl (Em _) szV SS rfl ?_;clear SS;intro Xz SS;simp only[nn])))
 refine leaves_cons (f:=57) (args:= #[.pointer (some ⟨h.b,0,none⟩)]) (by simp) (by simp[go_sem]) ?_
 have HL:=Kw h1 .returning _ ((Aa SS).hp 0 rfl) (by rw[hen];exact hE0)
 rw[hb1] at HL
 refine HL.mono ?_
 rintro e u2 w2 ⟨rfl,rfl,T3⟩
 replace SS:=Ab ((Aa SS).heap 0 rfl T3)
 exact⟨_,Gr rwV szV rfl rfl rfl ((Aa SS).hold 1 rfl) rfl,h1,V,er,rfl,hP,HP.To.end H (Aa SS) hb1⟩
theorem Rt (h:HP) (j:Nat) (v:VV) (w:World) (H:h.Is w) (hf:h.fuel=0):Calls prog 83 #[.pointer (some ⟨h.b,0,none⟩), .int .i64 ((j:Int)+1),v.agg] w fun e w'=>e= .returned (.tuple #[.bool false,Bs 1])/\h.To h w w':=by
 have SS:=Ab H.start
 rw[Db]
 go_enter_defers func83,ntmps83
 go_wp2_with (first|go_skip|((with_reducible show wpList ..);(refine zB 36 (v.cs) (by rfl) rfl rfl rfl SS ?_;clear SS;intro Xp0 Bp0 SS;simp only[nn])))
 refine(Ll h _ _ ((Aa SS).hp 0 rfl) hf).mono ?_
 rintro _ _ ⟨rfl,rfl⟩
 go_wp2
 refine Da (results_tmp2 rfl _ _ _) rfl ?_
 exact⟨rfl,HP.To.end H (Aa SS) rfl⟩
theorem Rs (h:HP) (j:Nat) (v:VV) (w:World) (H:h.Is w) (K:h.Ok) (hf:h.fuel≠0) (hd:h.ent=h.depth):Calls prog 83 #[.pointer (some ⟨h.b,0,none⟩), .int .i64 ((j:Int)+1),v.agg] w fun e w'=>e= .returned (.tuple #[.bool false,Bs 2])/\h.To h.less w w':=by
 have SS:=Ab H.start
 rw[Db]
 go_enter_defers func83,ntmps83
 go_wp2_with (first|go_skip|((with_reducible show wpList ..);(refine zB 36 (v.cs) (by rfl) rfl rfl rfl SS ?_;clear SS;intro Xp0 Bp0 SS;simp only[nn])))
 refine(Lk h _ _ ((Aa SS).hp 0 rfl) K hf hd).mono ?_
 rintro _ Y1 ⟨rfl,T1⟩
 replace SS:=Ab ((Aa SS).heap 0 rfl T1)
 clear T1
 go_wp2
 refine Da (results_tmp2 rfl _ _ _) rfl ?_
 exact⟨rfl,HP.To.end H (Aa SS) rfl⟩
theorem Rr (h:HP) (j:Nat) (q:OB) (v:VV) (P:HP->Bool->Value->Prop) (w:World) (H:h.Is w) (K:h.Ok) (hj:h.l[j]? =some q) (hf:h.fuel≠0) (hd:h.ent≠h.depth) (hC: ∀X,h.To h.inn w X->Calls prog 162 #[.agg #[], .pointer (some ⟨h.b,0,none⟩), .int .i64 ((j:Int)+1),v.agg] X fun e w'=> ∃(h1:HP) (y:Bool) (er:Value),e= .returned (.tuple #[.bool y,er])/\P h1 y er/\h1.ent=h.ent+1/\h.inn.To h1 X w'):Calls prog 83 #[.pointer (some ⟨h.b,0,none⟩), .int .i64 ((j:Int)+1),v.agg] w fun e w'=> ∃(h1:HP) (y:Bool) (er:Value),e= .returned (.tuple #[.bool y,er])/\P h1 y er/\h.To h1.out w w':=by
 have SS:=Ab H.start
 have HC:=Ab hC
 have hE0:0<=h.ent+1/\h.ent+1<=100000001:=by have:=K.e0;have:=K.e1;have:=K.d1;omega
 clear hC
 rw[Db] at HC ⊢
 go_enter_defers func83,ntmps83
 go_wp2_with (first|go_skip|((with_reducible show wpList ..);(refine zB 36 (v.cs) (by rfl) rfl rfl rfl SS ?_;clear SS;intro Xp0 Bp0 SS;simp only[nn])))
 refine(Lc h j q _ ((Aa SS).hp 0 rfl) K hj hf hd).mono ?_
 rintro _ Y1 ⟨rfl,T1⟩
 replace SS:=Ab ((Aa SS).heap 0 rfl T1)
 clear T1
 unfold Yn
 go_wp2_with (first|go_skip|((with_reducible show wpList ..);(refine zL (v.cs) 36 5 1 rwV szV (by rfl) rfl rfl SS rfl rfl rfl ?_;simp only[nn])))
 refine(Aa HC _ (HP.To.end H (Aa SS) rfl)).mono ?_
 rintro _ Y2 ⟨h1,y,er,rfl,hP,hen,T2⟩
 replace SS:=Ab ((Aa SS).heap 0 rfl T2)
 have hb1:h1.b=h.b:=T2.hb
 clear T2
 go_wp2
 refine leaves_cons (f:=57) (args:= #[.pointer (some ⟨h.b,0,none⟩)]) (by simp) (by simp[go_sem]) ?_
 have HL:=Kw h1 .returning _ ((Aa SS).hp 0 rfl) (by rw[hen];exact hE0)
 rw[hb1] at HL
 refine HL.mono ?_
 rintro e u2 w2 ⟨rfl,rfl,T3⟩
 replace SS:=Ab ((Aa SS).heap 0 rfl T3)
 exact⟨_,results_tmp2 rfl _ _ _,h1,y,er,rfl,hP,HP.To.end H (Aa SS) hb1⟩
theorem Xk (h:HP) (j:Nat)  (w:World) (H:h.Is w) (hf:h.fuel=0):Calls prog 84 #[.pointer (some ⟨h.b,0,none⟩), .int .i64 ((j:Int)+1)] w fun e w'=>e= .returned (.tuple #[.bool false,Bs 1])/\h.To h w w':=by
 have SS:=Ab H.start
 go_enter_defers func84,ntmps84
 go_wp2_with fail
 refine(Ll h _ _ ((Aa SS).hp 0 rfl) hf).mono ?_
 rintro _ _ ⟨rfl,rfl⟩
 go_wp2
 refine Da (results_tmp2 rfl _ _ _) rfl ?_
 exact⟨rfl,HP.To.end H (Aa SS) rfl⟩
theorem Vz (h:HP) (j:Nat)  (w:World) (H:h.Is w) (K:h.Ok) (hf:h.fuel≠0) (hd:h.ent=h.depth):Calls prog 84 #[.pointer (some ⟨h.b,0,none⟩), .int .i64 ((j:Int)+1)] w fun e w'=>e= .returned (.tuple #[.bool false,Bs 2])/\h.To h.less w w':=by
 have SS:=Ab H.start
 go_enter_defers func84,ntmps84
 go_wp2_with fail
 refine(Lk h _ _ ((Aa SS).hp 0 rfl) K hf hd).mono ?_
 rintro _ Y1 ⟨rfl,T1⟩
 replace SS:=Ab ((Aa SS).heap 0 rfl T1)
 clear T1
 go_wp2
 refine Da (results_tmp2 rfl _ _ _) rfl ?_
 exact⟨rfl,HP.To.end H (Aa SS) rfl⟩
theorem Vy (h:HP) (j:Nat) (q:OB)  (P:HP->Bool->Value->Prop) (w:World) (H:h.Is w) (K:h.Ok) (hj:h.l[j]? =some q) (hf:h.fuel≠0) (hd:h.ent≠h.depth) (hC: ∀X,h.To h.inn w X->Calls prog 158 #[.agg #[], .pointer (some ⟨h.b,0,none⟩), .int .i64 ((j:Int)+1)] X fun e w'=> ∃(h1:HP) (y:Bool) (er:Value),e= .returned (.tuple #[.bool y,er])/\P h1 y er/\h1.ent=h.ent+1/\h.inn.To h1 X w'):Calls prog 84 #[.pointer (some ⟨h.b,0,none⟩), .int .i64 ((j:Int)+1)] w fun e w'=> ∃(h1:HP) (y:Bool) (er:Value),e= .returned (.tuple #[.bool y,er])/\P h1 y er/\h.To h1.out w w':=by
 have SS:=Ab H.start
 have HC:=Ab hC
 have hE0:0<=h.ent+1/\h.ent+1<=100000001:=by have:=K.e0;have:=K.e1;have:=K.d1;omega
 clear hC
 go_enter_defers func84,ntmps84
 go_wp2_with fail
 refine(Lc h j q _ ((Aa SS).hp 0 rfl) K hj hf hd).mono ?_
 rintro _ Y1 ⟨rfl,T1⟩
 replace SS:=Ab ((Aa SS).heap 0 rfl T1)
 clear T1
 unfold Yn
 go_wp2_with fail
 refine(Aa HC _ (HP.To.end H (Aa SS) rfl)).mono ?_
 rintro _ Y2 ⟨h1,y,er,rfl,hP,hen,T2⟩
 replace SS:=Ab ((Aa SS).heap 0 rfl T2)
 have hb1:h1.b=h.b:=T2.hb
 clear T2
 go_wp2
 refine leaves_cons (f:=57) (args:= #[.pointer (some ⟨h.b,0,none⟩)]) (by simp) (by simp[go_sem]) ?_
 have HL:=Kw h1 .returning _ ((Aa SS).hp 0 rfl) (by rw[hen];exact hE0)
 rw[hb1] at HL
 refine HL.mono ?_
 rintro e u2 w2 ⟨rfl,rfl,T3⟩
 replace SS:=Ab ((Aa SS).heap 0 rfl T3)
 exact⟨_,results_tmp2 rfl _ _ _,h1,y,er,rfl,hP,HP.To.end H (Aa SS) hb1⟩
theorem Pd (h:HP) (j:Nat)  (w:World) (H:h.Is w) (hf:h.fuel=0):Calls prog 85 #[.pointer (some ⟨h.b,0,none⟩), .int .i64 ((j:Int)+1)] w fun e w'=>e= .returned (.tuple #[.bool false,Bs 1])/\h.To h w w':=by
 have SS:=Ab H.start
 go_enter_defers func85,ntmps85
 go_wp2_with fail
 refine(Ll h _ _ ((Aa SS).hp 0 rfl) hf).mono ?_
 rintro _ _ ⟨rfl,rfl⟩
 go_wp2
 refine Da (results_tmp2 rfl _ _ _) rfl ?_
 exact⟨rfl,HP.To.end H (Aa SS) rfl⟩
theorem Pc (h:HP) (j:Nat)  (w:World) (H:h.Is w) (K:h.Ok) (hf:h.fuel≠0) (hd:h.ent=h.depth):Calls prog 85 #[.pointer (some ⟨h.b,0,none⟩), .int .i64 ((j:Int)+1)] w fun e w'=>e= .returned (.tuple #[.bool false,Bs 2])/\h.To h.less w w':=by
 have SS:=Ab H.start
 go_enter_defers func85,ntmps85
 go_wp2_with fail
 refine(Lk h _ _ ((Aa SS).hp 0 rfl) K hf hd).mono ?_
 rintro _ Y1 ⟨rfl,T1⟩
 replace SS:=Ab ((Aa SS).heap 0 rfl T1)
 clear T1
 go_wp2
 refine Da (results_tmp2 rfl _ _ _) rfl ?_
 exact⟨rfl,HP.To.end H (Aa SS) rfl⟩
theorem Pb (h:HP) (j:Nat) (q:OB)  (P:HP->Bool->Value->Prop) (w:World) (H:h.Is w) (K:h.Ok) (hj:h.l[j]? =some q) (hf:h.fuel≠0) (hd:h.ent≠h.depth) (hC: ∀X,h.To h.inn w X->Calls prog 160 #[.agg #[], .pointer (some ⟨h.b,0,none⟩), .int .i64 ((j:Int)+1)] X fun e w'=> ∃(h1:HP) (y:Bool) (er:Value),e= .returned (.tuple #[.bool y,er])/\P h1 y er/\h1.ent=h.ent+1/\h.inn.To h1 X w'):Calls prog 85 #[.pointer (some ⟨h.b,0,none⟩), .int .i64 ((j:Int)+1)] w fun e w'=> ∃(h1:HP) (y:Bool) (er:Value),e= .returned (.tuple #[.bool y,er])/\P h1 y er/\h.To h1.out w w':=by
 have SS:=Ab H.start
 have HC:=Ab hC
 have hE0:0<=h.ent+1/\h.ent+1<=100000001:=by have:=K.e0;have:=K.e1;have:=K.d1;omega
 clear hC
 go_enter_defers func85,ntmps85
 go_wp2_with fail
 refine(Lc h j q _ ((Aa SS).hp 0 rfl) K hj hf hd).mono ?_
 rintro _ Y1 ⟨rfl,T1⟩
 replace SS:=Ab ((Aa SS).heap 0 rfl T1)
 clear T1
 unfold Yn
 go_wp2_with fail
 refine(Aa HC _ (HP.To.end H (Aa SS) rfl)).mono ?_
 rintro _ Y2 ⟨h1,y,er,rfl,hP,hen,T2⟩
 replace SS:=Ab ((Aa SS).heap 0 rfl T2)
 have hb1:h1.b=h.b:=T2.hb
 clear T2
 go_wp2
 refine leaves_cons (f:=57) (args:= #[.pointer (some ⟨h.b,0,none⟩)]) (by simp) (by simp[go_sem]) ?_
 have HL:=Kw h1 .returning _ ((Aa SS).hp 0 rfl) (by rw[hen];exact hE0)
 rw[hb1] at HL
 refine HL.mono ?_
 rintro e u2 w2 ⟨rfl,rfl,T3⟩
 replace SS:=Ab ((Aa SS).heap 0 rfl T3)
 exact⟨_,results_tmp2 rfl _ _ _,h1,y,er,rfl,hP,HP.To.end H (Aa SS) hb1⟩
theorem Ry (h:HP) (j:Nat) (k:KK) (w:World) (H:h.Is w) (hf:h.fuel=0):Calls prog 86 #[.pointer (some ⟨h.b,0,none⟩), .int .i64 ((j:Int)+1),k.agg] w fun e w'=>e= .returned (.tuple #[Ak.agg, .bool false,Bs 1])/\h.To h w w':=by
 have SS:=Ab H.start
 rw[Ds]
 go_enter_defers func86,ntmps86
 go_wp2_with (first|go_skip|((with_reducible show wpList ..);first|(refine zB 48 (k.cs) (by rfl) rfl rfl rfl SS ?_;clear SS;intro Xp0 Bp0 SS;simp only[nn])|(refine zA 39 (Ak.cs) (by rfl) rfl SS ?_;clear SS;intro Xc Bc SS;simp only[nn])))
 refine(Ll h _ _ ((Aa SS).hp 0 rfl) hf).mono ?_
 rintro _ _ ⟨rfl,rfl⟩
 go_wp2_with (first|go_skip|((with_reducible show wpList ..);first|(refine rd rfl (Uy rfl) ?_)|(refine zS (Ak.cs) 2 39 (by rfl) rfl rfl rfl rfl (Ek _) szD SS rfl ?_;clear SS;intro Xz SS;simp only[nn])))
 refine Da (Ml rwD szD rfl rfl rfl rfl ((Aa SS).hold 2 rfl) rfl) rfl ?_
 exact⟨rfl,HP.To.end H (Aa SS) rfl⟩
theorem Rx (h:HP) (j:Nat) (k:KK) (w:World) (H:h.Is w) (K:h.Ok) (hf:h.fuel≠0) (hd:h.ent=h.depth):Calls prog 86 #[.pointer (some ⟨h.b,0,none⟩), .int .i64 ((j:Int)+1),k.agg] w fun e w'=>e= .returned (.tuple #[Ak.agg, .bool false,Bs 2])/\h.To h.less w w':=by
 have SS:=Ab H.start
 rw[Ds]
 go_enter_defers func86,ntmps86
 go_wp2_with (first|go_skip|((with_reducible show wpList ..);first|(refine zB 48 (k.cs) (by rfl) rfl rfl rfl SS ?_;clear SS;intro Xp0 Bp0 SS;simp only[nn])|(refine zA 39 (Ak.cs) (by rfl) rfl SS ?_;clear SS;intro Xc Bc SS;simp only[nn])))
 refine(Lk h _ _ ((Aa SS).hp 0 rfl) K hf hd).mono ?_
 rintro _ Y1 ⟨rfl,T1⟩
 replace SS:=Ab ((Aa SS).heap 0 rfl T1)
 clear T1
 go_wp2_with (first|go_skip|((with_reducible show wpList ..);first|(refine rd rfl (Uy rfl) ?_)|(refine zS (Ak.cs) 2 39 (by rfl) rfl rfl rfl rfl (Ek _) szD SS rfl ?_;clear SS;intro Xz SS;simp only[nn])))
 refine Da (Ml rwD szD rfl rfl rfl rfl ((Aa SS).hold 2 rfl) rfl) rfl ?_
 exact⟨rfl,HP.To.end H (Aa SS) rfl⟩
theorem Mv (h:HP) (j:Nat) (q:OB) (k:KK) (P:HP->DD->Bool->Value->Prop) (w:World) (H:h.Is w) (K:h.Ok) (hj:h.l[j]? =some q) (hf:h.fuel≠0) (hd:h.ent≠h.depth) (hC: ∀X,h.To h.inn w X->Calls prog 155 #[.agg #[], .pointer (some ⟨h.b,0,none⟩), .int .i64 ((j:Int)+1),k.agg] X fun e w'=> ∃(h1:HP) (V:DD) (y:Bool) (er:Value),e= .returned (.tuple #[V.agg, .bool y,er])/\P h1 V y er/\h1.ent=h.ent+1/\h.inn.To h1 X w'):Calls prog 86 #[.pointer (some ⟨h.b,0,none⟩), .int .i64 ((j:Int)+1),k.agg] w fun e w'=> ∃(h1:HP) (V:DD) (y:Bool) (er:Value),e= .returned (.tuple #[V.agg, .bool y,er])/\P h1 V y er/\h.To h1.out w w':=by
 have SS:=Ab H.start
 have HC:=Ab hC
 have hE0:0<=h.ent+1/\h.ent+1<=100000001:=by have:=K.e0;have:=K.e1;have:=K.d1;omega
 clear hC
 rw[Ds] at HC ⊢
 go_enter_defers func86,ntmps86
 go_wp2_with (first|go_skip|((with_reducible show wpList ..);first|(refine zB 48 (k.cs) (by rfl) rfl rfl rfl SS ?_;clear SS;intro Xp0 Bp0 SS;simp only[nn])|(refine zA 39 (Ak.cs) (by rfl) rfl SS ?_;clear SS;intro Xc Bc SS;simp only[nn])))
 refine(Lc h j q _ ((Aa SS).hp 0 rfl) K hj hf hd).mono ?_
 rintro _ Y1 ⟨rfl,T1⟩
 replace SS:=Ab ((Aa SS).heap 0 rfl T1)
 clear T1
 unfold Yn
 go_wp2_with (first|go_skip|((with_reducible show wpList ..);(refine zL (k.cs) 48 2 1 rwK szK (by rfl) rfl rfl SS rfl rfl rfl ?_;simp only[nn])))
 refine(Aa HC _ (HP.To.end H (Aa SS) rfl)).mono ?_
 rintro _ Y2 ⟨h1,V,y,er,rfl,hP,hen,T2⟩
 replace SS:=Ab ((Aa SS).heap 0 rfl T2)
 have hb1:h1.b=h.b:=T2.hb
 clear T2
 go_wp2_with (first|go_skip|((with_reducible show wpList ..);(refine zS (V.cs) 2 39 (by rfl) rfl rfl rfl rfl (Ek _) szD SS rfl ?_;clear SS;intro Xz SS;simp only[nn])))
 refine leaves_cons (f:=57) (args:= #[.pointer (some ⟨h.b,0,none⟩)]) (by simp) (by simp[go_sem]) ?_
 have HL:=Kw h1 .returning _ ((Aa SS).hp 0 rfl) (by rw[hen];exact hE0)
 rw[hb1] at HL
 refine HL.mono ?_
 rintro e u2 w2 ⟨rfl,rfl,T3⟩
 replace SS:=Ab ((Aa SS).heap 0 rfl T3)
 exact⟨_,Ml rwD szD rfl rfl rfl rfl ((Aa SS).hold 2 rfl) rfl,h1,V,y,er,rfl,hP,HP.To.end H (Aa SS) hb1⟩
theorem Pf (h:HP) (j:Nat) (k:KK) (d:DD) (w:World) (H:h.Is w) (hf:h.fuel=0):Calls prog 34 #[.pointer (some ⟨h.b,0,none⟩), .int .i64 ((j:Int)+1),k.agg,d.agg] w fun e w'=>e= .returned (.tuple #[.bool false,Bs 1])/\h.To h w w':=by
 have SS:=Ab H.start
 rw[Mw,Ds]
 go_enter_defers func34,ntmps34
 go_wp2_with (first|go_skip|((with_reducible show wpList ..);first|(refine zB 48 (k.cs) (by rfl) rfl rfl rfl SS ?_;clear SS;intro Xp0 Bp0 SS;simp only[nn])|(refine zB 39 (d.cs) (by rfl) rfl rfl rfl SS ?_;clear SS;intro Xp1 Bp1 SS;simp only[nn])))
 refine(Ll h _ _ ((Aa SS).hp 0 rfl) hf).mono ?_
 rintro _ _ ⟨rfl,rfl⟩
 go_wp2
 refine Da (results_tmp2 rfl _ _ _) rfl ?_
 exact⟨rfl,HP.To.end H (Aa SS) rfl⟩
theorem Pe (h:HP) (j:Nat) (k:KK) (d:DD) (w:World) (H:h.Is w) (K:h.Ok) (hf:h.fuel≠0) (hd:h.ent=h.depth):Calls prog 34 #[.pointer (some ⟨h.b,0,none⟩), .int .i64 ((j:Int)+1),k.agg,d.agg] w fun e w'=>e= .returned (.tuple #[.bool false,Bs 2])/\h.To h.less w w':=by
 have SS:=Ab H.start
 rw[Mw,Ds]
 go_enter_defers func34,ntmps34
 go_wp2_with (first|go_skip|((with_reducible show wpList ..);first|(refine zB 48 (k.cs) (by rfl) rfl rfl rfl SS ?_;clear SS;intro Xp0 Bp0 SS;simp only[nn])|(refine zB 39 (d.cs) (by rfl) rfl rfl rfl SS ?_;clear SS;intro Xp1 Bp1 SS;simp only[nn])))
 refine(Lk h _ _ ((Aa SS).hp 0 rfl) K hf hd).mono ?_
 rintro _ Y1 ⟨rfl,T1⟩
 replace SS:=Ab ((Aa SS).heap 0 rfl T1)
 clear T1
 go_wp2
 refine Da (results_tmp2 rfl _ _ _) rfl ?_
 exact⟨rfl,HP.To.end H (Aa SS) rfl⟩
theorem Lq (h:HP) (j:Nat) (q:OB) (k:KK) (d:DD) (P:HP->Bool->Value->Prop) (w:World) (H:h.Is w) (K:h.Ok) (hj:h.l[j]? =some q) (hf:h.fuel≠0) (hd:h.ent≠h.depth) (hC: ∀X,h.To h.inn w X->Calls prog 47 #[.agg #[], .pointer (some ⟨h.b,0,none⟩), .int .i64 ((j:Int)+1),k.agg,d.agg] X fun e w'=> ∃(h1:HP) (y:Bool) (er:Value),e= .returned (.tuple #[.bool y,er])/\P h1 y er/\h1.ent=h.ent+1/\h.inn.To h1 X w'):Calls prog 34 #[.pointer (some ⟨h.b,0,none⟩), .int .i64 ((j:Int)+1),k.agg,d.agg] w fun e w'=> ∃(h1:HP) (y:Bool) (er:Value),e= .returned (.tuple #[.bool y,er])/\P h1 y er/\h.To h1.out w w':=by
 have SS:=Ab H.start
 have HC:=Ab hC
 have hE0:0<=h.ent+1/\h.ent+1<=100000001:=by have:=K.e0;have:=K.e1;have:=K.d1;omega
 clear hC
 rw[Mw,Ds] at HC ⊢
 go_enter_defers func34,ntmps34
 go_wp2_with (first|go_skip|((with_reducible show wpList ..);first|(refine zB 48 (k.cs) (by rfl) rfl rfl rfl SS ?_;clear SS;intro Xp0 Bp0 SS;simp only[nn])|(refine zB 39 (d.cs) (by rfl) rfl rfl rfl SS ?_;clear SS;intro Xp1 Bp1 SS;simp only[nn])))
 refine(Lc h j q _ ((Aa SS).hp 0 rfl) K hj hf hd).mono ?_
 rintro _ Y1 ⟨rfl,T1⟩
 replace SS:=Ab ((Aa SS).heap 0 rfl T1)
 clear T1
 unfold Yn
 go_wp2_with (first|go_skip|((with_reducible show wpList ..);first|(refine zL (k.cs) 48 2 1 rwK szK (by rfl) rfl rfl SS rfl rfl rfl ?_;simp only[nn])|(refine zL (d.cs) 39 18 2 rwD szD (by rfl) rfl rfl SS rfl rfl rfl ?_;simp only[nn])))
 refine(Aa HC _ (HP.To.end H (Aa SS) rfl)).mono ?_
 rintro _ Y2 ⟨h1,y,er,rfl,hP,hen,T2⟩
 replace SS:=Ab ((Aa SS).heap 0 rfl T2)
 have hb1:h1.b=h.b:=T2.hb
 clear T2
 go_wp2
 refine leaves_cons (f:=57) (args:= #[.pointer (some ⟨h.b,0,none⟩)]) (by simp) (by simp[go_sem]) ?_
 have HL:=Kw h1 .returning _ ((Aa SS).hp 0 rfl) (by rw[hen];exact hE0)
 rw[hb1] at HL
 refine HL.mono ?_
 rintro e u2 w2 ⟨rfl,rfl,T3⟩
 replace SS:=Ab ((Aa SS).heap 0 rfl T3)
 exact⟨_,results_tmp2 rfl _ _ _,h1,y,er,rfl,hP,HP.To.end H (Aa SS) hb1⟩
theorem Yt (h:HP) (j:Nat) (k:KK) (w:World) (H:h.Is w) (hf:h.fuel=0):Calls prog 87 #[.pointer (some ⟨h.b,0,none⟩), .int .i64 ((j:Int)+1),k.agg] w fun e w'=>e= .returned (.tuple #[.bool false,Bs 1])/\h.To h w w':=by
 have SS:=Ab H.start
 rw[Ds]
 go_enter_defers func87,ntmps87
 go_wp2_with (first|go_skip|((with_reducible show wpList ..);(refine zB 48 (k.cs) (by rfl) rfl rfl rfl SS ?_;clear SS;intro Xp0 Bp0 SS;simp only[nn])))
 refine(Ll h _ _ ((Aa SS).hp 0 rfl) hf).mono ?_
 rintro _ _ ⟨rfl,rfl⟩
 go_wp2
 refine Da (results_tmp2 rfl _ _ _) rfl ?_
 exact⟨rfl,HP.To.end H (Aa SS) rfl⟩
theorem Ys (h:HP) (j:Nat) (k:KK) (w:World) (H:h.Is w) (K:h.Ok) (hf:h.fuel≠0) (hd:h.ent=h.depth):Calls prog 87 #[.pointer (some ⟨h.b,0,none⟩), .int .i64 ((j:Int)+1),k.agg] w fun e w'=>e= .returned (.tuple #[.bool false,Bs 2])/\h.To h.less w w':=by
 have SS:=Ab H.start
 rw[Ds]
 go_enter_defers func87,ntmps87
 go_wp2_with (first|go_skip|((with_reducible show wpList ..);(refine zB 48 (k.cs) (by rfl) rfl rfl rfl SS ?_;clear SS;intro Xp0 Bp0 SS;simp only[nn])))
 refine(Lk h _ _ ((Aa SS).hp 0 rfl) K hf hd).mono ?_
 rintro _ Y1 ⟨rfl,T1⟩
 replace SS:=Ab ((Aa SS).heap 0 rfl T1)
 clear T1
 go_wp2
 refine Da (results_tmp2 rfl _ _ _) rfl ?_
 exact⟨rfl,HP.To.end H (Aa SS) rfl⟩
theorem Yr (h:HP) (j:Nat) (q:OB) (k:KK) (P:HP->Bool->Value->Prop) (w:World) (H:h.Is w) (K:h.Ok) (hj:h.l[j]? =some q) (hf:h.fuel≠0) (hd:h.ent≠h.depth) (hC: ∀X,h.To h.inn w X->Calls prog 157 #[.agg #[], .pointer (some ⟨h.b,0,none⟩), .int .i64 ((j:Int)+1),k.agg] X fun e w'=> ∃(h1:HP) (y:Bool) (er:Value),e= .returned (.tuple #[.bool y,er])/\P h1 y er/\h1.ent=h.ent+1/\h.inn.To h1 X w'):Calls prog 87 #[.pointer (some ⟨h.b,0,none⟩), .int .i64 ((j:Int)+1),k.agg] w fun e w'=> ∃(h1:HP) (y:Bool) (er:Value),e= .returned (.tuple #[.bool y,er])/\P h1 y er/\h.To h1.out w w':=by
 have SS:=Ab H.start
 have HC:=Ab hC
 have hE0:0<=h.ent+1/\h.ent+1<=100000001:=by have:=K.e0;have:=K.e1;have:=K.d1;omega
 clear hC
 rw[Ds] at HC ⊢
 go_enter_defers func87,ntmps87
 go_wp2_with (first|go_skip|((with_reducible show wpList ..);(refine zB 48 (k.cs) (by rfl) rfl rfl rfl SS ?_;clear SS;intro Xp0 Bp0 SS;simp only[nn])))
 refine(Lc h j q _ ((Aa SS).hp 0 rfl) K hj hf hd).mono ?_
 rintro _ Y1 ⟨rfl,T1⟩
 replace SS:=Ab ((Aa SS).heap 0 rfl T1)
 clear T1
 unfold Yn
 go_wp2_with (first|go_skip|((with_reducible show wpList ..);(refine zL (k.cs) 48 2 1 rwK szK (by rfl) rfl rfl SS rfl rfl rfl ?_;simp only[nn])))
 refine(Aa HC _ (HP.To.end H (Aa SS) rfl)).mono ?_
 rintro _ Y2 ⟨h1,y,er,rfl,hP,hen,T2⟩
 replace SS:=Ab ((Aa SS).heap 0 rfl T2)
 have hb1:h1.b=h.b:=T2.hb
 clear T2
 go_wp2
 refine leaves_cons (f:=57) (args:= #[.pointer (some ⟨h.b,0,none⟩)]) (by simp) (by simp[go_sem]) ?_
 have HL:=Kw h1 .returning _ ((Aa SS).hp 0 rfl) (by rw[hen];exact hE0)
 rw[hb1] at HL
 refine HL.mono ?_
 rintro e u2 w2 ⟨rfl,rfl,T3⟩
 replace SS:=Ab ((Aa SS).heap 0 rfl T3)
 exact⟨_,results_tmp2 rfl _ _ _,h1,y,er,rfl,hP,HP.To.end H (Aa SS) hb1⟩
theorem enGet_0 (h:HP) (j:Nat) (k:KK) (r:VV) (w:World) (H:h.Is w) (hf:h.fuel=0):Calls prog 36 #[.pointer (some ⟨h.b,0,none⟩), .int .i64 ((j:Int)+1),k.agg,r.agg] w fun e w'=>e= .returned (.tuple #[Av.agg,Bs 1])/\h.To h w w':=by
 have SS:=Ab H.start
 rw[Ds,Db]
 go_enter_defers func36,ntmps36
 go_wp2_with (first|go_skip|((with_reducible show wpList ..);first|(refine zB 48 (k.cs) (by rfl) rfl rfl rfl SS ?_;clear SS;intro Xp0 Bp0 SS;simp only[nn])|(refine zB 36 (r.cs) (by rfl) rfl rfl rfl SS ?_;clear SS;intro Xp1 Bp1 SS;simp only[nn])|(refine zA 36 (Av.cs) (by rfl) rfl SS ?_;clear SS;intro Xc Bc SS;simp only[nn])))
 refine(Ll h _ _ ((Aa SS).hp 0 rfl) hf).mono ?_
 rintro _ _ ⟨rfl,rfl⟩
 go_wp2_with (first|go_skip|((with_reducible show wpList ..);first|(refine rd rfl (Od rfl) ?_)|(refine zS (Av.cs) 3 36 (by rfl) rfl rfl rfl rfl (Em _) szV SS rfl ?_;clear SS;intro Xz SS;simp only[nn])))
 refine Da (Gr rwV szV rfl rfl rfl ((Aa SS).hold 3 rfl) rfl) rfl ?_
 exact⟨rfl,HP.To.end H (Aa SS) rfl⟩
theorem enGet_d (h:HP) (j:Nat) (k:KK) (r:VV) (w:World) (H:h.Is w) (K:h.Ok) (hf:h.fuel≠0) (hd:h.ent=h.depth):Calls prog 36 #[.pointer (some ⟨h.b,0,none⟩), .int .i64 ((j:Int)+1),k.agg,r.agg] w fun e w'=>e= .returned (.tuple #[Av.agg,Bs 2])/\h.To h.less w w':=by
 have SS:=Ab H.start
 rw[Ds,Db]
 go_enter_defers func36,ntmps36
 go_wp2_with (first|go_skip|((with_reducible show wpList ..);first|(refine zB 48 (k.cs) (by rfl) rfl rfl rfl SS ?_;clear SS;intro Xp0 Bp0 SS;simp only[nn])|(refine zB 36 (r.cs) (by rfl) rfl rfl rfl SS ?_;clear SS;intro Xp1 Bp1 SS;simp only[nn])|(refine zA 36 (Av.cs) (by rfl) rfl SS ?_;clear SS;intro Xc Bc SS;simp only[nn])))
 refine(Lk h _ _ ((Aa SS).hp 0 rfl) K hf hd).mono ?_
 rintro _ Y1 ⟨rfl,T1⟩
 replace SS:=Ab ((Aa SS).heap 0 rfl T1)
 clear T1
 go_wp2_with (first|go_skip|((with_reducible show wpList ..);first|(refine rd rfl (Od rfl) ?_)|(refine zS (Av.cs) 3 36 (by rfl) rfl rfl rfl rfl (Em _) szV SS rfl ?_;clear SS;intro Xz SS;simp only[nn])))
 refine Da (Gr rwV szV rfl rfl rfl ((Aa SS).hold 3 rfl) rfl) rfl ?_
 exact⟨rfl,HP.To.end H (Aa SS) rfl⟩
theorem ZbY (h:HP) (j:Nat) (q:OB) (k:KK) (r:VV) (P:HP->VV->Value->Prop) (w:World) (H:h.Is w) (K:h.Ok) (hj:h.l[j]? =some q) (hf:h.fuel≠0) (hd:h.ent≠h.depth) (hC: ∀X,h.To h.inn w X->Calls prog 154 #[.agg #[], .pointer (some ⟨h.b,0,none⟩), .int .i64 ((j:Int)+1),k.agg,r.agg] X fun e w'=> ∃(h1:HP) (V:VV) (er:Value),e= .returned (.tuple #[V.agg,er])/\P h1 V er/\h1.ent=h.ent+1/\h.inn.To h1 X w'):Calls prog 36 #[.pointer (some ⟨h.b,0,none⟩), .int .i64 ((j:Int)+1),k.agg,r.agg] w fun e w'=> ∃(h1:HP) (V:VV) (er:Value),e= .returned (.tuple #[V.agg,er])/\P h1 V er/\h.To h1.out w w':=by
 have SS:=Ab H.start
 have HC:=Ab hC
 have hE0:0<=h.ent+1/\h.ent+1<=100000001:=by have:=K.e0;have:=K.e1;have:=K.d1;omega
 clear hC
 rw[Ds,Db] at HC ⊢
 go_enter_defers func36,ntmps36
 go_wp2_with (first|go_skip|((with_reducible show wpList ..);first|(refine zB 48 (k.cs) (by rfl) rfl rfl rfl SS ?_;clear SS;intro Xp0 Bp0 SS;simp only[nn])|(refine zB 36 (r.cs) (by rfl) rfl rfl rfl SS ?_;clear SS;intro Xp1 Bp1 SS;simp only[nn])|(refine zA 36 (Av.cs) (by rfl) rfl SS ?_;clear SS;intro Xc Bc SS;simp only[nn])))
 refine(Lc h j q _ ((Aa SS).hp 0 rfl) K hj hf hd).mono ?_
 rintro _ Y1 ⟨rfl,T1⟩
 replace SS:=Ab ((Aa SS).heap 0 rfl T1)
 clear T1
 unfold Yn
 go_wp2_with (first|go_skip|((with_reducible show wpList ..);first|(refine zL (k.cs) 48 2 1 rwK szK (by rfl) rfl rfl SS rfl rfl rfl ?_;simp only[nn])|(refine zL (r.cs) 36 5 2 rwV szV (by rfl) rfl rfl SS rfl rfl rfl ?_;simp only[nn])))
 refine(Aa HC _ (HP.To.end H (Aa SS) rfl)).mono ?_
 rintro _ Y2 ⟨h1,V,er,rfl,hP,hen,T2⟩
 replace SS:=Ab ((Aa SS).heap 0 rfl T2)
 have hb1:h1.b=h.b:=T2.hb
 clear T2
 go_wp2_with (first|go_skip|((with_reducible show wpList ..);(refine zS (V.cs) 3 36 (by rfl) rfl rfl rfl rfl (Em _) szV SS rfl ?_;clear SS;intro Xz SS;simp only[nn])))
 refine leaves_cons (f:=57) (args:= #[.pointer (some ⟨h.b,0,none⟩)]) (by simp) (by simp[go_sem]) ?_
 have HL:=Kw h1 .returning _ ((Aa SS).hp 0 rfl) (by rw[hen];exact hE0)
 rw[hb1] at HL
 refine HL.mono ?_
 rintro e u2 w2 ⟨rfl,rfl,T3⟩
 replace SS:=Ab ((Aa SS).heap 0 rfl T3)
 exact⟨_,Gr rwV szV rfl rfl rfl ((Aa SS).hold 3 rfl) rfl,h1,V,er,rfl,hP,HP.To.end H (Aa SS) hb1⟩
theorem enSet_0 (h:HP) (j:Nat) (k:KK) (v:VV) (r:VV) (w:World) (H:h.Is w) (hf:h.fuel=0):Calls prog 37 #[.pointer (some ⟨h.b,0,none⟩), .int .i64 ((j:Int)+1),k.agg,v.agg,r.agg] w fun e w'=>e= .returned (.tuple #[.bool false,Bs 1])/\h.To h w w':=by
 have SS:=Ab H.start
 rw[Ds,Db,Db]
 go_enter_defers func37,ntmps37
 go_wp2_with (first|go_skip|((with_reducible show wpList ..);first|(refine zB 48 (k.cs) (by rfl) rfl rfl rfl SS ?_;clear SS;intro Xp0 Bp0 SS;simp only[nn])|(refine zB 36 (v.cs) (by rfl) rfl rfl rfl SS ?_;clear SS;intro Xp1 Bp1 SS;simp only[nn])|(refine zB 36 (r.cs) (by rfl) rfl rfl rfl SS ?_;clear SS;intro Xp2 Bp2 SS;simp only[nn])))
 refine(Ll h _ _ ((Aa SS).hp 0 rfl) hf).mono ?_
 rintro _ _ ⟨rfl,rfl⟩
 go_wp2
 refine Da (results_tmp2 rfl _ _ _) rfl ?_
 exact⟨rfl,HP.To.end H (Aa SS) rfl⟩
theorem enSet_d (h:HP) (j:Nat) (k:KK) (v:VV) (r:VV) (w:World) (H:h.Is w) (K:h.Ok) (hf:h.fuel≠0) (hd:h.ent=h.depth):Calls prog 37 #[.pointer (some ⟨h.b,0,none⟩), .int .i64 ((j:Int)+1),k.agg,v.agg,r.agg] w fun e w'=>e= .returned (.tuple #[.bool false,Bs 2])/\h.To h.less w w':=by
 have SS:=Ab H.start
 rw[Ds,Db,Db]
 go_enter_defers func37,ntmps37
 go_wp2_with (first|go_skip|((with_reducible show wpList ..);first|(refine zB 48 (k.cs) (by rfl) rfl rfl rfl SS ?_;clear SS;intro Xp0 Bp0 SS;simp only[nn])|(refine zB 36 (v.cs) (by rfl) rfl rfl rfl SS ?_;clear SS;intro Xp1 Bp1 SS;simp only[nn])|(refine zB 36 (r.cs) (by rfl) rfl rfl rfl SS ?_;clear SS;intro Xp2 Bp2 SS;simp only[nn])))
 refine(Lk h _ _ ((Aa SS).hp 0 rfl) K hf hd).mono ?_
 rintro _ Y1 ⟨rfl,T1⟩
 replace SS:=Ab ((Aa SS).heap 0 rfl T1)
 clear T1
 go_wp2
 refine Da (results_tmp2 rfl _ _ _) rfl ?_
 exact⟨rfl,HP.To.end H (Aa SS) rfl⟩
theorem ZbX (h:HP) (j:Nat) (q:OB) (k:KK) (v:VV) (r:VV) (P:HP->Bool->Value->Prop) (w:World) (H:h.Is w) (K:h.Ok) (hj:h.l[j]? =some q) (hf:h.fuel≠0) (hd:h.ent≠h.depth) (hC: ∀X,h.To h.inn w X->Calls prog 161 #[.agg #[], .pointer (some ⟨h.b,0,none⟩), .int .i64 ((j:Int)+1),k.agg,v.agg,r.agg] X fun e w'=> ∃(h1:HP) (y:Bool) (er:Value),e= .returned (.tuple #[.bool y,er])/\P h1 y er/\h1.ent=h.ent+1/\h.inn.To h1 X w'):Calls prog 37 #[.pointer (some ⟨h.b,0,none⟩), .int .i64 ((j:Int)+1),k.agg,v.agg,r.agg] w fun e w'=> ∃(h1:HP) (y:Bool) (er:Value),e= .returned (.tuple #[.bool y,er])/\P h1 y er/\h.To h1.out w w':=by
 have SS:=Ab H.start
 have HC:=Ab hC
 have hE0:0<=h.ent+1/\h.ent+1<=100000001:=by have:=K.e0;have:=K.e1;have:=K.d1;omega
 clear hC
 rw[Ds,Db,Db] at HC ⊢
 go_enter_defers func37,ntmps37
 go_wp2_with (first|go_skip|((with_reducible show wpList ..);first|(refine zB 48 (k.cs) (by rfl) rfl rfl rfl SS ?_;clear SS;intro Xp0 Bp0 SS;simp only[nn])|(refine zB 36 (v.cs) (by rfl) rfl rfl rfl SS ?_;clear SS;intro Xp1 Bp1 SS;simp only[nn])|(refine zB 36 (r.cs) (by rfl) rfl rfl rfl SS ?_;clear SS;intro Xp2 Bp2 SS;simp only[nn])))
 refine(Lc h j q _ ((Aa SS).hp 0 rfl) K hj hf hd).mono ?_
 rintro _ Y1 ⟨rfl,T1⟩
 replace SS:=Ab ((Aa SS).heap 0 rfl T1)
 clear T1
 unfold Yn
 go_wp2_with (first|go_skip|((with_reducible show wpList ..);first|(refine zL (k.cs) 48 2 1 rwK szK (by rfl) rfl rfl SS rfl rfl rfl ?_;simp only[nn])|(refine zL (v.cs) 36 5 2 rwV szV (by rfl) rfl rfl SS rfl rfl rfl ?_;simp only[nn])|(refine zL (r.cs) 36 5 3 rwV szV (by rfl) rfl rfl SS rfl rfl rfl ?_;simp only[nn])))
 refine(Aa HC _ (HP.To.end H (Aa SS) rfl)).mono ?_
 rintro _ Y2 ⟨h1,y,er,rfl,hP,hen,T2⟩
 replace SS:=Ab ((Aa SS).heap 0 rfl T2)
 have hb1:h1.b=h.b:=T2.hb
 clear T2
 go_wp2
 refine leaves_cons (f:=57) (args:= #[.pointer (some ⟨h.b,0,none⟩)]) (by simp) (by simp[go_sem]) ?_
 have HL:=Kw h1 .returning _ ((Aa SS).hp 0 rfl) (by rw[hen];exact hE0)
 rw[hb1] at HL
 refine HL.mono ?_
 rintro e u2 w2 ⟨rfl,rfl,T3⟩
 replace SS:=Ab ((Aa SS).heap 0 rfl T3)
 exact⟨_,results_tmp2 rfl _ _ _,h1,y,er,rfl,hP,HP.To.end H (Aa SS) hb1⟩
theorem ZdC (h:HP) (j:Nat) (k:KK) (w:World) (H:h.Is w) (hf:h.fuel=0):Calls prog 88 #[.pointer (some ⟨h.b,0,none⟩), .int .i64 ((j:Int)+1),k.agg] w fun e w'=>e= .returned (.tuple #[.bool false,Bs 1])/\h.To h w w':=by
 have SS:=Ab H.start
 rw[Ds]
 go_enter_defers func88,ntmps88
 go_wp2_with (first|go_skip|((with_reducible show wpList ..);(refine zB 48 (k.cs) (by rfl) rfl rfl rfl SS ?_;clear SS;intro Xp0 Bp0 SS;simp only[nn])))
 refine(Ll h _ _ ((Aa SS).hp 0 rfl) hf).mono ?_
 rintro _ _ ⟨rfl,rfl⟩
 go_wp2
 refine Da (results_tmp2 rfl _ _ _) rfl ?_
 exact⟨rfl,HP.To.end H (Aa SS) rfl⟩
theorem ZdB (h:HP) (j:Nat) (k:KK) (w:World) (H:h.Is w) (K:h.Ok) (hf:h.fuel≠0) (hd:h.ent=h.depth):Calls prog 88 #[.pointer (some ⟨h.b,0,none⟩), .int .i64 ((j:Int)+1),k.agg] w fun e w'=>e= .returned (.tuple #[.bool false,Bs 2])/\h.To h.less w w':=by
 have SS:=Ab H.start
 rw[Ds]
 go_enter_defers func88,ntmps88
 go_wp2_with (first|go_skip|((with_reducible show wpList ..);(refine zB 48 (k.cs) (by rfl) rfl rfl rfl SS ?_;clear SS;intro Xp0 Bp0 SS;simp only[nn])))
 refine(Lk h _ _ ((Aa SS).hp 0 rfl) K hf hd).mono ?_
 rintro _ Y1 ⟨rfl,T1⟩
 replace SS:=Ab ((Aa SS).heap 0 rfl T1)
 clear T1
 go_wp2
 refine Da (results_tmp2 rfl _ _ _) rfl ?_
 exact⟨rfl,HP.To.end H (Aa SS) rfl⟩
theorem ZdA (h:HP) (j:Nat) (q:OB) (k:KK) (P:HP->Bool->Value->Prop) (w:World) (H:h.Is w) (K:h.Ok) (hj:h.l[j]? =some q) (hf:h.fuel≠0) (hd:h.ent≠h.depth) (hC: ∀X,h.To h.inn w X->Calls prog 153 #[.agg #[], .pointer (some ⟨h.b,0,none⟩), .int .i64 ((j:Int)+1),k.agg] X fun e w'=> ∃(h1:HP) (y:Bool) (er:Value),e= .returned (.tuple #[.bool y,er])/\P h1 y er/\h1.ent=h.ent+1/\h.inn.To h1 X w'):Calls prog 88 #[.pointer (some ⟨h.b,0,none⟩), .int .i64 ((j:Int)+1),k.agg] w fun e w'=> ∃(h1:HP) (y:Bool) (er:Value),e= .returned (.tuple #[.bool y,er])/\P h1 y er/\h.To h1.out w w':=by
 have SS:=Ab H.start
 have HC:=Ab hC
 have hE0:0<=h.ent+1/\h.ent+1<=100000001:=by have:=K.e0;have:=K.e1;have:=K.d1;omega
 clear hC
 rw[Ds] at HC ⊢
 go_enter_defers func88,ntmps88
 go_wp2_with (first|go_skip|((with_reducible show wpList ..);(refine zB 48 (k.cs) (by rfl) rfl rfl rfl SS ?_;clear SS;intro Xp0 Bp0 SS;simp only[nn])))
 refine(Lc h j q _ ((Aa SS).hp 0 rfl) K hj hf hd).mono ?_
 rintro _ Y1 ⟨rfl,T1⟩
 replace SS:=Ab ((Aa SS).heap 0 rfl T1)
 clear T1
 unfold Yn
 go_wp2_with (first|go_skip|((with_reducible show wpList ..);(refine zL (k.cs) 48 2 1 rwK szK (by rfl) rfl rfl SS rfl rfl rfl ?_;simp only[nn])))
 refine(Aa HC _ (HP.To.end H (Aa SS) rfl)).mono ?_
 rintro _ Y2 ⟨h1,y,er,rfl,hP,hen,T2⟩
 replace SS:=Ab ((Aa SS).heap 0 rfl T2)
 have hb1:h1.b=h.b:=T2.hb
 clear T2
 go_wp2
 refine leaves_cons (f:=57) (args:= #[.pointer (some ⟨h.b,0,none⟩)]) (by simp) (by simp[go_sem]) ?_
 have HL:=Kw h1 .returning _ ((Aa SS).hp 0 rfl) (by rw[hen];exact hE0)
 rw[hb1] at HL
 refine HL.mono ?_
 rintro e u2 w2 ⟨rfl,rfl,T3⟩
 replace SS:=Ab ((Aa SS).heap 0 rfl T3)
 exact⟨_,results_tmp2 rfl _ _ _,h1,y,er,rfl,hP,HP.To.end H (Aa SS) hb1⟩
theorem Rc (h:HP) (j:Nat)  (w:World) (H:h.Is w) (hf:h.fuel=0):Calls prog 89 #[.pointer (some ⟨h.b,0,none⟩), .int .i64 ((j:Int)+1)] w fun e w'=>e= .returned (.tuple #[.slice none 0 0,Bs 1])/\h.To h w w':=by
 have SS:=Ab H.start
 go_enter_defers func89,ntmps89
 go_wp2_with fail
 refine(Ll h _ _ ((Aa SS).hp 0 rfl) hf).mono ?_
 rintro _ _ ⟨rfl,rfl⟩
 go_wp2
 refine Da (results_tmp2 rfl _ _ _) rfl ?_
 exact⟨rfl,HP.To.end H (Aa SS) rfl⟩
theorem Rb (h:HP) (j:Nat)  (w:World) (H:h.Is w) (K:h.Ok) (hf:h.fuel≠0) (hd:h.ent=h.depth):Calls prog 89 #[.pointer (some ⟨h.b,0,none⟩), .int .i64 ((j:Int)+1)] w fun e w'=>e= .returned (.tuple #[.slice none 0 0,Bs 2])/\h.To h.less w w':=by
 have SS:=Ab H.start
 go_enter_defers func89,ntmps89
 go_wp2_with fail
 refine(Lk h _ _ ((Aa SS).hp 0 rfl) K hf hd).mono ?_
 rintro _ Y1 ⟨rfl,T1⟩
 replace SS:=Ab ((Aa SS).heap 0 rfl T1)
 clear T1
 go_wp2
 refine Da (results_tmp2 rfl _ _ _) rfl ?_
 exact⟨rfl,HP.To.end H (Aa SS) rfl⟩
theorem Ra (h:HP) (j:Nat) (q:OB)  (P:HP->Value->Value->Prop) (w:World) (H:h.Is w) (K:h.Ok) (hj:h.l[j]? =some q) (hf:h.fuel≠0) (hd:h.ent≠h.depth) (hC: ∀X,h.To h.inn w X->Calls prog 159 #[.agg #[], .pointer (some ⟨h.b,0,none⟩), .int .i64 ((j:Int)+1)] X fun e w'=> ∃(h1:HP) (V:Value) (er:Value),e= .returned (.tuple #[V,er])/\P h1 V er/\h1.ent=h.ent+1/\h.inn.To h1 X w'):Calls prog 89 #[.pointer (some ⟨h.b,0,none⟩), .int .i64 ((j:Int)+1)] w fun e w'=> ∃(h1:HP) (V:Value) (er:Value),e= .returned (.tuple #[V,er])/\P h1 V er/\h.To h1.out w w':=by
 have SS:=Ab H.start
 have HC:=Ab hC
 have hE0:0<=h.ent+1/\h.ent+1<=100000001:=by have:=K.e0;have:=K.e1;have:=K.d1;omega
 clear hC
 go_enter_defers func89,ntmps89
 go_wp2_with fail
 refine(Lc h j q _ ((Aa SS).hp 0 rfl) K hj hf hd).mono ?_
 rintro _ Y1 ⟨rfl,T1⟩
 replace SS:=Ab ((Aa SS).heap 0 rfl T1)
 clear T1
 unfold Yn
 go_wp2_with fail
 refine(Aa HC _ (HP.To.end H (Aa SS) rfl)).mono ?_
 rintro _ Y2 ⟨h1,V,er,rfl,hP,hen,T2⟩
 replace SS:=Ab ((Aa SS).heap 0 rfl T2)
 have hb1:h1.b=h.b:=T2.hb
 clear T2
 go_wp2
 refine leaves_cons (f:=57) (args:= #[.pointer (some ⟨h.b,0,none⟩)]) (by simp) (by simp[go_sem]) ?_
 have HL:=Kw h1 .returning _ ((Aa SS).hp 0 rfl) (by rw[hen];exact hE0)
 rw[hb1] at HL
 refine HL.mono ?_
 rintro e u2 w2 ⟨rfl,rfl,T3⟩
 replace SS:=Ab ((Aa SS).heap 0 rfl T3)
 exact⟨_,results_tmp2 rfl _ _ _,h1,V,er,rfl,hP,HP.To.end H (Aa SS) hb1⟩
