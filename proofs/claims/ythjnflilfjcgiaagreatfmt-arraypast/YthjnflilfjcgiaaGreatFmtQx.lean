import Derived.Test.YthjnflilfjcgiaaGreatFmtQw
set_option linter.all false
namespace Go.Proofs.YthjnflilfjcgiaaGreatFmt
set_option maxRecDepth 100000
set_option maxHeartbeats 0
section
open Go Go.Proofs Go.Maps Go.RowKit FM
attribute [local go_sem] Ad Ag Ak Df Bi Ae Bg
theorem inn_out (h:HP):h.inn.out=h.less:=by
 unfold HP.inn HP.out HP.less
 simp
def ePair (c:Int):Value:= .iface 25 (.int .i64 c)
theorem Gt (h:HP) (j:Nat) (q:OB) (k:KK) (d:DD) (P:HP->Bool->Value->Prop) (w:World) (H:h.Is w) (K:h.Ok) (hj:h.l[j]? =some q) (hf:h.fuel≠0) (hd:h.ent≠h.depth) (hC: ∀X,h.To h.inn w X->Calls Tryz.prog 183 #[.agg #[], .pointer (some ⟨h.b,0,none⟩), .int .i64 ((j:Int)+1),k.agg,d.agg] X fun e w'=> ∃(h1:HP) (y:Bool) (er:Value),e= .returned (.tuple #[.bool y,er])/\P h1 y er/\h1.ent=h.ent+1/\h.inn.To h1 X w'):Calls Tryz.prog 44 #[.pointer (some ⟨h.b,0,none⟩), .int .i64 ((j:Int)+1),k.agg,d.agg] w fun e w'=> ∃(h1:HP) (y:Bool) (er:Value),e= .returned (.tuple #[.bool y,er])/\P h1 y er/\h.To h1.out w w':=by
 have SS:=Ab H.start
 have HC:=Ab hC
 have hE0:0<=h.ent+1/\h.ent+1<=100000001:=by have:=K.e0;have:=K.e1;have:=K.d1;omega
 clear hC
 rw[Vp,Le] at HC ⊢
 go_enter_defers Tryz.func44,Tryz.ntmps44
 go_wp2_with (first|go_skip|((with_reducible show wpList ..);first|(refine zB 42 (k.cs) (by rfl) rfl rfl rfl SS ?_;clear SS;intro Xp0 Bp0 SS;simp only[nn])|(refine zB 53 (d.cs) (by rfl) rfl rfl rfl SS ?_;clear SS;intro Xp1 Bp1 SS;simp only[nn])))
 refine(Zag h j q _ ((Aa SS).hp 0 rfl) K hj hf hd).mono ?_
 rintro _ Y1 ⟨rfl,T1⟩
 replace SS:=Ab ((Aa SS).heap 0 rfl T1)
 clear T1
 unfold ordM
 go_wp2_with (first|go_skip|((with_reducible show wpList ..);first|(refine zL (k.cs) 42 2 1 rwK szK (by rfl) rfl rfl SS rfl rfl rfl ?_;simp only[nn])|(refine zL (d.cs) 53 18 2 rwD szD (by rfl) rfl rfl SS rfl rfl rfl ?_;simp only[nn])))
 refine(Aa HC _ (HP.To.end H (Aa SS) rfl)).mono ?_
 rintro _ Y2 ⟨h1,y,er,rfl,hP,hen,T2⟩
 replace SS:=Ab ((Aa SS).heap 0 rfl T2)
 have hb1:h1.b=h.b:=T2.hb
 clear T2
 go_wp2
 refine leaves_cons (f:=63) (args:= #[.pointer (some ⟨h.b,0,none⟩)]) (by simp) (by simp[go_sem]) ?_
 have HL:=Zr h1 .returning _ ((Aa SS).hp 0 rfl) (by rw[hen];exact hE0)
 rw[hb1] at HL
 refine HL.mono ?_
 rintro e u2 w2 ⟨rfl,rfl,T3⟩
 replace SS:=Ab ((Aa SS).heap 0 rfl T3)
 exact⟨_,results_tmp2 rfl _ _ _,h1,y,er,rfl,hP,HP.To.end H (Aa SS) hb1⟩
theorem Rk (h:HP) (j:Nat) (q:OB) (k:KK) (P:HP->Bool->Value->Prop) (w:World) (H:h.Is w) (K:h.Ok) (hj:h.l[j]? =some q) (hf:h.fuel≠0) (hd:h.ent≠h.depth) (hC: ∀X,h.To h.inn w X->Calls Tryz.prog 151 #[.agg #[], .pointer (some ⟨h.b,0,none⟩), .int .i64 ((j:Int)+1),k.agg] X fun e w'=> ∃(h1:HP) (y:Bool) (er:Value),e= .returned (.tuple #[.bool y,er])/\P h1 y er/\h1.ent=h.ent+1/\h.inn.To h1 X w'):Calls Tryz.prog 55 #[.pointer (some ⟨h.b,0,none⟩), .int .i64 ((j:Int)+1),k.agg] w fun e w'=> ∃(h1:HP) (y:Bool) (er:Value),e= .returned (.tuple #[.bool y,er])/\P h1 y er/\h.To h1.out w w':=by
 have SS:=Ab H.start
 have HC:=Ab hC
 have hE0:0<=h.ent+1/\h.ent+1<=100000001:=by have:=K.e0;have:=K.e1;have:=K.d1;omega
 clear hC
 rw[Le] at HC ⊢
 go_enter_defers Tryz.func55,Tryz.ntmps55
 go_wp2_with (first|go_skip|((with_reducible show wpList ..);first|(refine zB 42 (k.cs) (by rfl) rfl rfl rfl SS ?_;clear SS;intro Xp0 Bp0 SS;simp only[nn])))
 refine(Zag h j q _ ((Aa SS).hp 0 rfl) K hj hf hd).mono ?_
 rintro _ Y1 ⟨rfl,T1⟩
 replace SS:=Ab ((Aa SS).heap 0 rfl T1)
 clear T1
 unfold ordM
 go_wp2_with (first|go_skip|((with_reducible show wpList ..);first|(refine zL (k.cs) 42 2 1 rwK szK (by rfl) rfl rfl SS rfl rfl rfl ?_;simp only[nn])))
 refine(Aa HC _ (HP.To.end H (Aa SS) rfl)).mono ?_
 rintro _ Y2 ⟨h1,y,er,rfl,hP,hen,T2⟩
 replace SS:=Ab ((Aa SS).heap 0 rfl T2)
 have hb1:h1.b=h.b:=T2.hb
 clear T2
 go_wp2
 refine leaves_cons (f:=63) (args:= #[.pointer (some ⟨h.b,0,none⟩)]) (by simp) (by simp[go_sem]) ?_
 have HL:=Zr h1 .returning _ ((Aa SS).hp 0 rfl) (by rw[hen];exact hE0)
 rw[hb1] at HL
 refine HL.mono ?_
 rintro e u2 w2 ⟨rfl,rfl,T3⟩
 replace SS:=Ab ((Aa SS).heap 0 rfl T3)
 exact⟨_,results_tmp2 rfl _ _ _,h1,y,er,rfl,hP,HP.To.end H (Aa SS) hb1⟩
