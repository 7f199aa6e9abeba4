import Derived.Test.YthjnflilfjcgiaaGreatFmtRh
set_option linter.all false
namespace Go.Proofs.YthjnflilfjcgiaaGreatFmt
set_option maxRecDepth 100000
set_option maxHeartbeats 0
section
open Go Go.Proofs Go.Maps Go.RowKit FM Tryz
attribute [local go_sem] Ad Ag Ak Df Bi Ae Bg
attribute [local go_sem] Eg Ea Gi
theorem ex_neS {o:Oper} {a:Act} {w:World} {x y:Operand} {b:Nat} (h:FloatKind.f64.format.order b b=some Ordering.eq) (ho:o.op= .binOp .neq 33 x y 33) (hx:a.eval x= .float .f64 b) (hy:a.eval y= .float .f64 b):(execOp a.eval o).run prog w= .ok (.value (.bool false)) w:=by
 unfold execOp
 simp only[ho,hx,hy]
 simp[go_sem,eqGuard,h]
theorem Ki {o:Oper} {a:Act} {w:World} {x:Operand} {b:Nat} (h:FloatKind.f64.format.order b 0≠some Ordering.lt) (ho:o.op= .binOp .lss 33 x (.const (.float .f64 0)) 33) (hx:a.eval x= .float .f64 b):(execOp a.eval o).run prog w= .ok (.value (.bool false)) w:=by
 unfold execOp
 simp only[ho,hx]
 simp[go_sem,eqGuard,h]
theorem ex_gtS {o:Oper} {a:Act} {w:World} {x:Operand} {b:Nat} (h:FloatKind.f64.format.order b 9218868437227405311≠some Ordering.gt) (ho:o.op= .binOp .gtr 33 x (.const (.float .f64 9218868437227405311)) 33) (hx:a.eval x= .float .f64 b):(execOp a.eval o).run prog w= .ok (.value (.bool false)) w:=by
 unfold execOp
 simp only[ho,hx]
 simp[go_sem,eqGuard,h]
theorem split_0 (x:Nat) (M M2:Int) (a1:bits BinOp.and IntKind.u64 (x:Int) 4503599627370495=M) (a2:bits BinOp.and IntKind.u64 ((x:Int) / 4503599627370496) 2047=1023) (a3:bits BinOp.or IntKind.u64 M 4503599627370496=M2) (w:World):Calls prog 201 #[.float .f64 x] w fun e w'=>e= .returned (.tuple #[.int .u64 M2, .int .i64 (-52)])/\w'=w:=by
 go_enter func201,ntmps201
 go_wp2
 go_ret2
 exact⟨rfl,rfl⟩
theorem low_0 (M:Int) (w:World):Calls prog 200 #[.int .u64 M, .int .i64 (-52)] w fun e w'=>e= .returned (.int .u32 (M / 4503599627370496 % 4294967296))/\w'=w:=by
 go_enter func200,ntmps200
 go_wp2
 go_ret
 exact⟨rfl,rfl⟩
theorem split_1 (x:Nat) (M M2:Int) (a1:bits BinOp.and IntKind.u64 (x:Int) 4503599627370495=M) (a2:bits BinOp.and IntKind.u64 ((x:Int) / 4503599627370496) 2047=1024) (a3:bits BinOp.or IntKind.u64 M 4503599627370496=M2) (w:World):Calls prog 201 #[.float .f64 x] w fun e w'=>e= .returned (.tuple #[.int .u64 M2, .int .i64 (-51)])/\w'=w:=by
 go_enter func201,ntmps201
 go_wp2
 go_ret2
 exact⟨rfl,rfl⟩
theorem low_1 (M:Int) (w:World):Calls prog 200 #[.int .u64 M, .int .i64 (-51)] w fun e w'=>e= .returned (.int .u32 (M / 2251799813685248 % 4294967296))/\w'=w:=by
 go_enter func200,ntmps200
 go_wp2
 go_ret
 exact⟨rfl,rfl⟩
theorem split_2 (x:Nat) (M M2:Int) (a1:bits BinOp.and IntKind.u64 (x:Int) 4503599627370495=M) (a2:bits BinOp.and IntKind.u64 ((x:Int) / 4503599627370496) 2047=1025) (a3:bits BinOp.or IntKind.u64 M 4503599627370496=M2) (w:World):Calls prog 201 #[.float .f64 x] w fun e w'=>e= .returned (.tuple #[.int .u64 M2, .int .i64 (-50)])/\w'=w:=by
 go_enter func201,ntmps201
 go_wp2
 go_ret2
 exact⟨rfl,rfl⟩
theorem low_2 (M:Int) (w:World):Calls prog 200 #[.int .u64 M, .int .i64 (-50)] w fun e w'=>e= .returned (.int .u32 (M / 1125899906842624 % 4294967296))/\w'=w:=by
 go_enter func200,ntmps200
 go_wp2
 go_ret
 exact⟨rfl,rfl⟩
theorem split_3 (x:Nat) (M M2:Int) (a1:bits BinOp.and IntKind.u64 (x:Int) 4503599627370495=M) (a2:bits BinOp.and IntKind.u64 ((x:Int) / 4503599627370496) 2047=1026) (a3:bits BinOp.or IntKind.u64 M 4503599627370496=M2) (w:World):Calls prog 201 #[.float .f64 x] w fun e w'=>e= .returned (.tuple #[.int .u64 M2, .int .i64 (-49)])/\w'=w:=by
 go_enter func201,ntmps201
 go_wp2
 go_ret2
 exact⟨rfl,rfl⟩
theorem low_3 (M:Int) (w:World):Calls prog 200 #[.int .u64 M, .int .i64 (-49)] w fun e w'=>e= .returned (.int .u32 (M / 562949953421312 % 4294967296))/\w'=w:=by
 go_enter func200,ntmps200
 go_wp2
 go_ret
 exact⟨rfl,rfl⟩
theorem split_4 (x:Nat) (M M2:Int) (a1:bits BinOp.and IntKind.u64 (x:Int) 4503599627370495=M) (a2:bits BinOp.and IntKind.u64 ((x:Int) / 4503599627370496) 2047=1027) (a3:bits BinOp.or IntKind.u64 M 4503599627370496=M2) (w:World):Calls prog 201 #[.float .f64 x] w fun e w'=>e= .returned (.tuple #[.int .u64 M2, .int .i64 (-48)])/\w'=w:=by
 go_enter func201,ntmps201
 go_wp2
 go_ret2
 exact⟨rfl,rfl⟩
theorem low_4 (M:Int) (w:World):Calls prog 200 #[.int .u64 M, .int .i64 (-48)] w fun e w'=>e= .returned (.int .u32 (M / 281474976710656 % 4294967296))/\w'=w:=by
 go_enter func200,ntmps200
 go_wp2
 go_ret
 exact⟨rfl,rfl⟩
theorem split_5 (x:Nat) (M M2:Int) (a1:bits BinOp.and IntKind.u64 (x:Int) 4503599627370495=M) (a2:bits BinOp.and IntKind.u64 ((x:Int) / 4503599627370496) 2047=1028) (a3:bits BinOp.or IntKind.u64 M 4503599627370496=M2) (w:World):Calls prog 201 #[.float .f64 x] w fun e w'=>e= .returned (.tuple #[.int .u64 M2, .int .i64 (-47)])/\w'=w:=by
 go_enter func201,ntmps201
 go_wp2
 go_ret2
 exact⟨rfl,rfl⟩
theorem low_5 (M:Int) (w:World):Calls prog 200 #[.int .u64 M, .int .i64 (-47)] w fun e w'=>e= .returned (.int .u32 (M / 140737488355328 % 4294967296))/\w'=w:=by
 go_enter func200,ntmps200
 go_wp2
 go_ret
 exact⟨rfl,rfl⟩
theorem split_6 (x:Nat) (M M2:Int) (a1:bits BinOp.and IntKind.u64 (x:Int) 4503599627370495=M) (a2:bits BinOp.and IntKind.u64 ((x:Int) / 4503599627370496) 2047=1029) (a3:bits BinOp.or IntKind.u64 M 4503599627370496=M2) (w:World):Calls prog 201 #[.float .f64 x] w fun e w'=>e= .returned (.tuple #[.int .u64 M2, .int .i64 (-46)])/\w'=w:=by
 go_enter func201,ntmps201
 go_wp2
 go_ret2
 exact⟨rfl,rfl⟩
theorem low_6 (M:Int) (w:World):Calls prog 200 #[.int .u64 M, .int .i64 (-46)] w fun e w'=>e= .returned (.int .u32 (M / 70368744177664 % 4294967296))/\w'=w:=by
 go_enter func200,ntmps200
 go_wp2
 go_ret
 exact⟨rfl,rfl⟩
theorem split_7 (x:Nat) (M M2:Int) (a1:bits BinOp.and IntKind.u64 (x:Int) 4503599627370495=M) (a2:bits BinOp.and IntKind.u64 ((x:Int) / 4503599627370496) 2047=1030) (a3:bits BinOp.or IntKind.u64 M 4503599627370496=M2) (w:World):Calls prog 201 #[.float .f64 x] w fun e w'=>e= .returned (.tuple #[.int .u64 M2, .int .i64 (-45)])/\w'=w:=by
 go_enter func201,ntmps201
 go_wp2
 go_ret2
 exact⟨rfl,rfl⟩
theorem low_7 (M:Int) (w:World):Calls prog 200 #[.int .u64 M, .int .i64 (-45)] w fun e w'=>e= .returned (.int .u32 (M / 35184372088832 % 4294967296))/\w'=w:=by
 go_enter func200,ntmps200
 go_wp2
 go_ret
 exact⟨rfl,rfl⟩
theorem split_8 (x:Nat) (M M2:Int) (a1:bits BinOp.and IntKind.u64 (x:Int) 4503599627370495=M) (a2:bits BinOp.and IntKind.u64 ((x:Int) / 4503599627370496) 2047=1031) (a3:bits BinOp.or IntKind.u64 M 4503599627370496=M2) (w:World):Calls prog 201 #[.float .f64 x] w fun e w'=>e= .returned (.tuple #[.int .u64 M2, .int .i64 (-44)])/\w'=w:=by
 go_enter func201,ntmps201
 go_wp2
 go_ret2
 exact⟨rfl,rfl⟩
theorem low_8 (M:Int) (w:World):Calls prog 200 #[.int .u64 M, .int .i64 (-44)] w fun e w'=>e= .returned (.int .u32 (M / 17592186044416 % 4294967296))/\w'=w:=by
 go_enter func200,ntmps200
 go_wp2
 go_ret
 exact⟨rfl,rfl⟩
theorem split_z (a1:bits BinOp.and IntKind.u64 0 4503599627370495=0) (a2:bits BinOp.and IntKind.u64 0 2047=0) (w:World):Calls prog 201 #[.float .f64 0] w fun e w'=>e= .returned (.tuple #[.int .u64 0, .int .i64 (-1074)])/\w'=w:=by
 go_enter func201,ntmps201
 go_wp2
 go_ret2
 exact⟨rfl,rfl⟩
theorem low_z  (w:World):Calls prog 200 #[.int .u64 0, .int .i64 (-1074)] w fun e w'=>e= .returned (.int .u32 0)/\w'=w:=by
 go_enter func200,ntmps200
 go_wp2
 go_ret
 exact⟨rfl,rfl⟩
theorem abs_n (x:Nat) (a1:bits BinOp.andNot IntKind.u64 (x:Int) 9223372036854775808=(x:Int)) (w:World):Calls prog 225 #[.float .f64 x] w fun e w'=>e= .returned (.float .f64 x)/\w'=w:=by
 go_enter func225,ntmps225
 go_wp2
 go_ret
 exact⟨rfl,rfl⟩
theorem isinf_n (x:Nat) (a1:bits BinOp.andNot IntKind.u64 (x:Int) 9223372036854775808=(x:Int)) (hg:FloatKind.f64.format.order x 9218868437227405311≠some Ordering.gt) (w:World):Calls prog 214 #[.float .f64 x, .int .i64 0] w fun e w'=>e= .returned (.bool false)/\w'=w:=by
 have HG:=Ab hg
 have HA:=Ab a1
 clear hg a1
 go_enter func214,ntmps214
 go_wp2_with fail
 refine(abs_n x (Aa HA) _).mono ?_
 rintro _ _ ⟨rfl,rfl⟩
 go_wp2_with (first|go_skip|((with_reducible show wpList ..);first|(refine rd rfl (ex_gtS (Aa HG) rfl rfl) ?_)))
 go_ret
 exact⟨rfl,rfl⟩
theorem Oi (x:Nat) (a1:bits BinOp.andNot IntKind.u64 (x:Int) 9223372036854775808=(x:Int)) (hg:FloatKind.f64.format.order x 9218868437227405311≠some Ordering.gt) (hn:isN x=false) (w:World):Calls prog 199 #[.float .f64 x] w fun e w'=>e= .returned (.bool true)/\w'=w:=by
 have HG:=Ab hg
 have HA:=Ab a1
 have HN:=Ab hn
 clear hg a1 hn
 go_enter func199,ntmps199
 go_wp2_with fail
 have HI:=Ec x w
 rw[Aa HN] at HI
 refine HI.mono ?_
 rintro _ _ ⟨rfl,rfl⟩
 go_wp2_with fail
 refine(isinf_n x (Aa HA) (Aa HG) _).mono ?_
 rintro _ _ ⟨rfl,rfl⟩
 go_wp2
 go_ret
 exact⟨rfl,rfl⟩
def okF (x:Nat):Bool:=decide (FloatKind.f64.format.order x x=some Ordering.eq) && decide (FloatKind.f64.format.order x 0≠some Ordering.lt) && decide (FloatKind.f64.format.order x 9218868437227405311≠some Ordering.gt) && decide (bits BinOp.andNot IntKind.u64 (x:Int) 9223372036854775808=(x:Int)) && !isN x
def chk (c:Nat):Bool:=decide (bits BinOp.and IntKind.u64 ((nf c:Int) / 4503599627370496) 2047=1023+(Nat.log2 c:Int)) && decide (bits BinOp.or IntKind.u64 (bits BinOp.and IntKind.u64 (nf c:Int) 4503599627370495) 4503599627370496 / (2^(52 - Nat.log2 c):Nat) % 4294967296=(c:Int)) && decide (Nat.log2 c<=8)
theorem chkAll:(List.range 300).all (fun c=>chk (c+1))=true:=by kernel_rfl
theorem okAll:(List.range 301).all (fun c=>okF (nf c))=true:=by kernel_rfl
theorem ok_n {c:Nat} (h:c<=300):okF (nf c)=true:=List.all_eq_true.1 okAll c (List.mem_range.2 (by omega))
theorem chk_n {c:Nat} (h:c<=300) (h0:c≠0):chk c=true:=by
 have:=List.all_eq_true.1 chkAll (c - 1) (List.mem_range.2 (by omega))
 rwa [show c - 1+1=c by omega] at this
theorem nf_z:nf 0=0:=by kernel_rfl
structure OkF (x:Nat):Prop where
 eq:FloatKind.f64.format.order x x=some Ordering.eq
 lt:FloatKind.f64.format.order x 0≠some Ordering.lt
 gt:FloatKind.f64.format.order x 9218868437227405311≠some Ordering.gt
 ab:bits BinOp.andNot IntKind.u64 (x:Int) 9223372036854775808=(x:Int)
 nn:isN x=false
theorem okF_of {x:Nat} (h:okF x=true):OkF x:=by
 unfold okF at h
 simp only[Bool.and_eq_true,decide_eq_true_eq,Bool.not_eq_true'] at h
 obtain⟨⟨⟨⟨h1,h2⟩,h3⟩,h4⟩,h5⟩:=h
 exact⟨h1,h2,h3,h4,h5⟩
theorem u32_n (c:Nat) (hc:c<=300) (w:World):Calls prog 194 #[.float .f64 (nf c)] w fun e w'=>e= .returned (.int .u32 (c:Nat))/\w'=w:=by
 have HO:=Ab (okF_of (ok_n hc))
 by_cases h0:c=0
 ·subst h0
  rw[nf_z] at HO ⊢
  go_enter func194,ntmps194
  go_wp2_with fail
  refine(Oi _ (Aa HO).ab (Aa HO).gt (Aa HO).nn _).mono ?_
  rintro _ _ ⟨rfl,rfl⟩
  go_wp2_with fail
  refine(split_z (by kernel_rfl) (by kernel_rfl) _).mono ?_
  rintro _ _ ⟨rfl,rfl⟩
  go_wp2_with fail
  refine(low_z _).mono ?_
  rintro _ _ ⟨rfl,rfl⟩
  go_wp2_with (first|go_skip|((with_reducible show wpList ..);first|(refine rd rfl (Ki (Aa HO).lt rfl rfl) ?_)))
  go_ret
  exact⟨rfl,rfl⟩
 ·have hk:=chk_n hc h0
  unfold chk at hk
  simp only[Bool.and_eq_true,decide_eq_true_eq] at hk
  obtain⟨⟨h1,h2⟩,h3⟩:=hk
  obtain⟨M,hM⟩: ∃M,M=bits BinOp.and IntKind.u64 (nf c:Int) 4503599627370495:=⟨_,rfl⟩
  rw[←hM] at h2
  obtain⟨M2,hM2⟩: ∃M2,M2=bits BinOp.or IntKind.u64 M 4503599627370496:=⟨_,rfl⟩
  rw[←hM2] at h2
  have HM:=Ab hM
  have HM2:=Ab hM2
  clear hM hM2
  obtain⟨k,hk⟩: ∃k,k=Nat.log2 c:=⟨_,rfl⟩
  rw[←hk] at h1 h2 h3
  clear hk
  have hkc:k=0∨k=1∨k=2∨k=3∨k=4∨k=5∨k=6∨k=7∨k=8:=by omega
  rcases hkc with rfl|rfl|rfl|rfl|rfl|rfl|rfl|rfl|rfl
  ·have H1:=Ab h1
   have H2:Hid (M2 / 4503599627370496 % 4294967296=(c:Int)):=Ab h2
   clear h1 h2 h3
   go_enter func194,ntmps194
   go_wp2_with fail
   refine(Oi _ (Aa HO).ab (Aa HO).gt (Aa HO).nn _).mono ?_
   rintro _ _ ⟨rfl,rfl⟩
   go_wp2_with fail
   refine(split_0 _ M M2 (Aa HM).symm (Aa H1) (Aa HM2).symm _).mono ?_
   rintro _ _ ⟨rfl,rfl⟩
   go_wp2_with fail
   refine(low_0 M2 _).mono ?_
   rintro _ _ ⟨rfl,rfl⟩
   go_wp2_with (first|go_skip|((with_reducible show wpList ..);first|(refine rd rfl (Ki (Aa HO).lt rfl rfl) ?_)))
   go_ret
   exact⟨by rw[Aa H2];rfl,rfl⟩
  ·have H1:=Ab h1
   have H2:Hid (M2 / 2251799813685248 % 4294967296=(c:Int)):=Ab h2
   clear h1 h2 h3
   go_enter func194,ntmps194
   go_wp2_with fail
   refine(Oi _ (Aa HO).ab (Aa HO).gt (Aa HO).nn _).mono ?_
   rintro _ _ ⟨rfl,rfl⟩
   go_wp2_with fail
   refine(split_1 _ M M2 (Aa HM).symm (Aa H1) (Aa HM2).symm _).mono ?_
   rintro _ _ ⟨rfl,rfl⟩
   go_wp2_with fail
   refine(low_1 M2 _).mono ?_
   rintro _ _ ⟨rfl,rfl⟩
   go_wp2_with (first|go_skip|((with_reducible show wpList ..);first|(refine rd rfl (Ki (Aa HO).lt rfl rfl) ?_)))
   go_ret
   exact⟨by rw[Aa H2];rfl,rfl⟩
  ·have H1:=Ab h1
   have H2:Hid (M2 / 1125899906842624 % 4294967296=(c:Int)):=Ab h2
   clear h1 h2 h3
   go_enter func194,ntmps194
   go_wp2_with fail
   refine(Oi _ (Aa HO).ab (Aa HO).gt (Aa HO).nn _).mono ?_
   rintro _ _ ⟨rfl,rfl⟩
   go_wp2_with fail
   refine(split_2 _ M M2 (Aa HM).symm (Aa H1) (Aa HM2).symm _).mono ?_
   rintro _ _ ⟨rfl,rfl⟩
   go_wp2_with fail
   refine(low_2 M2 _).mono ?_
   rintro _ _ ⟨rfl,rfl⟩
   go_wp2_with (first|go_skip|((with_reducible show wpList ..);first|(refine rd rfl (Ki (Aa HO).lt rfl rfl) ?_)))
   go_ret
   exact⟨by rw[Aa H2];rfl,rfl⟩
  ·have H1:=Ab h1
   have H2:Hid (M2 / 562949953421312 % 4294967296=(c:Int)):=Ab h2
   clear h1 h2 h3
   go_enter func194,ntmps194
   go_wp2_with fail
   refine(Oi _ (Aa HO).ab (Aa HO).gt (Aa HO).nn _).mono ?_
   rintro _ _ ⟨rfl,rfl⟩
   go_wp2_with fail
   refine(split_3 _ M M2 (Aa HM).symm (Aa H1) (Aa HM2).symm _).mono ?_
   rintro _ _ ⟨rfl,rfl⟩
   go_wp2_with fail
   refine(low_3 M2 _).mono ?_
   rintro _ _ ⟨rfl,rfl⟩
   go_wp2_with (first|go_skip|((with_reducible show wpList ..);first|(refine rd rfl (Ki (Aa HO).lt rfl rfl) ?_)))
   go_ret
   exact⟨by rw[Aa H2];rfl,rfl⟩
  ·have H1:=Ab h1
   have H2:Hid (M2 / 281474976710656 % 4294967296=(c:Int)):=Ab h2
   clear h1 h2 h3
   go_enter func194,ntmps194
   go_wp2_with fail
   refine(Oi _ (Aa HO).ab (Aa HO).gt (Aa HO).nn _).mono ?_
   rintro _ _ ⟨rfl,rfl⟩
   go_wp2_with fail
   refine(split_4 _ M M2 (Aa HM).symm (Aa H1) (Aa HM2).symm _).mono ?_
   rintro _ _ ⟨rfl,rfl⟩
   go_wp2_with fail
   refine(low_4 M2 _).mono ?_
   rintro _ _ ⟨rfl,rfl⟩
   go_wp2_with (first|go_skip|((with_reducible show wpList ..);first|(refine rd rfl (Ki (Aa HO).lt rfl rfl) ?_)))
   go_ret
   exact⟨by rw[Aa H2];rfl,rfl⟩
  ·have H1:=Ab h1
   have H2:Hid (M2 / 140737488355328 % 4294967296=(c:Int)):=Ab h2
   clear h1 h2 h3
   go_enter func194,ntmps194
   go_wp2_with fail
   refine(Oi _ (Aa HO).ab (Aa HO).gt (Aa HO).nn _).mono ?_
   rintro _ _ ⟨rfl,rfl⟩
   go_wp2_with fail
   refine(split_5 _ M M2 (Aa HM).symm (Aa H1) (Aa HM2).symm _).mono ?_
   rintro _ _ ⟨rfl,rfl⟩
   go_wp2_with fail
   refine(low_5 M2 _).mono ?_
   rintro _ _ ⟨rfl,rfl⟩
   go_wp2_with (first|go_skip|((with_reducible show wpList ..);first|(refine rd rfl (Ki (Aa HO).lt rfl rfl) ?_)))
   go_ret
   exact⟨by rw[Aa H2];rfl,rfl⟩
  ·have H1:=Ab h1
   have H2:Hid (M2 / 70368744177664 % 4294967296=(c:Int)):=Ab h2
   clear h1 h2 h3
   go_enter func194,ntmps194
   go_wp2_with fail
   refine(Oi _ (Aa HO).ab (Aa HO).gt (Aa HO).nn _).mono ?_
   rintro _ _ ⟨rfl,rfl⟩
   go_wp2_with fail
   refine(split_6 _ M M2 (Aa HM).symm (Aa H1) (Aa HM2).symm _).mono ?_
   rintro _ _ ⟨rfl,rfl⟩
   go_wp2_with fail
   refine(low_6 M2 _).mono ?_
   rintro _ _ ⟨rfl,rfl⟩
   go_wp2_with (first|go_skip|((with_reducible show wpList ..);first|(refine rd rfl (Ki (Aa HO).lt rfl rfl) ?_)))
   go_ret
   exact⟨by rw[Aa H2];rfl,rfl⟩
  ·have H1:=Ab h1
   have H2:Hid (M2 / 35184372088832 % 4294967296=(c:Int)):=Ab h2
   clear h1 h2 h3
   go_enter func194,ntmps194
   go_wp2_with fail
   refine(Oi _ (Aa HO).ab (Aa HO).gt (Aa HO).nn _).mono ?_
   rintro _ _ ⟨rfl,rfl⟩
   go_wp2_with fail
   refine(split_7 _ M M2 (Aa HM).symm (Aa H1) (Aa HM2).symm _).mono ?_
   rintro _ _ ⟨rfl,rfl⟩
   go_wp2_with fail
   refine(low_7 M2 _).mono ?_
   rintro _ _ ⟨rfl,rfl⟩
   go_wp2_with (first|go_skip|((with_reducible show wpList ..);first|(refine rd rfl (Ki (Aa HO).lt rfl rfl) ?_)))
   go_ret
   exact⟨by rw[Aa H2];rfl,rfl⟩
  ·have H1:=Ab h1
   have H2:Hid (M2 / 17592186044416 % 4294967296=(c:Int)):=Ab h2
   clear h1 h2 h3
   go_enter func194,ntmps194
   go_wp2_with fail
   refine(Oi _ (Aa HO).ab (Aa HO).gt (Aa HO).nn _).mono ?_
   rintro _ _ ⟨rfl,rfl⟩
   go_wp2_with fail
   refine(split_8 _ M M2 (Aa HM).symm (Aa H1) (Aa HM2).symm _).mono ?_
   rintro _ _ ⟨rfl,rfl⟩
   go_wp2_with fail
   refine(low_8 M2 _).mono ?_
   rintro _ _ ⟨rfl,rfl⟩
   go_wp2_with (first|go_skip|((with_reducible show wpList ..);first|(refine rd rfl (Ki (Aa HO).lt rfl rfl) ?_)))
   go_ret
   exact⟨by rw[Aa H2];rfl,rfl⟩
theorem whole_n (h:HP) (c:Nat) (hc:c<=300) (w:World) (H:h.Is w) (hT:Tabs w):Calls prog 193 #[.pointer (some ⟨h.b,0,none⟩),(Ee (nf c)).agg, .func (.func 194) #[] #[]] w fun e w'=>e= .returned (.tuple #[.int .u32 (c:Nat), .nilIface])/\Below w.heap.size w w':=by
 have SS:=Ab (Sy.nil w [])
 have HH:=Ab H
 clear H
 have HT:=Ab hT
 clear hT
 rw[Dd]
 go_enter func193,ntmps193
 go_wp2_with (first|go_skip|((with_reducible show wpList ..);first|(refine zB 35 (Gc (nf c)) (by rfl) rfl rfl rfl SS ?_;clear SS;intro Xa Ba SS;simp only[nn])|(refine zL (Gc (nf c)) 35 5 0 rwV szV (by rfl) rfl rfl SS rfl rfl rfl ?_;simp only[nn])))
 have HO:=Jh h (nf c) _ ((Aa HH).on (Aa SS).fr.below) ((Aa HT).on (Aa SS).fr.below)
 rw[Dd] at HO
 refine HO.mono ?_
 clear HO
 rintro _ Y ⟨rfl,hb⟩
 replace SS:=Ab ((Aa SS).on hb)
 clear hb
 go_wp2_with fail
 refine(u32_n c hc _).mono ?_
 rintro _ _ ⟨rfl,rfl⟩
 go_wp2
 go_ret2
 exact⟨rfl,(Aa SS).fr.below⟩
theorem cu32_n (h:HP) (c:Nat) (hc:c<=300) (w:World) (H:h.Is w) (hT:Tabs w):Calls prog 189 #[.pointer (some ⟨h.b,0,none⟩),(Ee (nf c)).agg] w fun e w'=>e= .returned (.tuple #[.int .u32 (c:Nat), .nilIface])/\Below w.heap.size w w':=by
 have SS:=Ab (Sy.nil w [])
 have HH:=Ab H
 clear H
 have HT:=Ab hT
 clear hT
 rw[Dd]
 go_enter func189,ntmps189
 go_wp2_with (first|go_skip|((with_reducible show wpList ..);first|(refine zB 35 (Gc (nf c)) (by rfl) rfl rfl rfl SS ?_;clear SS;intro Xa Ba SS;simp only[nn])|(refine zL (Gc (nf c)) 35 5 0 rwV szV (by rfl) rfl rfl SS rfl rfl rfl ?_;simp only[nn])))
 have HO:=whole_n h c hc _ ((Aa HH).on (Aa SS).fr.below) ((Aa HT).on (Aa SS).fr.below)
 rw[Dd] at HO
 refine HO.mono ?_
 clear HO
 rintro _ Y ⟨rfl,hb⟩
 replace SS:=Ab ((Aa SS).on hb)
 clear hb
 go_wp2
 go_ret2
 exact⟨rfl,(Aa SS).fr.below⟩
theorem aslen_n0 (h:HP) (c:Nat) (hc:c<=300) (w:World) (H:h.Is w) (hT:Tabs w):Calls prog 187 #[.pointer (some ⟨h.b,0,none⟩),(Ee (nf c)).agg] w fun e w'=>e= .returned (.tuple #[.int .u32 (c:Nat), .nilIface])/\Below w.heap.size w w':=by
 have HQ:=Ab (okF_of (ok_n hc)).eq
 have SS:=Ab (Sy.nil w [])
 have HH:=Ab H
 clear H
 have HT:=Ab hT
 clear hT
 rw[Dd]
 go_enter func187,ntmps187
 go_wp2_with (first|go_skip|((with_reducible show wpList ..);first|(refine zB 35 (Gc (nf c)) (by rfl) rfl rfl rfl SS ?_;clear SS;intro Xa Ba SS;simp only[nn])|(refine zL (Gc (nf c)) 35 5 0 rwV szV (by rfl) rfl rfl SS rfl rfl rfl ?_;simp only[nn])))
 have HO:=cu32_n h c hc _ ((Aa HH).on (Aa SS).fr.below) ((Aa HT).on (Aa SS).fr.below)
 rw[Dd] at HO
 refine HO.mono ?_
 clear HO
 rintro _ Y ⟨rfl,hb⟩
 replace SS:=Ab ((Aa SS).on hb)
 clear hb
 go_wp2_with (first|go_skip|((with_reducible show wpList ..);first|(refine zL (Gc (nf c)) 35 5 0 rwV szV (by rfl) rfl rfl SS rfl rfl rfl ?_;simp only[nn])))
 have HO:=Jh h (nf c) _ ((Aa HH).on (Aa SS).fr.below) ((Aa HT).on (Aa SS).fr.below)
 rw[Dd] at HO
 refine HO.mono ?_
 clear HO
 rintro _ Y ⟨rfl,hb⟩
 replace SS:=Ab ((Aa SS).on hb)
 clear hb
 go_wp2_with (first|go_skip|((with_reducible show wpList ..);first|(refine rd rfl (Ev rfl rfl) ?_)|(refine rd rfl (ex_neS (Aa HQ) rfl rfl rfl) ?_)))
 go_ret2
 exact⟨rfl,(Aa SS).fr.below⟩
theorem aslen_n (h:HP) (c:Nat) (hc:c<=300∨c=4294967295) (w:World) (H:h.Is w) (hT:Tabs w):Calls prog 187 #[.pointer (some ⟨h.b,0,none⟩),(Ee (nf c)).agg] w fun e w'=>e= .returned (.tuple #[.int .u32 (c:Nat), .nilIface])/\Below w.heap.size w w':=by
 rcases hc with hc|rfl
 ·exact aslen_n0 h c hc w H hT
 ·rw[ZaQ]
  exact aslen_mx h w H hT
