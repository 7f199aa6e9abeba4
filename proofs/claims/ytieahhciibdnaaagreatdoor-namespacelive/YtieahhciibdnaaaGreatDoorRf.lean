import Derived.Test.YtieahhciibdnaaaGreatDoorRc
set_option linter.all false
namespace Go.Proofs.YtieahhciibdnaaaGreatDoor
set_option maxRecDepth 100000
set_option maxHeartbeats 0
section
open Go Go.Proofs Go.Maps Go.RowKit FM
attribute [local go_sem] Ak Ae Aq Dl Dk Bl Af Aj Ad Bj Et Es
def PostN (R:Act->World->Prop) (e:Exit) (a:Act) (X:World):Prop:=match e with| .normal=>R a X|_=>False
theorem pN {R:Act->World->Prop} {a:Act} {X:World} (h:R a X):PostN R .normal a X:=h
theorem Gd {P:Program} {id:Nat} {ops:Array Oper} {Q:Exit->Act->World->Prop} {a:Act} {w:World} (R:Act->Act->World->Prop) (h1:(Code.region id ops true).wp P (PostN (R a)) a w) (h2: ∀a' X,R a a' X->Q .normal a' X):(Code.region id ops true).wp P Q a w:=Code.wp_mono (fun e a' X h=>by cases e<;>first|exact h2 a' X h|exact h.elim) h1
theorem Jh {l:List Int} (h:orE l=0): ∀e∈l,e=0:=by
 induction l with
 |nil=>intro e he;cases he
 |cons a l ih=>
  unfold orE at h
  split at h
  ·rename_i h0
   intro e he
   rcases List.mem_cons.1 he with rfl|he
   ·exact h0
   ·exact ih h e he
  ·rename_i h0
   exact absurd h h0
theorem Kl {o:Int} {h:HP} (he:thE o h.l.length=0): ∃(j:Nat) (q:OB),o=(j:Int)+1/\h.l[j]? =some q:=by
 unfold thE at he
 split at he
 ·rename_i h1
  exact ZbE h1
 ·cases he
theorem ZdV {k:KK} (h:Bh k=0):goodK k=true:=by
 unfold Bh at h
 split at h
 ·assumption
 ·cases h
theorem Qr (h:HP) (o:Int) (k:KK) (w:World) (H:h.Is w) (hl:h.l.length<=65536) (hT:Tabs w) (P:HP->DD->Bool->Value->Prop) (hC: ∀(j:Nat) (q:OB) (X:World),o=(j:Int)+1->h.l[j]? =some q->orE [thE o h.l.length,Bh k]=0->h.To h w X->Calls Tryz.prog 181 #[.pointer (some ⟨h.b,0,none⟩), .int .i64 ((j:Int)+1),k.agg] X fun e w'=> ∃(h1:HP) (V:DD) (y:Bool) (er:Value),e= .returned (.tuple #[V.agg, .bool y,er])/\P h1 V y er/\h.To h1 X w'):Calls Tryz.prog 232 #[.pointer (some ⟨h.b,0,none⟩), .int .i64 o,k.agg] w fun e w'=> ∃(h1:HP) (V:DD) (y:Bool) (er:Value),e= .returned (.tuple #[V.agg, .bool y,er])/\((orE [thE o h.l.length,Bh k]≠0/\er=Qp (orE [thE o h.l.length,Bh k])/\h1=h)∨(orE [thE o h.l.length,Bh k]=0/\P h1 V y er))/\h.To h1 w w':=by
 have SS:=Ab H.start
 rw[Dg]
 go_enter Tryz.func232,Tryz.ntmps232
 go_wp2_with (first|go_skip|((with_reducible show wpList ..);first|(refine zB 45 (k.cs) (by rfl) rfl rfl rfl SS ?_;clear SS;intro Xp0 Bp0 SS;simp only[nn])|(refine zA 48 (Ar.cs) (by rfl) rfl SS ?_;clear SS;intro Xc Bc SS;simp only[nn])))
 have kt:=fun {X:World} (s:h.Is X)=>Je h o X s
 have kk:=fun {X:World} (s:Fr w X h.blocks)=>Lu k X (hT.fr s H.low).1
 have ko:=fun {X:World} {B:Nat} (g:Holds X B (Md [thE o h.l.length,Bh k]))=>Lt B 2 [thE o h.l.length,Bh k] X g (by simp)
 have hS1:Sy w _ h.blocks [hpO h,Ao Bp0 k.cs,Ao Bc Ar.cs]:=(Aa SS).drew
 clear SS
 refine Gd (fun a a' X=> ∃(v15:Value),a'=((((((((a.put (some 10) (.pointer (some ⟨h.b,0,none⟩))).put (some 11) (.int .i64 o)).put (some 12) (.int .i64 (thE o h.l.length))).put (some 13) (.agg k.cs.toArray)).put (some 14) (.int .i64 (Bh k))).put (some 15) v15).put (some 16) (.int .i64 (orE [thE o h.l.length,Bh k]))).put (some 9) (.int .i64 (orE [thE o h.l.length,Bh k])))/\Sy w X h.blocks [hpO h,Ao Bp0 k.cs,Ao Bc Ar.cs]) ?_ ?_
 ·refine wp_region_held_drew (P:=Tryz.prog) (S:=fun X=>Sy w X h.blocks _) (by kernel_rfl) (hS1) (fun hS0=> ?_)
  refine gp 0 (some 10) (.pointer (some ⟨h.b,0,none⟩)) rfl rfl (hS1) ?_
  refine gp 1 (some 11) (.int .i64 o) rfl rfl (hS1) ?_
  refine gq 3 (some 13) (.agg k.cs.toArray) rfl rfl (fun X hX=>Am (vs:=k.cs) 45 2 rwK szK rfl rfl (hX.hold 1 rfl) rfl rfl) (hS1) ?_
  refine gr (rs:= [2]) (gcW 2 (some 12) rfl rfl (hS1) (kt (hS1.hp 0 rfl)) ?_ gn)
  simp only[nn]
  refine gr (rs:= [4]) (gcB 4 (some 14) rfl rfl hS1 (kk hS1.fr) id ?_ gn)
  intro Yt2 hqt2
  simp only[nn]
  refine gr (rs:= [5]) (Ax 5 (some 15) rfl rfl (by kernel_rfl) (ZaI rfl rfl rfl) (Nat.succ_pos _) hqt2 (fun _ hZ=>Sy.left (L:= [_,_,_]) (M:= [_]) hZ) ?_ gn)
  intro Yt3 Bt3 hEt3 hqt3
  clear hEt3
  simp only[nn]
  refine gr (rs:= [6]) (gcW 6 (some 16) rfl rfl (Sy.left (L:= [_,_,_]) (M:= [_]) hqt3) (ko (hqt3.hold 3 rfl)) ?_ gn)
  refine gp 7 (some 9) (.int .i64 (orE [thE o h.l.length,Bh k])) rfl rfl (Sy.left (L:= [_,_,_]) (M:= [_]) hqt3) ?_
  refine dn ?_
  try simp only[nn]
  exact pN ⟨_,rfl,Sy.left (L:= [_,_,_]) (M:= [_]) hqt3⟩
 ·rintro a' X ⟨v15,rfl,hS9⟩
  simp only[nn]
  have SS:=Ab hS9
  clear hS9
  by_cases hc:orE [thE o h.l.length,Bh k]=0
  ·obtain⟨j,q,ho_,hj⟩:=Kl (h:=h) (o:=o) (Jh hc (thE o h.l.length) (by simp))
   have HO_:=Ab ho_
   clear ho_
   go_wp2_with (first|go_skip|((with_reducible show wpList ..);first|(refine rd rfl (Jl rfl rfl rfl hc) ?_)|(refine zL (k.cs) 45 2 1 rwK szK (by rfl) rfl rfl SS rfl rfl rfl ?_;simp only[nn])))
   have HC:=hC j q _ (Aa HO_) hj hc (HP.To.end H (Aa SS) rfl)
   rw[Dg] at HC
   rw[←Aa HO_] at HC
   refine HC.mono ?_
   rintro _ Y9 ⟨h1,V,y,er,rfl,hP,T9⟩
   replace SS:=Ab ((Aa SS).heap 0 rfl T9)
   have hb9:h1.b=h.b:=T9.hb
   clear T9 HC
   rw[Lh]
   go_wp2_with (first|go_skip|((with_reducible show wpList ..);first|(refine zS (V.cs) 2 48 (by rfl) rfl rfl rfl rfl (Gf _) szD SS rfl ?_;clear SS;intro Xy SS;simp only[nn])))
   refine bodyPost_ret (Ge rwD szD rfl rfl rfl rfl ((Aa SS).hold 2 rfl) rfl) rfl ?_
   exact⟨h1,V,y,er,rfl, .inr ⟨hc,hP⟩,HP.To.end H (Aa SS) hb9⟩
  ·go_wp2_with (first|go_skip|((with_reducible show wpList ..);first|(refine rd rfl (Jy rfl rfl rfl hc) ?_)|(refine rd rfl (Nk rfl) ?_)|(refine zS (Ar.cs) 2 48 (by rfl) rfl rfl rfl rfl (Gf _) szD SS rfl ?_;clear SS;intro Xz SS;simp only[nn])))
   refine bodyPost_ret (Ge rwD szD rfl rfl rfl rfl ((Aa SS).hold 2 rfl) rfl) rfl ?_
   exact⟨h,Ar,false,_,rfl, .inl ⟨hc,rfl,rfl⟩,HP.To.end H (Aa SS) rfl⟩
