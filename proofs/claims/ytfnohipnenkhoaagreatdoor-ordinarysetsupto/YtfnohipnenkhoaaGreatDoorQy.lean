import Derived.Test.YtfnohipnenkhoaaGreatDoorQx
set_option linter.all false
namespace Go.Proofs.YtfnohipnenkhoaaGreatDoor
set_option maxRecDepth 100000
set_option maxHeartbeats 0
section
open Go Go.Proofs Go.Maps Go.RowKit FM Tryz
attribute [local go_sem] Am Al Ar Ah Ao Ai Aw Do Dn Bq Aj Bo
def OkD (d:DD):Prop:=FD d/\wholeV d=true/\d.g.k≠7/\d.s.k≠7
structure OB.Wf (n:Nat) (q:OB):Prop where
 c:q.c=1
 px:q.p.x<2^64
 pk:q.p.k=2∨q.p.k=7
 pi:q.p.k=7->1<=q.p.i/\q.p.i<=(n:Int)
 ps: ∀e∈pr q.T,OkD e.2
structure HP.Wf (h:HP):Prop where
 ok:h.Ok
 ob: ∀(j:Nat) (q:OB),h.l[j]? =some q->OB.Wf h.l.length q
structure Low (h h1:HP):Prop where
 eq:h1={h with fuel:=h1.fuel}
 le:h1.fuel<=h.fuel
 ge:0<=h1.fuel
theorem Low.refl {h:HP} (K:h.Ok):Low h h:=⟨rfl,Int.le_refl _,K.f0⟩
theorem Low.l {h h1:HP} (L:Low h h1):h1.l=h.l:=by rw[L.eq]
theorem Low.ent {h h1:HP} (L:Low h h1):h1.ent=h.ent:=by rw[L.eq]
theorem Low.ok {h h1:HP} (L:Low h h1) (K:h.Ok):h1.Ok:=by
 have e:=L.eq
 have a:=L.le
 have b:=L.ge
 generalize h1.fuel=f at *
 subst e
 exact⟨K.len,b,Int.le_trans a K.f1,K.e0,K.e1,K.d1⟩
theorem Low.trans {h h1 h2:HP} (A:Low h h1) (B:Low h1 h2):Low h h2:=by
 refine⟨?_,Int.le_trans B.le A.le,B.ge⟩
 rw[B.eq]
 have e:=A.eq
 generalize h1.fuel=f at *
 subst e
 rfl
theorem Low.wf {h h1:HP} (L:Low h h1) (K:h.Wf):h1.Wf:=⟨L.ok K.ok,fun j q hj=>by rw[L.l] at hj ⊢;exact K.ob j q hj⟩
theorem Ej {h:HP} (K:h.Ok) (hf:h.fuel≠0):Low h h.less:=⟨rfl,by show h.fuel - 1<=h.fuel;omega,by show 0<=h.fuel - 1;have:=K.f0;omega⟩
theorem ZbK {h:HP} (K:h.Ok) (hf:h.fuel≠0) (hd:h.ent≠h.depth):h.inn.Ok:=⟨K.len,by show 0<=h.fuel - 1;have:=K.f0;omega,by show h.fuel - 1<=_;have:=K.f1;omega,by show 0<=h.ent+1;have:=K.e0;omega,by show h.ent+1<=h.depth;have:=K.e1;omega,K.d1⟩
theorem ZbJ {h:HP} (K:h.Wf) (hf:h.fuel≠0) (hd:h.ent≠h.depth):h.inn.Wf:=⟨ZbK K.ok hf hd,K.ob⟩
theorem Uu {h h1:HP} (K:h.Ok) (hf:h.fuel≠0) (L:Low h.inn h1):Low h h1.out/\h1.out.fuel<h.fuel:=by
 have e:=L.eq
 have a:h1.fuel<=h.fuel - 1:=L.le
 have b:=L.ge
 have c:h1.out.fuel=h1.fuel:=rfl
 refine⟨⟨?_,by rw[c];omega,by rw[c];exact b⟩,by rw[c];omega⟩
 generalize h1.fuel=f at *
 subst e
 unfold HP.out HP.inn
 simp
def Er (er:Value):Prop:=er= .nilIface∨er=Bs 1∨er=Bs 2
def Jj (h h1:HP) (er:Value):Prop:=Er er/\(h.fuel=0->er=Bs 1/\h1=h)/\(h.fuel≠0->h1.fuel<h.fuel)
theorem Jy {o:Oper} {a:Act} {w:World} {x y:Operand} {n m:Int} (ho:o.op= .binOp .neq 3 x y 3) (hx:a.eval x= .int .i64 n) (hc:a.eval y= .int .i64 m) (h:n≠m):(execOp a.eval o).run prog w= .ok (.value (.bool true)) w:=by
 unfold execOp
 simp only[ho,hx,hc]
 simp[go_sem,eqGuard,h]
theorem Eh {o:Oper} {a:Act} {w:World} {x y:Operand} {n m:Int} (ho:o.op= .binOp .neq 3 x y 3) (hx:a.eval x= .int .i64 n) (hc:a.eval y= .int .i64 m) (h:n=m):(execOp a.eval o).run prog w= .ok (.value (.bool false)) w:=by
 unfold execOp
 simp only[ho,hx,hc]
 simp[go_sem,eqGuard,h]
theorem Rh {h:HP} (K:h.Wf) {j:Nat} {q:OB} (hj:h.l[j]? =some q) (hk:q.p.k=7): ∃(i:Nat) (q':OB),q.p.i=(i:Int)+1/\h.l[i]? =some q':=by
 have h1:=(K.ob j q hj).pi hk
 exact Oc (h:=h) (o:=q.p.i) (by unfold Rm;simp;exact h1)
def HasC (n:Int):Prop:= ∀(h:HP) (j:Nat) (q:OB) (k:KK) (w:World),h.fuel<=n->h.Is w->h.Wf->h.l[j]? =some q->OkK k->Calls prog 87 #[.pointer (some ⟨h.b,0,none⟩), .int .i64 ((j:Int)+1),k.agg] w fun e w'=> ∃(h1:HP) (y:Bool) (er:Value),e= .returned (.tuple #[.bool y,er])/\(Low h h1/\Jj h h1 er)/\h.To h1 w w'
theorem ord_has (h:HP) (j:Nat) (q:OB) (k:KK) (n:Int) (w:World) (H:h.Is w) (K:h.Wf) (hj:h.l[j]? =some q) (hk:OkK k) (hI:HasC n) (hn:h.fuel<=n):Calls prog 157 #[.agg #[], .pointer (some ⟨h.b,0,none⟩), .int .i64 ((j:Int)+1),k.agg] w fun e w'=> ∃(h1:HP) (y:Bool) (er:Value),e= .returned (.tuple #[.bool y,er])/\(Low h h1/\Er er)/\h.To h1 w w':=by
 have hl:=K.ok.len
 cases hfi:q.T.find k with
 |some r=>
  have SS:=Ab H.start
  rw[Ds]
  go_enter func157,ntmps157
  go_wp2_with (first|go_skip|((with_reducible show wpList ..);first|((refine bx0 91 (by rfl) rfl rfl (Aa SS) ?_);intro X0 B0 S0;replace SS:=Ab S0;clear S0;simp only[nn])|(refine zB 48 (k.cs) (by rfl) rfl rfl rfl SS ?_;clear SS;intro Xa Ba SS;simp only[nn])|(refine zL (k.cs) 48 2 1 rwK szK (by rfl) rfl rfl SS rfl rfl rfl ?_;simp only[nn])))
  refine(Ki h j q k _ ((Aa SS).hp 0 rfl) hl hj hk).mono ?_
  rintro _ Y1 ⟨rfl,hb1⟩
  replace SS:=Ab ((Aa SS).on hb1)
  clear hb1
  rw[hfi]
  go_wp2_with (first|go_skip|((with_reducible show wpList ..);first|(refine zA 39 (Ak.cs) (by rfl) rfl SS ?_;clear SS;intro Xb Bb SS;simp only[nn])|(refine zS ((getD q.T k).cs) 2 39 (by rfl) rfl rfl rfl rfl (Ek _) szD SS rfl ?_;clear SS;intro Xz SS;simp only[nn])))
  refine(Kg h j q _ ((Aa SS).hp 0 rfl) hj hl).mono ?_
  rintro _ _ ⟨rfl,rfl⟩
  have HO:=Ab (((Aa SS).hp 0 rfl).ob hj).1
  go_wp2_with (first|go_skip|((with_reducible show wpList ..);first|(refine rd rfl (Af (vs:=q.p.cs) 36 5 rwV szV rfl rfl (Aa HO) rfl rfl) ?_)|(refine zA 36 (Av.cs) (by rfl) rfl SS ?_;clear SS;intro Xc Bc SS;simp only[nn])|(refine zS (q.p.cs) 3 36 (by rfl) rfl rfl rfl rfl (Em _) szV SS rfl ?_;clear SS;intro Xy SS;simp only[nn])))
  go_ret2
  exact⟨h,_,_,rfl,⟨Low.refl K.ok, .inl rfl⟩,HP.To.end H (Aa SS) rfl⟩
 |none=>
  by_cases hpk:q.p.k=7
  ·obtain⟨i,q2,hi,hq2⟩:=Rh K hj hpk
   have SS:=Ab H.start
   rw[Ds]
   go_enter func157,ntmps157
   go_wp2_with (first|go_skip|((with_reducible show wpList ..);first|((refine bx0 91 (by rfl) rfl rfl (Aa SS) ?_);intro X0 B0 S0;replace SS:=Ab S0;clear S0;simp only[nn])|(refine zB 48 (k.cs) (by rfl) rfl rfl rfl SS ?_;clear SS;intro Xa Ba SS;simp only[nn])|(refine zL (k.cs) 48 2 1 rwK szK (by rfl) rfl rfl SS rfl rfl rfl ?_;simp only[nn])))
   refine(Ki h j q k _ ((Aa SS).hp 0 rfl) hl hj hk).mono ?_
   rintro _ Y1 ⟨rfl,hb1⟩
   replace SS:=Ab ((Aa SS).on hb1)
   clear hb1
   rw[hfi]
   go_wp2_with (first|go_skip|((with_reducible show wpList ..);first|(refine zA 39 (Ak.cs) (by rfl) rfl SS ?_;clear SS;intro Xb Bb SS;simp only[nn])|(refine zS ((getD q.T k).cs) 2 39 (by rfl) rfl rfl rfl rfl (Ek _) szD SS rfl ?_;clear SS;intro Xz SS;simp only[nn])))
   refine(Kg h j q _ ((Aa SS).hp 0 rfl) hj hl).mono ?_
   rintro _ _ ⟨rfl,rfl⟩
   have HO:=Ab (((Aa SS).hp 0 rfl).ob hj).1
   go_wp2_with (first|go_skip|((with_reducible show wpList ..);first|(refine rd rfl (Af (vs:=q.p.cs) 36 5 rwV szV rfl rfl (Aa HO) rfl rfl) ?_)|(refine zA 36 (Av.cs) (by rfl) rfl SS ?_;clear SS;intro Xc Bc SS;simp only[nn])|(refine zS (q.p.cs) 3 36 (by rfl) rfl rfl rfl rfl (Em _) szV SS rfl ?_;clear SS;intro Xy SS;simp only[nn])|(refine rd rfl (Ad 3 isAgg3 rfl rfl ((Aa SS).hold 3 rfl) rfl) ?_)|(refine zL (k.cs) 48 2 1 rwK szK (by rfl) rfl rfl SS rfl rfl rfl ?_;simp only[nn])|(refine rd rfl (Eh rfl rfl rfl hpk) ?_)))
   have HC:=Ab (hI h i q2 k _ hn ((Aa SS).hp 0 rfl) K hq2 hk)
   rw[Ds] at HC
   refine(Aa HC).mono ?_
   rintro _ Y2 ⟨h1,y,er,rfl,⟨hL,hE⟩,T2⟩
   replace SS:=Ab ((Aa SS).heap 0 rfl T2)
   have hb1:h1.b=h.b:=T2.hb
   clear T2 HC
   go_wp2
   go_ret2
   exact⟨h1,y,er,rfl,⟨hL,hE.1⟩,HP.To.end H (Aa SS) hb1⟩
  ·have SS:=Ab H.start
   rw[Ds]
   go_enter func157,ntmps157
   go_wp2_with (first|go_skip|((with_reducible show wpList ..);first|((refine bx0 91 (by rfl) rfl rfl (Aa SS) ?_);intro X0 B0 S0;replace SS:=Ab S0;clear S0;simp only[nn])|(refine zB 48 (k.cs) (by rfl) rfl rfl rfl SS ?_;clear SS;intro Xa Ba SS;simp only[nn])|(refine zL (k.cs) 48 2 1 rwK szK (by rfl) rfl rfl SS rfl rfl rfl ?_;simp only[nn])))
   refine(Ki h j q k _ ((Aa SS).hp 0 rfl) hl hj hk).mono ?_
   rintro _ Y1 ⟨rfl,hb1⟩
   replace SS:=Ab ((Aa SS).on hb1)
   clear hb1
   rw[hfi]
   go_wp2_with (first|go_skip|((with_reducible show wpList ..);first|(refine zA 39 (Ak.cs) (by rfl) rfl SS ?_;clear SS;intro Xb Bb SS;simp only[nn])|(refine zS ((getD q.T k).cs) 2 39 (by rfl) rfl rfl rfl rfl (Ek _) szD SS rfl ?_;clear SS;intro Xz SS;simp only[nn])))
   refine(Kg h j q _ ((Aa SS).hp 0 rfl) hj hl).mono ?_
   rintro _ _ ⟨rfl,rfl⟩
   have HO:=Ab (((Aa SS).hp 0 rfl).ob hj).1
   go_wp2_with (first|go_skip|((with_reducible show wpList ..);first|(refine rd rfl (Af (vs:=q.p.cs) 36 5 rwV szV rfl rfl (Aa HO) rfl rfl) ?_)|(refine zA 36 (Av.cs) (by rfl) rfl SS ?_;clear SS;intro Xc Bc SS;simp only[nn])|(refine zS (q.p.cs) 3 36 (by rfl) rfl rfl rfl rfl (Em _) szV SS rfl ?_;clear SS;intro Xy SS;simp only[nn])|(refine rd rfl (Ad 3 isAgg3 rfl rfl ((Aa SS).hold 3 rfl) rfl) ?_)|(refine rd rfl (Jy rfl rfl rfl hpk) ?_)))
   go_ret2
   exact⟨h,_,_,rfl,⟨Low.refl K.ok, .inl rfl⟩,HP.To.end H (Aa SS) rfl⟩
theorem has_all: ∀n:Nat,HasC (n:Int):=by
 have main: ∀n:Int,(∀m,m<n->0<=m->HasC m)->0<=n->HasC n:=by
  intro n ih hn h j q k w hf H K hj hk
  by_cases h0:h.fuel=0
  ·refine(Yt h j k w H h0).mono ?_
   rintro _ Y ⟨rfl,T⟩
   exact⟨h,false,Bs 1,rfl,⟨Low.refl K.ok, .inr (.inl rfl),fun _=>⟨rfl,rfl⟩,fun h1=>absurd h0 h1⟩,T⟩
  by_cases hd:h.ent=h.depth
  ·refine(Ys h j k w H K.ok h0 hd).mono ?_
   rintro _ Y ⟨rfl,T⟩
   exact⟨h.less,false,Bs 2,rfl,⟨Ej K.ok h0, .inr (.inr rfl),fun h1=>absurd h1 h0,fun _=>by show h.fuel - 1<h.fuel;omega⟩,T⟩
  ·have hp:=K.ok.f0
   refine(Yr h j q k (fun h1 y er=>Low h.inn h1/\Er er) w H K.ok hj h0 hd (fun X TX=> ?_)).mono ?_
   ·refine(ord_has h.inn j q k (n - 1) X TX.is (ZbJ K h0 hd) hj hk (ih (n - 1) (by omega) (by omega)) (by show h.fuel - 1<=n - 1;omega)).mono ?_
    rintro e Y ⟨h1,y,er,rfl,hL,T⟩
    exact⟨h1,y,er,rfl,hL,hL.1.ent,T⟩
   ·rintro e Y ⟨h1,y,er,rfl,hL,T⟩
    have h2:=Uu K.ok h0 hL.1
    exact⟨h1.out,y,er,rfl,⟨h2.1,hL.2,fun h3=>absurd h3 h0,fun _=>h2.2⟩,T⟩
 have all: ∀n:Nat,∀m:Int,0<=m->m<=n->HasC m:=by
  intro n
  induction n with
  |zero=>exact fun m h1 h2=>main m (fun m' h3 h4=>by omega) h1
  |succ n ih=>exact fun m h1 h2=>main m (fun m' h3 h4=>ih m' h4 (by omega)) h1
 exact fun n=>all n n (by omega) (Int.le_refl _)
theorem has_en (h:HP) (j:Nat) (q:OB) (k:KK) (w:World) (H:h.Is w) (K:h.Wf) (hj:h.l[j]? =some q) (hk:OkK k):Calls prog 87 #[.pointer (some ⟨h.b,0,none⟩), .int .i64 ((j:Int)+1),k.agg] w fun e w'=> ∃(h1:HP) (y:Bool) (er:Value),e= .returned (.tuple #[.bool y,er])/\(Low h h1/\Jj h h1 er)/\h.To h1 w w':=has_all h.fuel.toNat h j q k w (by have:=K.ok.f0;omega) H K hj hk
