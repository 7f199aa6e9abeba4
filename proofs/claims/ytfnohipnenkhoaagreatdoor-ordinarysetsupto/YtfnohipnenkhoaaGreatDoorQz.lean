import Derived.Test.YtfnohipnenkhoaaGreatDoorQy
set_option linter.all false
namespace Go.Proofs.YtfnohipnenkhoaaGreatDoor
set_option maxRecDepth 100000
set_option maxHeartbeats 0
section
open Go Go.Proofs Go.Maps Go.RowKit FM Tryz
attribute [local go_sem] Am Al Ar Ah Ao Ai Aw Do Dn Bq Aj Bo
theorem Js (d:DD) (w:World):Calls prog 168 #[d.agg] w fun e w'=>e= .returned (.bool (d.g.k !=0))/\Below w.heap.size w w':=by
 have SS:=Ab (Sy.nil w [])
 rw[Mw]
 by_cases hg:d.g.k=0
 ·rw[show (d.g.k !=0)=false by simp[hg]]
  go_enter func168,ntmps168
  go_wp2_with (first|go_skip|((with_reducible show wpList ..);first|(refine zB 39 (d.cs) (by rfl) rfl rfl rfl SS ?_;clear SS;intro Xa Ba SS;simp only[nn])|(refine rd rfl (Ad 3 isAgg3 rfl rfl ((Aa SS).hold 0 rfl) rfl) ?_)|(refine rd rfl (Eh rfl rfl rfl hg) ?_)))
  go_ret
  exact⟨rfl,(Aa SS).fr.below⟩
 ·rw[show (d.g.k !=0)=true by simp[hg]]
  go_enter func168,ntmps168
  go_wp2_with (first|go_skip|((with_reducible show wpList ..);first|(refine zB 39 (d.cs) (by rfl) rfl rfl rfl SS ?_;clear SS;intro Xa Ba SS;simp only[nn])|(refine rd rfl (Ad 3 isAgg3 rfl rfl ((Aa SS).hold 0 rfl) rfl) ?_)|(refine rd rfl (Jy rfl rfl rfl hg) ?_)))
  go_ret
  exact⟨rfl,(Aa SS).fr.below⟩
def Eu (v:VV):DD:=⟨v,Av,Av,2,2,2⟩
theorem Ni {o:Oper} {a:Act} {w:World} {x c1 c2 c3:Operand} (v:VV) (ho:o.op= .build 39 #[(0,x),(3,c1),(4,c2),(5,c3)]) (hx:a.eval x= .agg v.cs.toArray) (h1:a.eval c1= .int .i64 2) (h2:a.eval c2= .int .i64 2) (h3:a.eval c3= .int .i64 2):(execOp a.eval o).run prog w= .ok (.value (.agg (Eu v).cs.toArray)) w:=by
 have e:(Instr.build 39 #[(0, .agg v.cs.toArray),(3, .int .i64 2),(4, .int .i64 2),(5, .int .i64 2)]).run prog w= .ok (.agg (Eu v).cs.toArray) w:=by kernel_rfl
 unfold execOp
 simp only[ho,List.map_toArray,List.map_cons,List.map_nil,hx,h1,h2,h3]
 simp[e]
theorem Un (v:VV) (w:World):Calls prog 167 #[v.agg] w fun e w'=>e= .returned ((Eu v).agg)/\Below w.heap.size w w':=by
 have SS:=Ab (Sy.nil w [])
 rw[Db]
 go_enter func167,ntmps167
 go_wp2_with (first|go_skip|((with_reducible show wpList ..);first|(refine zB 36 (v.cs) (by rfl) rfl rfl rfl SS ?_;clear SS;intro Xa Ba SS;simp only[nn])|(refine zA 39 (Ak.cs) (by rfl) rfl SS ?_;clear SS;intro Xb Bb SS;simp only[nn])|(refine zL (v.cs) 36 5 0 rwV szV (by rfl) rfl rfl SS rfl rfl rfl ?_;simp only[nn])|(refine rd rfl (Ni v rfl rfl rfl rfl rfl) ?_)|(refine zS ((Eu v).cs) 1 39 (by rfl) rfl rfl rfl rfl (Ek _) szD SS rfl ?_;clear SS;intro Xz SS;simp only[nn])))
 refine Jf rwD szD rfl rfl rfl ((Aa SS).hold 1 rfl) rfl ?_
 exact⟨rfl,(Aa SS).fr.below⟩
theorem read_any (h:HP) (d:DD) (r:VV) (w:World) (hg:d.g.k≠7):Calls prog 165 #[.pointer (some ⟨h.b,0,none⟩),d.agg,r.agg] w fun e w'=> ∃V:VV,e= .returned (.tuple #[V.agg, .nilIface])/\Below w.heap.size w w':=by
 by_cases h0:d.g.k=0
 ·have SS:=Ab (Sy.nil w [])
  rw[Mw,Db]
  go_enter func165,ntmps165
  go_wp2_with (first|go_skip|((with_reducible show wpList ..);first|(refine zB 39 (d.cs) (by rfl) rfl rfl rfl SS ?_;clear SS;intro Xa Ba SS;simp only[nn])|(refine zB 36 (r.cs) (by rfl) rfl rfl rfl SS ?_;clear SS;intro Xb Bb SS;simp only[nn])|(refine zA 36 (Av.cs) (by rfl) rfl SS ?_;clear SS;intro Xc Bc SS;simp only[nn])|(refine zL (d.cs) 39 18 0 rwD szD (by rfl) rfl rfl SS rfl rfl rfl ?_;simp only[nn])))
  refine(Js d _).mono ?_
  rintro _ Y1 ⟨rfl,hb1⟩
  replace SS:=Ab ((Aa SS).on hb1)
  clear hb1
  rw[show (d.g.k !=0)=false by simp[h0]]
  go_wp2_with (first|go_skip|((with_reducible show wpList ..);first|(refine rd rfl (Af (vs:=d.v.cs) 36 5 rwV szV rfl rfl ((Aa SS).hold 0 rfl) rfl rfl) ?_)|(refine zS (d.v.cs) 2 36 (by rfl) rfl rfl rfl rfl (Em _) szV SS rfl ?_;clear SS;intro Xz SS;simp only[nn])))
  refine bodyPost_ret (Gr rwV szV rfl rfl rfl ((Aa SS).hold 2 rfl) rfl) rfl ?_
  exact⟨d.v,rfl,(Aa SS).fr.below⟩
 ·have SS:=Ab (Sy.nil w [])
  rw[Mw,Db]
  go_enter func165,ntmps165
  go_wp2_with (first|go_skip|((with_reducible show wpList ..);first|(refine zB 39 (d.cs) (by rfl) rfl rfl rfl SS ?_;clear SS;intro Xa Ba SS;simp only[nn])|(refine zB 36 (r.cs) (by rfl) rfl rfl rfl SS ?_;clear SS;intro Xb Bb SS;simp only[nn])|(refine zA 36 (Av.cs) (by rfl) rfl SS ?_;clear SS;intro Xc Bc SS;simp only[nn])|(refine zL (d.cs) 39 18 0 rwD szD (by rfl) rfl rfl SS rfl rfl rfl ?_;simp only[nn])))
  refine(Js d _).mono ?_
  rintro _ Y1 ⟨rfl,hb1⟩
  replace SS:=Ab ((Aa SS).on hb1)
  clear hb1
  rw[show (d.g.k !=0)=true by simp[h0]]
  go_wp2_with (first|go_skip|((with_reducible show wpList ..);first|(refine rd rfl (Ad 3 isAgg3 rfl rfl ((Aa SS).hold 0 rfl) rfl) ?_)|(refine rd rfl (Jy rfl rfl rfl hg) ?_)))
  refine(Gp _).mono ?_
  rintro _ Y2 ⟨rfl,hb1⟩
  replace SS:=Ab ((Aa SS).on hb1)
  clear hb1
  rw[show VV.agg ⟨1,false,0,ByteArray.empty,0⟩= .agg Dr.cs.toArray from rfl]
  go_wp2_with (first|go_skip|((with_reducible show wpList ..);(refine zS (Dr.cs) 2 36 (by rfl) rfl rfl rfl rfl (Em _) szV SS rfl ?_;clear SS;intro Xz SS;simp only[nn])))
  refine bodyPost_ret (Gr rwV szV rfl rfl rfl ((Aa SS).hold 2 rfl) rfl) rfl ?_
  exact⟨Dr,rfl,(Aa SS).fr.below⟩
def GetC (n:Int):Prop:= ∀(h:HP) (j:Nat) (q:OB) (k:KK) (r:VV) (w:World),h.fuel<=n->h.Is w->h.Wf->h.l[j]? =some q->OkK k->Calls prog 36 #[.pointer (some ⟨h.b,0,none⟩), .int .i64 ((j:Int)+1),k.agg,r.agg] w fun e w'=> ∃(h1:HP) (V:VV) (er:Value),e= .returned (.tuple #[V.agg,er])/\(Low h h1/\Jj h h1 er)/\h.To h1 w w'
theorem lk_mem {l:List (KK×DD)} {k:KK} {d:DD} (h:lkP l k=some d): ∃e∈l,e.2=d/\e.1=k:=by
 unfold lkP at h
 cases hf:l.find? (fun e=>decide (e.1=k)) with
 |none=>rw[hf] at h;cases h
 |some e=>
  rw[hf] at h
  exact⟨e,List.mem_of_find?_eq_some hf,Option.some.inj h,by simpa using List.find?_some hf⟩
theorem ZbP {h:HP} (K:h.Wf) {j:Nat} {q:OB} (hj:h.l[j]? =some q) {k:KK} {r:RR} (hf:q.T.find k=some r):OkD (getD q.T k):=by
 have h1:lkP (pr q.T) k=some (getD q.T k):=by
  rw[pr_lk,hf]
  unfold getD
  rw[hf]
  rfl
 obtain⟨e,he,h2, -⟩:=lk_mem h1
 rw[←h2]
 exact(K.ob j q hj).ps e he
theorem ord_get (h:HP) (j:Nat) (q:OB) (k:KK) (r:VV) (n:Int) (w:World) (H:h.Is w) (K:h.Wf) (hj:h.l[j]? =some q) (hk:OkK k) (hI:GetC n) (hn:h.fuel<=n):Calls prog 154 #[.agg #[], .pointer (some ⟨h.b,0,none⟩), .int .i64 ((j:Int)+1),k.agg,r.agg] w fun e w'=> ∃(h1:HP) (V:VV) (er:Value),e= .returned (.tuple #[V.agg,er])/\(Low h h1/\Er er)/\h.To h1 w w':=by
 have hl:=K.ok.len
 cases hfi:q.T.find k with
 |some r0=>
  have hD:=(ZbP K hj hfi).2.2.1
  have SS:=Ab H.start
  rw[Ds,Db]
  go_enter func154,ntmps154
  go_wp2_with (first|go_skip|((with_reducible show wpList ..);first|((refine bx0 91 (by rfl) rfl rfl (Aa SS) ?_);intro X0 B0 S0;replace SS:=Ab S0;clear S0;simp only[nn])|(refine zB 48 (k.cs) (by rfl) rfl rfl rfl SS ?_;clear SS;intro Xa Ba SS;simp only[nn])|(refine zB 36 (r.cs) (by rfl) rfl rfl rfl SS ?_;clear SS;intro Xe Be SS;simp only[nn])|(refine zA 36 (Av.cs) (by rfl) rfl SS ?_;clear SS;intro Xg Bg SS;simp only[nn])|(refine zL (k.cs) 48 2 1 rwK szK (by rfl) rfl rfl SS rfl rfl rfl ?_;simp only[nn])))
  refine(Ki h j q k _ ((Aa SS).hp 0 rfl) hl hj hk).mono ?_
  rintro _ Y1 ⟨rfl,hb1⟩
  replace SS:=Ab ((Aa SS).on hb1)
  clear hb1
  rw[hfi]
  go_wp2_with (first|go_skip|((with_reducible show wpList ..);first|(refine zA 39 (Ak.cs) (by rfl) rfl SS ?_;clear SS;intro Xb Bb SS;simp only[nn])|(refine zS ((getD q.T k).cs) 4 39 (by rfl) rfl rfl rfl rfl (Ek _) szD SS rfl ?_;clear SS;intro Xz SS;simp only[nn])|(refine zL ((getD q.T k).cs) 39 18 4 rwD szD (by rfl) rfl rfl SS rfl rfl rfl ?_;simp only[nn])|(refine zL (r.cs) 36 5 2 rwV szV (by rfl) rfl rfl SS rfl rfl rfl ?_;simp only[nn])))
  refine(read_any h (getD q.T k) r _ hD).mono ?_
  rintro _ Y2 ⟨V,rfl,hb1⟩
  replace SS:=Ab ((Aa SS).on hb1)
  clear hb1
  rw[Db]
  go_wp2_with (first|go_skip|((with_reducible show wpList ..);(refine zS (V.cs) 3 36 (by rfl) rfl rfl rfl rfl (Em _) szV SS rfl ?_;clear SS;intro Xy SS;simp only[nn])))
  refine bodyPost_ret (Gr rwV szV rfl rfl rfl ((Aa SS).hold 3 rfl) rfl) rfl ?_
  exact⟨h,V, .nilIface,rfl,⟨Low.refl K.ok, .inl rfl⟩,HP.To.end H (Aa SS) rfl⟩
 |none=>
  by_cases hpk:q.p.k=7
  ·obtain⟨i,q2,hi,hq2⟩:=Rh K hj hpk
   have SS:=Ab H.start
   rw[Ds,Db]
   go_enter func154,ntmps154
   go_wp2_with (first|go_skip|((with_reducible show wpList ..);first|((refine bx0 91 (by rfl) rfl rfl (Aa SS) ?_);intro X0 B0 S0;replace SS:=Ab S0;clear S0;simp only[nn])|(refine zB 48 (k.cs) (by rfl) rfl rfl rfl SS ?_;clear SS;intro Xa Ba SS;simp only[nn])|(refine zB 36 (r.cs) (by rfl) rfl rfl rfl SS ?_;clear SS;intro Xe Be SS;simp only[nn])|(refine zA 36 (Av.cs) (by rfl) rfl SS ?_;clear SS;intro Xg Bg SS;simp only[nn])|(refine zL (k.cs) 48 2 1 rwK szK (by rfl) rfl rfl SS rfl rfl rfl ?_;simp only[nn])))
   refine(Ki h j q k _ ((Aa SS).hp 0 rfl) hl hj hk).mono ?_
   rintro _ Y1 ⟨rfl,hb1⟩
   replace SS:=Ab ((Aa SS).on hb1)
   clear hb1
   rw[hfi]
   go_wp2_with (first|go_skip|((with_reducible show wpList ..);first|(refine zA 39 (Ak.cs) (by rfl) rfl SS ?_;clear SS;intro Xb Bb SS;simp only[nn])|(refine zS ((getD q.T k).cs) 4 39 (by rfl) rfl rfl rfl rfl (Ek _) szD SS rfl ?_;clear SS;intro Xz SS;simp only[nn])))
   refine(Kg h j q _ ((Aa SS).hp 0 rfl) hj hl).mono ?_
   rintro _ _ ⟨rfl,rfl⟩
   have HO:=Ab (((Aa SS).hp 0 rfl).ob hj).1
   go_wp2_with (first|go_skip|((with_reducible show wpList ..);first|(refine rd rfl (Af (vs:=q.p.cs) 36 5 rwV szV rfl rfl (Aa HO) rfl rfl) ?_)|(refine zA 36 (Av.cs) (by rfl) rfl SS ?_;clear SS;intro Xc Bc SS;simp only[nn])|(refine zS (q.p.cs) 5 36 (by rfl) rfl rfl rfl rfl (Em _) szV SS rfl ?_;clear SS;intro Xy SS;simp only[nn])|(refine rd rfl (Ad 3 isAgg3 rfl rfl ((Aa SS).hold 5 rfl) rfl) ?_)|(refine zL (k.cs) 48 2 1 rwK szK (by rfl) rfl rfl SS rfl rfl rfl ?_;simp only[nn])|(refine zL (r.cs) 36 5 2 rwV szV (by rfl) rfl rfl SS rfl rfl rfl ?_;simp only[nn])|(refine rd rfl (Eh rfl rfl rfl hpk) ?_)))
   have HC:=Ab (hI h i q2 k r _ hn ((Aa SS).hp 0 rfl) K hq2 hk)
   rw[Ds,Db] at HC
   refine(Aa HC).mono ?_
   rintro _ Y2 ⟨h1,V,er,rfl,⟨hL,hE⟩,T2⟩
   replace SS:=Ab ((Aa SS).heap 0 rfl T2)
   have hb1:h1.b=h.b:=T2.hb
   clear T2 HC
   rw[Db]
   go_wp2_with (first|go_skip|((with_reducible show wpList ..);(refine zS (V.cs) 3 36 (by rfl) rfl rfl rfl rfl (Em _) szV SS rfl ?_;clear SS;intro Xx SS;simp only[nn])))
   refine bodyPost_ret (Gr rwV szV rfl rfl rfl ((Aa SS).hold 3 rfl) rfl) rfl ?_
   exact⟨h1,V,er,rfl,⟨hL,hE.1⟩,HP.To.end H (Aa SS) hb1⟩
  ·have SS:=Ab H.start
   rw[Ds,Db]
   go_enter func154,ntmps154
   go_wp2_with (first|go_skip|((with_reducible show wpList ..);first|((refine bx0 91 (by rfl) rfl rfl (Aa SS) ?_);intro X0 B0 S0;replace SS:=Ab S0;clear S0;simp only[nn])|(refine zB 48 (k.cs) (by rfl) rfl rfl rfl SS ?_;clear SS;intro Xa Ba SS;simp only[nn])|(refine zB 36 (r.cs) (by rfl) rfl rfl rfl SS ?_;clear SS;intro Xe Be SS;simp only[nn])|(refine zA 36 (Av.cs) (by rfl) rfl SS ?_;clear SS;intro Xg Bg SS;simp only[nn])|(refine zL (k.cs) 48 2 1 rwK szK (by rfl) rfl rfl SS rfl rfl rfl ?_;simp only[nn])))
   refine(Ki h j q k _ ((Aa SS).hp 0 rfl) hl hj hk).mono ?_
   rintro _ Y1 ⟨rfl,hb1⟩
   replace SS:=Ab ((Aa SS).on hb1)
   clear hb1
   rw[hfi]
   go_wp2_with (first|go_skip|((with_reducible show wpList ..);first|(refine zA 39 (Ak.cs) (by rfl) rfl SS ?_;clear SS;intro Xb Bb SS;simp only[nn])|(refine zS ((getD q.T k).cs) 4 39 (by rfl) rfl rfl rfl rfl (Ek _) szD SS rfl ?_;clear SS;intro Xz SS;simp only[nn])))
   refine(Kg h j q _ ((Aa SS).hp 0 rfl) hj hl).mono ?_
   rintro _ _ ⟨rfl,rfl⟩
   have HO:=Ab (((Aa SS).hp 0 rfl).ob hj).1
   go_wp2_with (first|go_skip|((with_reducible show wpList ..);first|(refine rd rfl (Af (vs:=q.p.cs) 36 5 rwV szV rfl rfl (Aa HO) rfl rfl) ?_)|(refine zA 36 (Av.cs) (by rfl) rfl SS ?_;clear SS;intro Xc Bc SS;simp only[nn])|(refine zS (q.p.cs) 5 36 (by rfl) rfl rfl rfl rfl (Em _) szV SS rfl ?_;clear SS;intro Xy SS;simp only[nn])|(refine rd rfl (Ad 3 isAgg3 rfl rfl ((Aa SS).hold 5 rfl) rfl) ?_)|(refine rd rfl (Jy rfl rfl rfl hpk) ?_)))
   refine(Gp _).mono ?_
   rintro _ Y2 ⟨rfl,hb1⟩
   replace SS:=Ab ((Aa SS).on hb1)
   clear hb1
   rw[show VV.agg ⟨1,false,0,ByteArray.empty,0⟩= .agg Dr.cs.toArray from rfl]
   go_wp2_with (first|go_skip|((with_reducible show wpList ..);(refine zS (Dr.cs) 3 36 (by rfl) rfl rfl rfl rfl (Em _) szV SS rfl ?_;clear SS;intro Xx SS;simp only[nn])))
   refine bodyPost_ret (Gr rwV szV rfl rfl rfl ((Aa SS).hold 3 rfl) rfl) rfl ?_
   exact⟨h,Dr, .nilIface,rfl,⟨Low.refl K.ok, .inl rfl⟩,HP.To.end H (Aa SS) rfl⟩
theorem get_all: ∀n:Nat,GetC (n:Int):=by
 have main: ∀n:Int,(∀m,m<n->0<=m->GetC m)->0<=n->GetC n:=by
  intro n ih hn h j q k r w hf H K hj hk
  by_cases h0:h.fuel=0
  ·refine(enGet_0 h j k r w H h0).mono ?_
   rintro _ Y ⟨rfl,T⟩
   exact⟨h,Av,Bs 1,rfl,⟨Low.refl K.ok, .inr (.inl rfl),fun _=>⟨rfl,rfl⟩,fun h1=>absurd h0 h1⟩,T⟩
  by_cases hd:h.ent=h.depth
  ·refine(enGet_d h j k r w H K.ok h0 hd).mono ?_
   rintro _ Y ⟨rfl,T⟩
   exact⟨h.less,Av,Bs 2,rfl,⟨Ej K.ok h0, .inr (.inr rfl),fun h1=>absurd h1 h0,fun _=>by show h.fuel - 1<h.fuel;omega⟩,T⟩
  ·have hp:=K.ok.f0
   refine(ZbY h j q k r (fun h1 V er=>Low h.inn h1/\Er er) w H K.ok hj h0 hd (fun X TX=> ?_)).mono ?_
   ·refine(ord_get h.inn j q k r (n - 1) X TX.is (ZbJ K h0 hd) hj hk (ih (n - 1) (by omega) (by omega)) (by show h.fuel - 1<=n - 1;omega)).mono ?_
    rintro e Y ⟨h1,V,er,rfl,hL,T⟩
    exact⟨h1,V,er,rfl,hL,hL.1.ent,T⟩
   ·rintro e Y ⟨h1,V,er,rfl,hL,T⟩
    have h2:=Uu K.ok h0 hL.1
    exact⟨h1.out,V,er,rfl,⟨h2.1,hL.2,fun h3=>absurd h3 h0,fun _=>h2.2⟩,T⟩
 have all: ∀n:Nat,∀m:Int,0<=m->m<=n->GetC m:=by
  intro n
  induction n with
  |zero=>exact fun m h1 h2=>main m (fun m' h3 h4=>by omega) h1
  |succ n ih=>exact fun m h1 h2=>main m (fun m' h3 h4=>ih m' h4 (by omega)) h1
 exact fun n=>all n n (by omega) (Int.le_refl _)
theorem get_en (h:HP) (j:Nat) (q:OB) (k:KK) (r:VV) (w:World) (H:h.Is w) (K:h.Wf) (hj:h.l[j]? =some q) (hk:OkK k):Calls prog 36 #[.pointer (some ⟨h.b,0,none⟩), .int .i64 ((j:Int)+1),k.agg,r.agg] w fun e w'=> ∃(h1:HP) (V:VV) (er:Value),e= .returned (.tuple #[V.agg,er])/\(Low h h1/\Jj h h1 er)/\h.To h1 w w':=get_all h.fuel.toNat h j q k r w (by have:=K.ok.f0;omega) H K hj hk
