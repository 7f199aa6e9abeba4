import Derived.Test.YthjnflilfjcgiaaGreatFmtRm
import Derived.Test.YthjnflilfjcgiaaGreatFmtRk
set_option linter.all false
namespace Go.Proofs.YthjnflilfjcgiaaGreatFmt
set_option maxRecDepth 100000
set_option maxHeartbeats 0
section
open Go Go.Proofs Go.Maps Go.RowKit FM Tryz
attribute [local go_sem] Ad Ag Ak Df Bi Ae Bg
def lxD (x:Nat):DD:=⟨Ee x,Be,Be,0,0,0⟩
def lxC (x:Nat):List Value:=Gc x++Be.cs++Be.cs++ [.int .i64 0, .int .i64 0, .int .i64 0]
theorem Gr (x:Nat):(lxD x).agg= .agg (lxC x).toArray:=rfl
theorem lx_FD {x:Nat} (h:x<2^64):FD (lxD x):=⟨h,show 0<2^64 by decide,show 0<2^64 by decide⟩
theorem ln_FDx {c:Nat} (h:c<2^32):FD (lnD c):=⟨show nf c<2^64 by have:=(Jz h).1;omega,show 0<2^64 by decide,show 0<2^64 by decide⟩
theorem lx_kind (x:Nat):Gb (lxD x)=2:=by
 have hs:Ge (lxD x)=true:=by simp[Ge,lxD,Jq,La,Mu,Gd,Pd,Be];simp[thV]
 have h2:Bu (lxD x)=2:=by simp[Bu,lxD,Jq,Gd]
 unfold Gb
 rw[hs,h2]
 rfl
theorem deflen_l (h:HP) (j:Nat) (q:OB) (x c n:Nat) (l:List (Nat×DD)) (w:World) (H:h.Is w) (hT:Tabs w) (hl:h.l.length<=65536) (hj:h.l[j]? =some q) (hp:pr q.T=arrG n l) (hi: ∀e∈l,e.1<=1000000/\e.2.c≠1) (hlt: ∀e∈l,e.1<n) (hnd:(l.map (·.1)).Nodup) (hla:q.T.last<90000) (hll:l.length<=100000) (hc:IsL x c) (hn:n<=300):Calls prog 185 #[.agg #[], .pointer (some ⟨h.b,0,none⟩), .int .i64 ((j:Int)+1),(lxD x).agg] w (LnP h j q c l w):=by
 have hgl:=Lh hp
 have hCv:Cv (getD q.T Bm).v.x n:=by rw[hgl];exact Zcg (.inl (by omega))
 have hw2:(getD q.T Bm).w=2:=by rw[hgl];rfl
 have SS:=Ab H.start
 rw[Gr]
 go_enter func185,ntmps185
 go_wp2_with (first|go_skip|((with_reducible show wpList ..);first|((refine bxE (by rfl) rfl rfl (Aa SS) ?_);intro X0 B0 S0;replace SS:=Ab S0;clear S0;simp only[nn])|(refine zB 53 (lxC x) (by rfl) rfl rfl rfl SS ?_;clear SS;intro Xd Bd SS;simp only[nn])|(refine z1 3 isAgg3 2 (by rfl) rfl rfl SS rfl rfl ?_;simp only[nn])|(refine zL (Gc x) 35 5 2 rwV szV (by rfl) rfl rfl SS rfl rfl rfl ?_;simp only[nn])))
 have HO:=aslen_l h x c hc _ ((Aa SS).hp 0 rfl) (hT.fr (Aa SS).fr H.low)
 rw[Dd] at HO
 refine HO.mono ?_
 clear HO
 rintro _ Y ⟨rfl,hb⟩
 replace SS:=Ab ((Aa SS).on hb)
 clear hb
 go_wp2_with (first|go_skip|((with_reducible show wpList ..);first|(refine rd rfl (Ev rfl rfl) ?_)))
 have HO:=fun X=>Dy (nf c) X
 simp only[Dd] at HO
 refine(HO _).mono ?_
 clear HO
 rintro _ Y ⟨rfl,hb⟩
 replace SS:=Ab ((Aa SS).on hb)
 clear hb
 go_wp2_with (first|go_skip|((with_reducible show wpList ..);first|(refine zS (hp:=(show 0+5<=18 by decide)) (Gc (nf c)) 2 35 (by rfl) rfl rfl rfl rfl (oneN _) szV SS rfl ?_;clear SS;intro Xe SS;simp only[nn])|(refine rd rfl (ldM rfl rfl) ?_)))
 have HO:=Zam h j q n _ ((Aa SS).hp 0 rfl) hl hj hCv hw2
 refine HO.mono ?_
 clear HO
 rintro _ Y ⟨rfl,hb⟩
 replace SS:=Ab ((Aa SS).on hb)
 clear hb
 replace SS:Hid (Sy w _ h.blocks [hpO h,Ku B0,Am Bd (lnC c)]):=SS
 by_cases hnc:n<=c
 ·have d1:decide ((n:Int)<=(c:Int))=true:=decide_eq_true (by omega)
  go_wp2_with (first|go_skip|((with_reducible show wpList ..);first|(refine rd rfl (Zac rfl rfl rfl d1) ?_)))
  have hS9:Sy w _ h.blocks [hpO h,Ku B0,Am Bd (lnC c)]:=(Aa SS).drew
  clear SS
  refine wp_region_held_drew (P:=prog) (S:=fun X=>X.heap[B0]? =some (Obj.cells #[] 83)/\Holds X Bd (lnC c)) (by kernel_rfl) (⟨hS9.emp 1 rfl,hS9.hold 2 rfl⟩) (fun hS0=> ?_)
  refine gq 0 (some 51) (.pointer (some ⟨B0,0,none⟩)) rfl rfl (fun X hX=>faM rfl rfl hX.1) (⟨hS9.emp 1 rfl,hS9.hold 2 rfl⟩) ?_
  refine gq 1 (some 52) (.agg #[]) rfl rfl (fun X hX=>ldO rfl rfl) (⟨hS9.emp 1 rfl,hS9.hold 2 rfl⟩) ?_
  refine gp 2 (some 53) (.pointer (some ⟨h.b,0,none⟩)) rfl rfl (⟨hS9.emp 1 rfl,hS9.hold 2 rfl⟩) ?_
  refine gp 3 (some 54) (.int .i64 ((j:Int)+1)) rfl rfl (⟨hS9.emp 1 rfl,hS9.hold 2 rfl⟩) ?_
  refine gq 5 (some 56) (.agg (lnC c).toArray) rfl rfl (fun X hX=>Aj (vs:=lnC c) 53 18 rwD szD rfl rfl hX.2 rfl rfl) (⟨hS9.emp 1 rfl,hS9.hold 2 rfl⟩) ?_
  refine gr (rs:= [4]) (gc 4 (some 55) rfl rfl (Gn _) ?_ gn)
  rintro e Yt1 ⟨rfl,hYt1⟩
  have hqt1:=Sy.on hS9 hYt1
  refine⟨_,rfl,⟨hqt1.emp 1 rfl,hqt1.hold 2 rfl⟩, ?_⟩
  simp only[nn]
  refine gr (rs:= [6]) (gc 6 (some 57) rfl rfl (Kz h j q Bm (lnD c) _ (hqt1.hp 0 rfl) hl hj (hT.fr hqt1.fr H.low) Ks Gp (Ur (.inl (by omega)) hp) (ln_FDx hc.1) (by omega)) ?_ gn)
  rintro e Yt2 ⟨h1,y,rfl,hP,T3⟩
  obtain⟨rfl,T1,rfl,hp1,hl1⟩:=Pp hp hP
  have hqp:=Sy.heap hqt1 0 rfl T3
  refine⟨_,rfl,⟨hqp.emp 1 rfl,hqp.hold 2 rfl⟩, ?_⟩
  refine gp 7 (some 58) (.bool true) rfl rfl (⟨hqp.emp 1 rfl,hqp.hold 2 rfl⟩) ?_
  refine gp 8 (some 59) (.nilIface) rfl rfl (⟨hqp.emp 1 rfl,hqp.hold 2 rfl⟩) ?_
  refine gp 9 (some 8) (.bool true) rfl rfl (⟨hqp.emp 1 rfl,hqp.hold 2 rfl⟩) ?_
  refine gp 10 (some 9) (.nilIface) rfl rfl (⟨hqp.emp 1 rfl,hqp.hold 2 rfl⟩) ?_
  refine wpAnyH_done (by kernel_rfl) ?_ _
  try simp only[nn]
  have SS:=Ab hqp
  clear hqp
  go_wp2
  go_ret2
  exact⟨T1,rfl,(by rw[LnP.up (h:=h) (j:=j) (q:=q) hlt hnc];exact hp1),(by omega),HP.To.end H (Aa SS) rfl⟩
 ·have d1:decide ((n:Int)<=(c:Int))=false:=decide_eq_false (by omega)
  go_wp2_with (first|go_skip|((with_reducible show wpList ..);first|(refine rd rfl (Zac rfl rfl rfl d1) ?_)|(refine rd rfl (ldM rfl rfl) ?_)|(refine zL (lnC c) 53 18 2 rwD szD (by rfl) rfl rfl SS rfl rfl rfl ?_;simp only[nn])))
  have HO:=Zb5 h j q c n l _ ((Aa SS).hp 0 rfl) (hT.fr (Aa SS).fr H.low) hl hj hp hi hnd hla hll (.inl (by omega)) (.inl (by omega))
  rw[Oo] at HO
  refine HO.mono ?_
  clear HO
  rintro _ Y3 ⟨T1,rfl,hp1,hl1,T3⟩
  replace SS:=Ab ((Aa SS).heap 0 rfl T3)
  clear T3
  go_wp2
  go_ret2
  exact⟨T1,rfl,hp1,hl1,HP.To.end H (Aa SS) rfl⟩
theorem mdef_l (h:HP) (j:Nat) (q:OB) (x c n:Nat) (l:List (Nat×DD)) (w:World) (H:h.Is w) (hT:Tabs w) (hl:h.l.length<=65536) (hj:h.l[j]? =some q) (hp:pr q.T=arrG n l) (hi: ∀e∈l,e.1<=1000000/\e.2.c≠1) (hlt: ∀e∈l,e.1<n) (hnd:(l.map (·.1)).Nodup) (hla:q.T.last<90000) (hll:l.length<=100000) (hc:IsL x c) (hn:n<=300):Calls prog 183 #[.agg #[], .pointer (some ⟨h.b,0,none⟩), .int .i64 ((j:Int)+1),Bm.agg,(lxD x).agg] w (LnP h j q c l w):=by
 have SS:=Ab H.start
 rw[Le,Gr]
 go_enter func183,ntmps183
 go_wp2_with (first|go_skip|((with_reducible show wpList ..);first|((refine bxE (by rfl) rfl rfl (Aa SS) ?_);intro X0 B0 S0;replace SS:=Ab S0;clear S0;simp only[nn])|(refine zB 42 (Bm.cs) (by rfl) rfl rfl rfl SS ?_;clear SS;intro Xa Ba SS;simp only[nn])|(refine zB 53 (lxC x) (by rfl) rfl rfl rfl SS ?_;clear SS;intro Xb Bb SS;simp only[nn])))
 have hS1:Sy w _ h.blocks [hpO h,Ku B0,Am Ba Bm.cs,Am Bb (lxC x)]:=(Aa SS).drew
 clear SS
 refine wp_region_held_drew (P:=prog) (S:=fun X=>Sy w X h.blocks _) (by kernel_rfl) (hS1) (fun hS0=> ?_)
 refine gq 0 (some 14) (.agg Bm.cs.toArray) rfl rfl (fun X hX=>Aj (vs:=Bm.cs) 42 2 rwK szK rfl rfl (hX.hold 2 rfl) rfl rfl) (hS1) ?_
 refine gr (rs:= [1]) (gcB 1 (some 15) rfl rfl hS1 (Gn _) id ?_ gn)
 intro Yt1 hqt1
 refine gq 2 (some 16) (.bool true) rfl rfl (fun X hX=>Zad rfl rfl rfl) (hqt1) ?_
 refine wpAnyH_done (by kernel_rfl) ?_ _
 try simp only[nn]
 have SS:=Ab hqt1
 go_wp2_with (first|go_skip|((with_reducible show wpList ..);first|(refine rd rfl (ldM rfl rfl) ?_)|(refine zL (lxC x) 53 18 3 rwD szD (by rfl) rfl rfl SS rfl rfl rfl ?_;simp only[nn])))
 have HO:=deflen_l h j q x c n l _ ((Aa SS).hp 0 rfl) (hT.fr (Aa SS).fr H.low) hl hj hp hi hlt hnd hla hll hc hn
 rw[Gr] at HO
 refine HO.mono ?_
 clear HO
 rintro _ Y3 ⟨T1,rfl,hp1,hl1,T3⟩
 replace SS:=Ab ((Aa SS).heap 0 rfl T3)
 clear T3
 go_wp2
 go_ret2
 exact⟨T1,rfl,hp1,hl1,HP.To.end H (Aa SS) rfl⟩
theorem endef_l (h:HP) (j:Nat) (q:OB) (x c n:Nat) (l:List (Nat×DD)) (w:World) (H:h.Is w) (hT:Tabs w) (K:h.Ok) (hj:h.l[j]? =some q) (hp:pr q.T=arrG n l) (hi: ∀e∈l,e.1<=1000000/\e.2.c≠1) (hlt: ∀e∈l,e.1<n) (hnd:(l.map (·.1)).Nodup) (hla:q.T.last<90000) (hll:l.length<=100000) (hc:IsL x c) (hn:n<=300) (hf:h.fuel≠0) (hd:h.ent≠h.depth):Calls prog 44 #[.pointer (some ⟨h.b,0,none⟩), .int .i64 ((j:Int)+1),Bm.agg,(lxD x).agg] w fun e w'=> ∃(h1:HP) (y:Bool) (er:Value),e= .returned (.tuple #[.bool y,er])/\LnQ h j q c l h1 y er/\h.To h1 w w':=by
 refine(Gt h j q Bm (lxD x) (fun h1 y er=>LnQ h j q c l h1.out y er) w H K hj hf hd ?_).mono ?_
 ·intro X T1
  refine(mdef_l h.inn j q x c n l X T1.is (T1.tabs H hT) K.len hj hp hi hlt hnd hla hll hc hn).mono ?_
  rintro _ Y ⟨T',rfl,hpr,hla2,T2⟩
  exact⟨_,true, .nilIface,rfl,⟨rfl,rfl,T',by unfold HP.tab HP.out HP.inn HP.less;simp,hpr,hla2⟩,rfl,T2⟩
 ·rintro _ Y ⟨h1,y,er,rfl,hP,T2⟩
  exact⟨_,y,er,rfl,hP,T2⟩
theorem ZaY (n x:Nat):Az n [(lxD x).v,(lxD x).g,(lxD x).s]=0:=by simp[Az,Jc,lxD,Ee,Be]
theorem acc_lx (x:Nat):Dl [(lxD x).g,(lxD x).s]=0:=by simp[Dl,Og,lxD,Be]
theorem chk_lx (x:Nat):Dk (lxD x)=0:=by unfold Dk;rw[lx_kind];rfl
theorem Qr (h:HP) (j:Nat) (q:OB) (x c n:Nat) (l:List (Nat×DD)) (w:World) (H:h.Is w) (hT:Tabs w) (K:h.Ok) (hj:h.l[j]? =some q) (hp:pr q.T=arrG n l) (hi: ∀e∈l,e.1<=1000000/\e.2.c≠1) (hlt: ∀e∈l,e.1<n) (hnd:(l.map (·.1)).Nodup) (hla:q.T.last<90000) (hll:l.length<=100000) (hc:IsL x c) (hn:n<=300) (hf:h.fuel≠0) (hd:h.ent≠h.depth):Calls prog 15 #[.pointer (some ⟨h.b,0,none⟩), .int .i64 ((j:Int)+1),Bm.agg,(lxD x).agg] w fun e w'=> ∃T':TT,e= .returned (.tuple #[.bool true, .nilIface])/\pr T'=arrG c (l.filter (fun e=>decide (e.1<c)))/\T'.last<=q.T.last+2/\h.To (h.tab j q T').less w w':=by
 refine(Gz h ((j:Int)+1) Bm (lxD x) w H K.len hT (lx_FD hc.lt) (LnQ h j q c l) ?_).mono ?_
 ·intro j' q' X ho hj' _ T1
  obtain rfl:j=j':=by omega
  obtain rfl:q=q':=Option.some.inj (hj.symm.trans hj')
  refine(endef_l h j q x c n l X T1.is (T1.tabs H hT) K hj hp hi hlt hnd hla hll hc hn hf hd).mono ?_
  exact fun e Y hh=>hh
 ·rintro _ Y ⟨h1,y,er,rfl,hP,T1⟩
  have hz:orE [thE ((j:Int)+1) h.l.length,Da Bm,Dk (lxD x),Az h.l.length [(lxD x).v,(lxD x).g,(lxD x).s],Dl [(lxD x).g,(lxD x).s]]=0:=by
   have h2:Da Bm=0:=by unfold Da;rw[Gp];rfl
   rw[Xu hj,h2,chk_lx,ZaY,acc_lx]
   rfl
  rcases hP with ⟨h0,_⟩|⟨_,rfl,rfl,T',rfl,hpr,hla2⟩
  ·exact absurd hz h0
  ·exact⟨T',rfl,hpr,hla2,T1⟩
