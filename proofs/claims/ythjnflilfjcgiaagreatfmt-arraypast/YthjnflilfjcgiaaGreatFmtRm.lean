import Derived.Test.YthjnflilfjcgiaaGreatFmtRl
import Derived.Test.YthjnflilfjcgiaaGreatFmtRi
set_option linter.all false
namespace Go.Proofs.YthjnflilfjcgiaaGreatFmt
set_option maxRecDepth 100000
set_option maxHeartbeats 0
section
open Go Go.Proofs Go.Maps Go.RowKit FM Tryz
attribute [local go_sem] Ad Ag Ak Df Bi Ae Bg
def lnD (c:Nat):DD:=⟨Ee (nf c),Be,Be,0,0,0⟩
def lnC (c:Nat):List Value:=Gc (nf c)++Be.cs++Be.cs++ [.int .i64 0, .int .i64 0, .int .i64 0]
theorem Oo (c:Nat):(lnD c).agg= .agg (lnC c).toArray:=rfl
theorem ZaW {c:Nat} (h:c<=300∨c=4294967295):FD (lnD c):=⟨nf_lt (by omega),show 0<2^64 by decide,show 0<2^64 by decide⟩
theorem ZaV (c:Nat):Bu (lnD c)=2:=by simp[Bu,lnD,Jq,Gd]
theorem Zn (c:Nat):Gb (lnD c)=2:=by
 have hs:Ge (lnD c)=true:=by simp[Ge,lnD,Jq,La,Mu,Gd,Pd,Be];simp[thV]
 unfold Gb
 rw[hs,ZaV]
 rfl
theorem app_ln (x:Bool) (n c:Nat):Rl x (Jb n) (lnD c)=true/\Du x (Jb n) (lnD c)=Jb c:=by
 have ht:Ei (Jb n) (lnD c)=false:=by unfold Ei;rw[ZaV,Md];rfl
 have hf:Ve (Jb n) (lnD c)=false:=by
  unfold Ve
  rw[ht,Md]
  rfl
 refine⟨?_, ?_⟩
 ·unfold Rl
  rw[Zn,len_st,Zo,hf]
  rfl
 ·unfold Du
  rw[Zn,len_st,Zo,hf]
  show Zal (Jb n) (lnD c)=Jb c
  unfold Zal
  rw[ht]
  simp[orV,orT,lnD,Jb,Jq,Gd]
theorem Pp {h h1:HP} {j:Nat} {q:OB} {n c:Nat} {l:List (Nat×DD)} {y:Bool} (hp:pr q.T=arrG n l) (hP:Zap h j q Bm (lnD c) h1 y):y=true/\ ∃T':TT,h1=h.tab j q T'/\pr T'=arrG c l/\T'.last<=q.T.last+1:=by
 unfold Zap at hP
 rw[Lh hp,(app_ln q.x n c).1,(app_ln q.x n c).2] at hP
 obtain⟨rfl,hP⟩:=hP
 rcases hP with ⟨h0,_⟩|⟨_,T',rfl,hl,hpr⟩
 ·cases h0
 ·exact⟨rfl,T',rfl,by rw[hpr,hp,Zdn],hl⟩
theorem ex_ln {o:Oper} {a:Act} {w:World} {x y:Operand} {c:Nat} (ho:o.op= .build 53 #[(0,x),(3,y)]) (hx:a.eval x=(Ee (nf c)).agg) (hy:a.eval y= .int .i64 0):(execOp a.eval o).run prog w= .ok (.value (.agg (lnC c).toArray)) w:=by
 have e:(Instr.build 53 #[(0,(Ee (nf c)).agg),(3, .int .i64 0)]).run prog w= .ok (.agg (lnC c).toArray) w:=by kernel_rfl
 unfold execOp
 simp only[ho,List.map_toArray,List.map_cons,List.map_nil,hx,hy]
 simp[e]
theorem ex_ln1 {o:Oper} {a:Act} {w:World} {x:Operand} {c:Nat} (ho:o.op= .build 53 #[(0,x)]) (hx:a.eval x=(Ee (nf c)).agg):(execOp a.eval o).run prog w= .ok (.value (.agg (lnC c).toArray)) w:=by
 have e:(Instr.build 53 #[(0,(Ee (nf c)).agg)]).run prog w= .ok (.agg (lnC c).toArray) w:=by kernel_rfl
 unfold execOp
 simp only[ho,List.map_toArray,List.map_cons,List.map_nil,hx]
 simp[e]
theorem Ur {n:Nat} (hn:n<=2000∨n=4294967295) {T:TT} {l:List (Nat×DD)} (hp:pr T=arrG n l):FD (getD T Bm):=by
 rw[Lh hp]
 exact⟨nf_lt hn,show 0<2^64 by decide,show 0<2^64 by decide⟩
def LnP (h:HP) (j:Nat) (q:OB) (c:Nat) (l:List (Nat×DD)) (w:World) (e:Ending) (w':World):Prop:= ∃T':TT,e= .returned (.tuple #[.bool true, .nilIface])/\pr T'=arrG c (l.filter (fun e=>decide (e.1<c)))/\T'.last<=q.T.last+2/\h.To (h.tab j q T') w w'
theorem Zb5 (h:HP) (j:Nat) (q:OB) (c n:Nat) (l:List (Nat×DD)) (w:World) (H:h.Is w) (hT:Tabs w) (hl:h.l.length<=65536) (hj:h.l[j]? =some q) (hp:pr q.T=arrG n l) (hi: ∀e∈l,e.1<=1000000/\e.2.c≠1) (hnd:(l.map (·.1)).Nodup) (hla:q.T.last<90000) (hll:l.length<=100000) (hc:c<=300∨c=4294967295) (hn:n<=2000∨n=4294967295):Calls prog 188 #[.agg #[], .pointer (some ⟨h.b,0,none⟩), .int .i64 ((j:Int)+1), .int .u32 (c:Nat),(lnD c).agg] w (LnP h j q c l w):=by
 have SS:=Ab H.start
 rw[Oo]
 go_enter func188,ntmps188
 go_wp2_with (first|go_skip|((with_reducible show wpList ..);first|((refine bxE (by rfl) rfl rfl (Aa SS) ?_);intro X0 B0 S0;replace SS:=Ab S0;clear S0;simp only[nn])|(refine zB 53 (lnC c) (by rfl) rfl rfl rfl SS ?_;clear SS;intro Xd Bd SS;simp only[nn])|(refine z1 51 isAgg51 2 (by rfl) rfl rfl SS rfl rfl ?_;simp only[nn])))
 have hS4:Sy w _ h.blocks [hpO h,Ku B0,Am Bd (lnC c)]:=(Aa SS).drew
 clear SS
 refine wp_region_held_drew (P:=prog) (S:=fun X=>X.heap[B0]? =some (Obj.cells #[] 83)/\Holds X Bd (lnC c)) (by kernel_rfl) (⟨hS4.emp 1 rfl,hS4.hold 2 rfl⟩) (fun hS0=> ?_)
 refine gq 0 (some 22) (.pointer (some ⟨B0,0,none⟩)) rfl rfl (fun X hX=>faM rfl rfl hX.1) (⟨hS4.emp 1 rfl,hS4.hold 2 rfl⟩) ?_
 refine gq 1 (some 23) (.agg #[]) rfl rfl (fun X hX=>ldO rfl rfl) (⟨hS4.emp 1 rfl,hS4.hold 2 rfl⟩) ?_
 refine gp 2 (some 24) (.pointer (some ⟨h.b,0,none⟩)) rfl rfl (⟨hS4.emp 1 rfl,hS4.hold 2 rfl⟩) ?_
 refine gp 3 (some 25) (.int .i64 ((j:Int)+1)) rfl rfl (⟨hS4.emp 1 rfl,hS4.hold 2 rfl⟩) ?_
 refine gq 5 (some 27) (.agg (lnC c).toArray) rfl rfl (fun X hX=>Aj (vs:=lnC c) 53 18 rwD szD rfl rfl hX.2 rfl rfl) (⟨hS4.emp 1 rfl,hS4.hold 2 rfl⟩) ?_
 refine gr (rs:= [4]) (gc 4 (some 26) rfl rfl (Gn _) ?_ gn)
 rintro e Yt1 ⟨rfl,hYt1⟩
 have hqt1:=Sy.on hS4 hYt1
 refine⟨_,rfl,⟨hqt1.emp 1 rfl,hqt1.hold 2 rfl⟩, ?_⟩
 simp only[nn]
 refine gr (rs:= [6]) (gc 6 (some 28) rfl rfl (Kz h j q Bm (lnD c) _ (hqt1.hp 0 rfl) hl hj (hT.fr hqt1.fr H.low) Ks Gp (Ur hn hp) (ZaW hc) (by omega)) ?_ gn)
 rintro e Yt2 ⟨h1,y,rfl,hP,T3⟩
 obtain⟨rfl,T1,rfl,hp1,hl1⟩:=Pp hp hP
 have hqp:=Sy.heap hqt1 0 rfl T3
 refine⟨_,rfl,⟨hqp.emp 1 rfl,hqp.hold 2 rfl⟩, ?_⟩
 refine gp 7 (some 21) (.tuple #[.bool true, .nilIface]) rfl rfl (⟨hqp.emp 1 rfl,hqp.hold 2 rfl⟩) ?_
 refine gp 8 (some 29) (.bool true) rfl rfl (⟨hqp.emp 1 rfl,hqp.hold 2 rfl⟩) ?_
 refine gp 9 (some 30) (.nilIface) rfl rfl (⟨hqp.emp 1 rfl,hqp.hold 2 rfl⟩) ?_
 refine gp 10 (some 13) (.bool true) rfl rfl (⟨hqp.emp 1 rfl,hqp.hold 2 rfl⟩) ?_
 refine gp 11 (some 14) (.nilIface) rfl rfl (⟨hqp.emp 1 rfl,hqp.hold 2 rfl⟩) ?_
 refine wpAnyH_done (by kernel_rfl) ?_ _
 try simp only[nn]
 have SS:=Ab hqp
 clear hqp
 go_wp2_with (first|go_skip|((with_reducible show wpList ..);first|(refine rd rfl (ldM rfl rfl) ?_)))
 have HO:=cut_h (h.tab j q T1) j {q with T:=T1} c c l _ ((Aa SS).hp 0 rfl) (hT.fr (Aa SS).fr H.low) (by rw[Rp];exact hl) (Yy hj T1) (show pr T1=_ from hp1) hi hnd (by show T1.last<100000;omega) hll
 refine HO.mono ?_
 clear HO
 rintro _ Y ⟨T2,rfl,hp2,hl2,T7⟩
 replace SS:=Ab ((Aa SS).heap 0 rfl T7)
 clear T7
 go_wp2_with fail
 have hS8:=(Aa SS).drew
 rw[Ro] at hS8
 replace hS8:Sy w _ h.blocks [hpO (h.tab j q T2),Ku B0,Am Bd (lnC c)]:=hS8
 clear SS
 refine wp_region_held_drew (P:=prog) (S:=fun X=>True) (by kernel_rfl) (trivial) (fun hS0=> ?_)
 refine gq 0 (some 43) (.agg #[]) rfl rfl (fun X hX=>ldM rfl rfl) (trivial) ?_
 refine gp 1 (some 44) (.pointer (some ⟨h.b,0,none⟩)) rfl rfl (trivial) ?_
 refine gp 2 (some 45) (.int .i64 ((j:Int)+1)) rfl rfl (trivial) ?_
 refine gp 4 (some 47) (.int .u32 (c:Nat)) rfl rfl (trivial) ?_
 refine gq 5 (some 48) (.float .f64 (nf c)) rfl rfl (fun X hX=>Ev rfl rfl) (trivial) ?_
 refine gp 7 (some 50) (.int .i64 0) rfl rfl (trivial) ?_
 refine gr (rs:= [3]) (gc 3 (some 46) rfl rfl (Gn _) ?_ gn)
 rintro e Yu1 ⟨rfl,hYu1⟩
 have hqu1:=Sy.on hS8 hYu1
 refine⟨_,rfl,trivial, ?_⟩
 simp only[nn]
 refine gr (rs:= [6]) (gc 6 (some 49) rfl rfl (Dy (nf c) _) ?_ gn)
 rintro e Yu2 ⟨rfl,hYu2⟩
 have hqu2:=Sy.on hqu1 hYu2
 refine⟨_,rfl,trivial, ?_⟩
 refine gq 8 (some 51) (.agg (lnC c).toArray) rfl rfl (fun X hX=>ex_ln rfl rfl rfl) (trivial) ?_
 refine gr (rs:= [9]) (gc 9 (some 52) rfl rfl (Zcl (h.tab j q T2) j {q with T:=T2} Bm (lnD c) _ (hqu2.hp 0 rfl) (by rw[Rp];exact hl) (Yy hj T2) (hT.fr hqu2.fr H.low) Ks Gp (Ur (n:=c) (by omega) (show pr T2=_ from hp2)) (ZaW hc) (by have h9:T2.last=T1.last:=hl2;show T2.last<4000000;omega)) ?_ gn)
 rintro e Yu3 ⟨h2,y2,rfl,hP2,T5⟩
 obtain⟨rfl,T4,rfl,hp4,hl4⟩:=Pp (q:={q with T:=T2}) (show pr T2=_ from hp2) hP2
 have hqr:=Sy.heap hqu2 0 rfl T5
 rw[Ro] at hqr
 refine⟨_,rfl,trivial, ?_⟩
 refine wpAnyH_done (by kernel_rfl) ?_ _
 try simp only[nn]
 have SS:=Ab hqr
 clear hqr
 go_wp2
 go_ret2
 exact⟨T4,rfl,hp4,(by have:=hl4;have:=hl1;have h9:T2.last=T1.last:=hl2;omega),HP.To.end H (Aa SS) rfl⟩
theorem Zac {o:Oper} {a:Act} {w:World} {x y:Operand} {n m:Int} {r:Bool} (ho:o.op= .binOp .geq 44 x y 44) (hx:a.eval x= .int .u32 n) (hc:a.eval y= .int .u32 m) (h:decide (m<=n)=r):(execOp a.eval o).run prog w= .ok (.value (.bool r)) w:=by
 unfold execOp
 simp only[ho,hx,hc]
 simp[go_sem,eqGuard,h]
theorem LnP.up {h:HP} {j:Nat} {q:OB} {c n:Nat} {l:List (Nat×DD)} (hlt: ∀e∈l,e.1<n) (hnc:n<=c):l.filter (fun e=>decide (e.1<c))=l:=List.filter_eq_self.2 (fun e he=>decide_eq_true (by have:=hlt e he;omega))
theorem deflen_n (h:HP) (j:Nat) (q:OB) (c n:Nat) (l:List (Nat×DD)) (w:World) (H:h.Is w) (hT:Tabs w) (hl:h.l.length<=65536) (hj:h.l[j]? =some q) (hp:pr q.T=arrG n l) (hi: ∀e∈l,e.1<=1000000/\e.2.c≠1) (hlt: ∀e∈l,e.1<n) (hnd:(l.map (·.1)).Nodup) (hla:q.T.last<90000) (hll:l.length<=100000) (hc:c<=300∨c=4294967295) (hn:n<=2000∨n=4294967295):Calls prog 185 #[.agg #[], .pointer (some ⟨h.b,0,none⟩), .int .i64 ((j:Int)+1),(lnD c).agg] w (LnP h j q c l w):=by
 have hgl:=Lh hp
 have hCv:Cv (getD q.T Bm).v.x n:=by rw[hgl];exact Zcg hn
 have hw2:(getD q.T Bm).w=2:=by rw[hgl];rfl
 have SS:=Ab H.start
 rw[Oo]
 go_enter func185,ntmps185
 go_wp2_with (first|go_skip|((with_reducible show wpList ..);first|((refine bxE (by rfl) rfl rfl (Aa SS) ?_);intro X0 B0 S0;replace SS:=Ab S0;clear S0;simp only[nn])|(refine zB 53 (lnC c) (by rfl) rfl rfl rfl SS ?_;clear SS;intro Xd Bd SS;simp only[nn])|(refine z1 3 isAgg3 2 (by rfl) rfl rfl SS rfl rfl ?_;simp only[nn])|(refine zL (Gc (nf c)) 35 5 2 rwV szV (by rfl) rfl rfl SS rfl rfl rfl ?_;simp only[nn])))
 have HO:=aslen_n h c hc _ ((Aa SS).hp 0 rfl) (hT.fr (Aa SS).fr H.low)
 rw[Dd] at HO
 refine HO.mono ?_
 clear HO
 rintro _ Y ⟨rfl,hb⟩
 replace SS:=Ab ((Aa SS).on hb)
 clear hb
 go_wp2_with (first|go_skip|((with_reducible show wpList ..);first|(refine rd rfl (Ev rfl rfl) ?_)))
 have HO:=fun X=>Dy (nf c) X
 simp only[Dd] at HO
 refine(HO _).mono ?_
 clear HO
 rintro _ Y ⟨rfl,hb⟩
 replace SS:=Ab ((Aa SS).on hb)
 clear hb
 go_wp2_with (first|go_skip|((with_reducible show wpList ..);first|(refine zS (hp:=(show 0+5<=18 by decide)) (Gc (nf c)) 2 35 (by rfl) rfl rfl rfl rfl (oneN _) szV SS rfl ?_;clear SS;intro Xe SS;simp only[nn])|(refine rd rfl (ldM rfl rfl) ?_)))
 have HO:=Zam h j q n _ ((Aa SS).hp 0 rfl) hl hj hCv hw2
 refine HO.mono ?_
 clear HO
 rintro _ Y ⟨rfl,hb⟩
 replace SS:=Ab ((Aa SS).on hb)
 clear hb
 replace SS:Hid (Sy w _ h.blocks [hpO h,Ku B0,Am Bd (lnC c)]):=SS
 by_cases hnc:n<=c
 ·have d1:decide ((n:Int)<=(c:Int))=true:=decide_eq_true (by omega)
  go_wp2_with (first|go_skip|((with_reducible show wpList ..);first|(refine rd rfl (Zac rfl rfl rfl d1) ?_)))
  have hS9:Sy w _ h.blocks [hpO h,Ku B0,Am Bd (lnC c)]:=(Aa SS).drew
  clear SS
  refine wp_region_held_drew (P:=prog) (S:=fun X=>X.heap[B0]? =some (Obj.cells #[] 83)/\Holds X Bd (lnC c)) (by kernel_rfl) (⟨hS9.emp 1 rfl,hS9.hold 2 rfl⟩) (fun hS0=> ?_)
  refine gq 0 (some 51) (.pointer (some ⟨B0,0,none⟩)) rfl rfl (fun X hX=>faM rfl rfl hX.1) (⟨hS9.emp 1 rfl,hS9.hold 2 rfl⟩) ?_
  refine gq 1 (some 52) (.agg #[]) rfl rfl (fun X hX=>ldO rfl rfl) (⟨hS9.emp 1 rfl,hS9.hold 2 rfl⟩) ?_
  refine gp 2 (some 53) (.pointer (some ⟨h.b,0,none⟩)) rfl rfl (⟨hS9.emp 1 rfl,hS9.hold 2 rfl⟩) ?_
  refine gp 3 (some 54) (.int .i64 ((j:Int)+1)) rfl rfl (⟨hS9.emp 1 rfl,hS9.hold 2 rfl⟩) ?_
  refine gq 5 (some 56) (.agg (lnC c).toArray) rfl rfl (fun X hX=>Aj (vs:=lnC c) 53 18 rwD szD rfl rfl hX.2 rfl rfl) (⟨hS9.emp 1 rfl,hS9.hold 2 rfl⟩) ?_
  refine gr (rs:= [4]) (gc 4 (some 55) rfl rfl (Gn _) ?_ gn)
  rintro e Yt1 ⟨rfl,hYt1⟩
  have hqt1:=Sy.on hS9 hYt1
  refine⟨_,rfl,⟨hqt1.emp 1 rfl,hqt1.hold 2 rfl⟩, ?_⟩
  simp only[nn]
  refine gr (rs:= [6]) (gc 6 (some 57) rfl rfl (Kz h j q Bm (lnD c) _ (hqt1.hp 0 rfl) hl hj (hT.fr hqt1.fr H.low) Ks Gp (Ur hn hp) (ZaW hc) (by omega)) ?_ gn)
  rintro e Yt2 ⟨h1,y,rfl,hP,T3⟩
  obtain⟨rfl,T1,rfl,hp1,hl1⟩:=Pp hp hP
  have hqp:=Sy.heap hqt1 0 rfl T3
  refine⟨_,rfl,⟨hqp.emp 1 rfl,hqp.hold 2 rfl⟩, ?_⟩
  refine gp 7 (some 58) (.bool true) rfl rfl (⟨hqp.emp 1 rfl,hqp.hold 2 rfl⟩) ?_
  refine gp 8 (some 59) (.nilIface) rfl rfl (⟨hqp.emp 1 rfl,hqp.hold 2 rfl⟩) ?_
  refine gp 9 (some 8) (.bool true) rfl rfl (⟨hqp.emp 1 rfl,hqp.hold 2 rfl⟩) ?_
  refine gp 10 (some 9) (.nilIface) rfl rfl (⟨hqp.emp 1 rfl,hqp.hold 2 rfl⟩) ?_
  refine wpAnyH_done (by kernel_rfl) ?_ _
  try simp only[nn]
  have SS:=Ab hqp
  clear hqp
  go_wp2
  go_ret2
  exact⟨T1,rfl,(by rw[LnP.up (h:=h) (j:=j) (q:=q) hlt hnc];exact hp1),(by omega),HP.To.end H (Aa SS) rfl⟩
 ·have d1:decide ((n:Int)<=(c:Int))=false:=decide_eq_false (by omega)
  go_wp2_with (first|go_skip|((with_reducible show wpList ..);first|(refine rd rfl (Zac rfl rfl rfl d1) ?_)|(refine rd rfl (ldM rfl rfl) ?_)|(refine zL (lnC c) 53 18 2 rwD szD (by rfl) rfl rfl SS rfl rfl rfl ?_;simp only[nn])))
  have HO:=Zb5 h j q c n l _ ((Aa SS).hp 0 rfl) (hT.fr (Aa SS).fr H.low) hl hj hp hi hnd hla hll hc hn
  rw[Oo] at HO
  refine HO.mono ?_
  clear HO
  rintro _ Y3 ⟨T1,rfl,hp1,hl1,T3⟩
  replace SS:=Ab ((Aa SS).heap 0 rfl T3)
  clear T3
  go_wp2
  go_ret2
  exact⟨T1,rfl,hp1,hl1,HP.To.end H (Aa SS) rfl⟩
theorem mdef_n (h:HP) (j:Nat) (q:OB) (c n:Nat) (l:List (Nat×DD)) (w:World) (H:h.Is w) (hT:Tabs w) (hl:h.l.length<=65536) (hj:h.l[j]? =some q) (hp:pr q.T=arrG n l) (hi: ∀e∈l,e.1<=1000000/\e.2.c≠1) (hlt: ∀e∈l,e.1<n) (hnd:(l.map (·.1)).Nodup) (hla:q.T.last<90000) (hll:l.length<=100000) (hc:c<=300∨c=4294967295) (hn:n<=2000∨n=4294967295):Calls prog 183 #[.agg #[], .pointer (some ⟨h.b,0,none⟩), .int .i64 ((j:Int)+1),Bm.agg,(lnD c).agg] w (LnP h j q c l w):=by
 have SS:=Ab H.start
 rw[Le,Oo]
 go_enter func183,ntmps183
 go_wp2_with (first|go_skip|((with_reducible show wpList ..);first|((refine bxE (by rfl) rfl rfl (Aa SS) ?_);intro X0 B0 S0;replace SS:=Ab S0;clear S0;simp only[nn])|(refine zB 42 (Bm.cs) (by rfl) rfl rfl rfl SS ?_;clear SS;intro Xa Ba SS;simp only[nn])|(refine zB 53 (lnC c) (by rfl) rfl rfl rfl SS ?_;clear SS;intro Xb Bb SS;simp only[nn])))
 have hS1:Sy w _ h.blocks [hpO h,Ku B0,Am Ba Bm.cs,Am Bb (lnC c)]:=(Aa SS).drew
 clear SS
 refine wp_region_held_drew (P:=prog) (S:=fun X=>Sy w X h.blocks _) (by kernel_rfl) (hS1) (fun hS0=> ?_)
 refine gq 0 (some 14) (.agg Bm.cs.toArray) rfl rfl (fun X hX=>Aj (vs:=Bm.cs) 42 2 rwK szK rfl rfl (hX.hold 2 rfl) rfl rfl) (hS1) ?_
 refine gr (rs:= [1]) (gcB 1 (some 15) rfl rfl hS1 (Gn _) id ?_ gn)
 intro Yt1 hqt1
 refine gq 2 (some 16) (.bool true) rfl rfl (fun X hX=>Zad rfl rfl rfl) (hqt1) ?_
 refine wpAnyH_done (by kernel_rfl) ?_ _
 try simp only[nn]
 have SS:=Ab hqt1
 go_wp2_with (first|go_skip|((with_reducible show wpList ..);first|(refine rd rfl (ldM rfl rfl) ?_)|(refine zL (lnC c) 53 18 3 rwD szD (by rfl) rfl rfl SS rfl rfl rfl ?_;simp only[nn])))
 have HO:=deflen_n h j q c n l _ ((Aa SS).hp 0 rfl) (hT.fr (Aa SS).fr H.low) hl hj hp hi hlt hnd hla hll hc hn
 rw[Oo] at HO
 refine HO.mono ?_
 clear HO
 rintro _ Y3 ⟨T1,rfl,hp1,hl1,T3⟩
 replace SS:=Ab ((Aa SS).heap 0 rfl T3)
 clear T3
 go_wp2
 go_ret2
 exact⟨T1,rfl,hp1,hl1,HP.To.end H (Aa SS) rfl⟩
def LnQ (h:HP) (j:Nat) (q:OB) (c:Nat) (l:List (Nat×DD)) (h1:HP) (y:Bool) (er:Value):Prop:=y=true/\er= .nilIface/\ ∃T':TT,h1=(h.tab j q T').less/\pr T'=arrG c (l.filter (fun e=>decide (e.1<c)))/\T'.last<=q.T.last+2
theorem endef_n (h:HP) (j:Nat) (q:OB) (c n:Nat) (l:List (Nat×DD)) (w:World) (H:h.Is w) (hT:Tabs w) (K:h.Ok) (hj:h.l[j]? =some q) (hp:pr q.T=arrG n l) (hi: ∀e∈l,e.1<=1000000/\e.2.c≠1) (hlt: ∀e∈l,e.1<n) (hnd:(l.map (·.1)).Nodup) (hla:q.T.last<90000) (hll:l.length<=100000) (hc:c<=300∨c=4294967295) (hn:n<=2000∨n=4294967295) (hf:h.fuel≠0) (hd:h.ent≠h.depth):Calls prog 44 #[.pointer (some ⟨h.b,0,none⟩), .int .i64 ((j:Int)+1),Bm.agg,(lnD c).agg] w fun e w'=> ∃(h1:HP) (y:Bool) (er:Value),e= .returned (.tuple #[.bool y,er])/\LnQ h j q c l h1 y er/\h.To h1 w w':=by
 refine(Gt h j q Bm (lnD c) (fun h1 y er=>LnQ h j q c l h1.out y er) w H K hj hf hd ?_).mono ?_
 ·intro X T1
  refine(mdef_n h.inn j q c n l X T1.is (T1.tabs H hT) K.len hj hp hi hlt hnd hla hll hc hn).mono ?_
  rintro _ Y ⟨T',rfl,hpr,hla2,T2⟩
  exact⟨_,true, .nilIface,rfl,⟨rfl,rfl,T',by unfold HP.tab HP.out HP.inn HP.less;simp,hpr,hla2⟩,rfl,T2⟩
 ·rintro _ Y ⟨h1,y,er,rfl,hP,T2⟩
  exact⟨_,y,er,rfl,hP,T2⟩
theorem known_ln (n c:Nat):Az n [(lnD c).v,(lnD c).g,(lnD c).s]=0:=by simp[Az,Jc,lnD,Ee,Be]
theorem acc_ln (c:Nat):Dl [(lnD c).g,(lnD c).s]=0:=by simp[Dl,Og,lnD,Be]
theorem chk_ln (c:Nat):Dk (lnD c)=0:=by unfold Dk;rw[Zn];rfl
theorem Xu {h:HP} {j:Nat} {q:OB} (hj:h.l[j]? =some q):thE ((j:Int)+1) h.l.length=0:=by
 have hlt:=(List.getElem?_eq_some_iff.1 hj).1
 unfold thE Ri
 rw[if_pos (by simp;omega)]
theorem ddef_n (h:HP) (j:Nat) (q:OB) (c n:Nat) (l:List (Nat×DD)) (w:World) (H:h.Is w) (hT:Tabs w) (K:h.Ok) (hj:h.l[j]? =some q) (hp:pr q.T=arrG n l) (hi: ∀e∈l,e.1<=1000000/\e.2.c≠1) (hlt: ∀e∈l,e.1<n) (hnd:(l.map (·.1)).Nodup) (hla:q.T.last<90000) (hll:l.length<=100000) (hc:c<=300∨c=4294967295) (hn:n<=2000∨n=4294967295) (hf:h.fuel≠0) (hd:h.ent≠h.depth):Calls prog 15 #[.pointer (some ⟨h.b,0,none⟩), .int .i64 ((j:Int)+1),Bm.agg,(lnD c).agg] w fun e w'=> ∃T':TT,e= .returned (.tuple #[.bool true, .nilIface])/\pr T'=arrG c (l.filter (fun e=>decide (e.1<c)))/\T'.last<=q.T.last+2/\h.To (h.tab j q T').less w w':=by
 refine(Gz h ((j:Int)+1) Bm (lnD c) w H K.len hT (ZaW hc) (LnQ h j q c l) ?_).mono ?_
 ·intro j' q' X ho hj' _ T1
  obtain rfl:j=j':=by omega
  obtain rfl:q=q':=Option.some.inj (hj.symm.trans hj')
  refine(endef_n h j q c n l X T1.is (T1.tabs H hT) K hj hp hi hlt hnd hla hll hc hn hf hd).mono ?_
  exact fun e Y hh=>hh
 ·rintro _ Y ⟨h1,y,er,rfl,hP,T1⟩
  have hz:orE [thE ((j:Int)+1) h.l.length,Da Bm,Dk (lnD c),Az h.l.length [(lnD c).v,(lnD c).g,(lnD c).s],Dl [(lnD c).g,(lnD c).s]]=0:=by
   have h2:Da Bm=0:=by unfold Da;rw[Gp];rfl
   rw[Xu hj,h2,chk_ln,known_ln,acc_ln]
   rfl
  rcases hP with ⟨h0,_⟩|⟨_,rfl,rfl,T',rfl,hpr,hla2⟩
  ·exact absurd hz h0
  ·exact⟨T',rfl,hpr,hla2,T1⟩
