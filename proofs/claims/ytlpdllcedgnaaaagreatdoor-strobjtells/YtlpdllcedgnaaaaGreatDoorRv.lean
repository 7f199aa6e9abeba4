import Derived.Test.YtlpdllcedgnaaaaGreatDoorRu
set_option linter.all false
namespace Go.Proofs.YtlpdllcedgnaaaaGreatDoor
set_option maxRecDepth 100000
set_option maxHeartbeats 0
section
open Go Go.Proofs Go.Maps Go.RowKit FM Tryz
attribute [local go_sem] Ao Ai Am Dq Dp Br Ah Bq
theorem ZdA (c:Nat) (t:List Nat) (h:c<128):M.dec (c::t)=(c,1):=by
 have hg:M.goD (c::t)=(c,1):=by
  unfold M.goD
  simp[h]
 unfold M.dec
 rw[hg]
 have: ¬(c=65533/\1<=1):=by omega
 simp[this]
 omega
theorem Zaa (l:List Nat) (h: ∀c∈l,c<128):M.valid false l=true:=by
 induction l with
 |nil=>rfl
 |cons c t ih=>
  have hc:=h c (List.mem_cons_self ..)
  have hi:M.isHi c=false:=by unfold M.isHi;simp;omega
  rw[M.valid_step false _ (by simp),ZdA c t hc]
  simp[hi]
  exact ih (fun x hx=>h x (List.mem_cons_of_mem _ hx))
theorem dec_mem (u:Nat): ∀c∈Lib.decDigits u,c.toNat<128:=by
 induction u using Nat.strongRecOn with
 |_ u ih=>
  intro c hc
  by_cases h:u<10
  ·rw[Lib.decDigits,dif_pos h] at hc
   rw[List.mem_singleton.1 hc]
   simp;omega
  ·rw[Lib.decDigits,dif_neg h] at hc
   rcases List.mem_append.1 hc with h1|h1
   ·exact ih (u / 10) (by omega) c h1
   ·rw[List.mem_singleton.1 h1]
    simp;omega
theorem dec_len (u:Nat):(Lib.decDigits u).length<=u+1:=by
 induction u using Nat.strongRecOn with
 |_ u ih=>
  by_cases h:u<10
  ·rw[Lib.decDigits,dif_pos h]
   simp
  ·rw[Lib.decDigits,dif_neg h,List.length_append]
   have:=ih (u / 10) (by omega)
   simp
   omega
theorem Ot {u:Nat} (h:u<=1000000):goodK (Gc u)=true:=by
 rw[ZaQ]
 have h1:(Kv u).size<=1048576:=by
  have:=dec_len u
  show (Lib.decDigits u).toArray.size<=_
  simp
  omega
 have h2:vS (Kv u)=true:=by
  unfold vS
  refine Zaa _ (fun c hc=> ?_)
  unfold Az at hc
  obtain⟨b,hb,rfl⟩:=List.mem_map.1 hc
  exact dec_mem u b hb
 simp[Gc,h1,h2]
theorem Sy.more {w X Y:World} {E:List Nat} {L:List Ob} {h h':HP} (S:Sy w X E L) (i:Nat) (hi:L[i]? =some (hpO h)) (A:h.To h' X Y) {o:Ob} (hok:o.Ok) (hP:o.P Y) (hlo: ∀b∈o.bs,X.heap.size<=b) (hap: ∀b∈o.bs,b ∉ h'.blocks):Sy w Y E (L.set i (hpO h')++ [o]):=by
 have S2:=S.heap i hi A
 refine⟨S2.fr,fun x hx=> ?_,fun x hx=> ?_,fun x hx b hb=> ?_, ?_⟩
 ·rcases List.mem_append.1 hx with h1|h1
  ·exact S2.ok x h1
  ·rw[List.mem_singleton.1 h1];exact hok
 ·rcases List.mem_append.1 hx with h1|h1
  ·exact S2.ho x h1
  ·rw[List.mem_singleton.1 h1];exact hP
 ·rcases List.mem_append.1 hx with h1|h1
  ·exact S2.lo x h1 b hb
  ·rw[List.mem_singleton.1 h1] at hb
   exact .inr (Nat.le_trans S.fr.size (hlo b hb))
 ·rw[List.pairwise_append]
  refine⟨S2.dis,by simp,fun a ha b hb x hx hxb=> ?_⟩
  rw[List.mem_singleton.1 hb] at hxb
  obtain⟨j,hj,hja⟩:=List.getElem_of_mem ha
  rw[List.getElem_set] at hja
  split at hja
  ·subst hja
   exact hap x hxb hx
  ·have hm:a∈L:=by rw[←hja];exact List.getElem_mem _
   have:=(S.ok a hm).lt (S.ho a hm) x hx
   have:=hlo x hxb
   omega
theorem OwnK.thing {w X Y:World} {E:List Nat} {L:List Ob} {h:HP} {V:Value} {KS:List KK} (S:Sy w X E L) (i:Nat) (hi:L[i]? =some (hpO h)) (A:h.To h.less X Y) (hO:OwnK Y X.heap.size V KS):Sy w Y E (L.set i (hpO h.less)++ [Dm 0 40 2 V KS.length (Dg KS)]):=
 S.more i hi A (Lh _ _ _ _ _ _) (Kz hO (Nat.zero_le _)) (fun b hb=>(hO.own b (by simpa [Dm] using hb)).1) (fun b hb hm=>by
  have h1:=(hO.own b (by simpa [Dm] using hb)).1
  have h2:=(S.hp i hi).lt b hm
  omega)
theorem Zf {X:World} {base n:Nat} {V:Value} {KS:List KK} (hO:X.ownsRow base 40 2 V n (Dg KS)) (hn:KS.length=n) (j:Nat) (hj:j<n): ∃g c,V= .slice (some ⟨g,0,none⟩) n c/\X.rangeAt g (0+j * 2) (KS[j]'(by omega)).cs:=by
 have e:Dg KS=KS.flatMap KK.cs:=rfl
 rw[e] at hO
 obtain⟨g,c,h1, -, -,h4⟩:=own_row (f:=KK.cs) (k:=2) (fun _=>rfl) hO hn j (by omega)
 exact⟨g,c,h1,h4⟩
def abS:ByteArray:=⟨#[97,98]⟩
def bS:ByteArray:=⟨#[98]⟩
def cS:ByteArray:=⟨#[99]⟩
def k1K:KK:=⟨⟨#[49]⟩,0⟩
theorem Za:k1K=Gc 1:=by
 unfold k1K Gc Kv
 rw[Lib.decDigits_one (by decide)]
 rfl
theorem ab_un:vS abS=true/\unS abS= [97,98]:=of_un (by simp) (by kernel_rfl)
theorem ab_fit:Gh abS=true:=by kernel_rfl
theorem b_fit:Gh bS=true:=by kernel_rfl
theorem c_fit:Gh cS=true:=by kernel_rfl
theorem b_of:ofS [98]=bS:=(Rx (s:=bS) (l:= [98]) (by kernel_rfl)).symm
theorem ab_ok:UOk [97,98]:=⟨by simp,by simp⟩
theorem Zck:unB [97,98] (Gc 1)=true:=by
 unfold unB
 rw[Zi (by simp) (by simp)]
 rfl
theorem Yz:unD [97,98] (Gc 1)=⟨Do bS,Bh,Bh,1,2,1⟩:=by
 unfold unD
 rw[Zi (by simp) (by simp)]
 show Zbf [97,98] 1=_
 unfold Zbf
 rw[show (([97,98]:List Nat).drop 1).take 1= [98] from rfl,b_of]
def cD:DD:=⟨Do cS,Bh,Bh,0,0,0⟩
theorem one_app (x:Bool):Mk x ⟨Do bS,Bh,Bh,1,2,1⟩ cD=false:=by
 cases x<;>kernel_rfl
theorem one_code {h:HP} {q:OB} (hl:h.l= [q]):DefC h (Gc 1) cD=0:=by
 unfold DefC
 rw[hl,show Bl (Gc 1)=0 by unfold Bl;rw[Ot (by omega)];rfl]
 kernel_rfl
theorem ord_one:La [lenK]= [lenK]:=by
 have h1:kd lenK=1:=by kernel_rfl
 unfold La ixs Gp Gx
 simp[h1,mg,Gl]
theorem ZcE {o:Oper} {a:Act} {w:World} (ho:o.op= .build 40 #[(0, .const (.string ⟨#[49]⟩))]):(execOp a.eval o).run prog w= .ok (.value (.agg k1K.cs.toArray)) w:=by
 have e:(Instr.build 40 #[(0, .string ⟨#[49]⟩)]).run prog w= .ok (.agg k1K.cs.toArray) w:=by kernel_rfl
 unfold execOp
 simp only[ho,List.map_toArray,List.map_cons,List.map_nil]
 simp[e,Act.eval]
theorem ex_bcD {o:Oper} {a:Act} {w:World} {x:Operand} (ho:o.op= .build 43 #[(0,x)]) (hx:a.eval x= .agg (Do cS).cs.toArray):(execOp a.eval o).run prog w= .ok (.value (.agg cD.cs.toArray)) w:=by
 have e:(Instr.build 43 #[(0, .agg (Do cS).cs.toArray)]).run prog w= .ok (.agg cD.cs.toArray) w:=by kernel_rfl
 unfold execOp
 simp only[ho,List.map_toArray,List.map_cons,List.map_nil,hx]
 simp[e]
theorem Sy.un {w X:World} {E:List Nat} {h:HP} {v:Value} {u:List Nat} {L:List Ob} (S:Sy w X E (hpO h::Dm 0 103 1 v u.length (u.map Em)::L)):Un h v u X:=
 ⟨S.get 1 rfl,fun b hb hm=>Vg S.dis (i:=1) (j:=0) rfl rfl (by decide) b (by show b∈v.ownBlock.toList;rw[hb];simp) hm⟩
theorem NewS.sy {w X Y:World} {E:List Nat} {h:HP} {s:ByteArray} {h1:HP} {q:OB} (N:NewS h s h1 q X.heap.size Y) (S:Sy w X E [hpO h]) (A:h.To h1 X Y):Sy w Y E [hpO h1,Dm 0 103 1 q.ov (unS s).length ((unS s).map Em)]:=
 S.more 0 rfl A (Lh _ _ _ _ _ _) N.un.1 (fun b hb=>N.ub b (by simpa [Dm] using hb)) (fun b hb=>N.un.2 b (by simpa [Dm] using hb))
theorem NewS.sh {h:HP} {s:ByteArray} {h1:HP} {q:OB} {W:Nat} {X:World} (N:NewS h s h1 q W X) (f0:0<=h.fuel) (f1:h.fuel<=1000000) (he:h.ent=0) (hd:h.depth=5):SH (unS s) h1 q 1 h.fuel:=
 ⟨⟨by rw[N.l];simp,by rw[N.f];exact f0,by rw[N.f];omega,by rw[N.e,he];decide,by rw[N.e,N.d,he,hd];decide,by rw[N.d,hd];decide⟩,N.l,N.qi,N.la,by rw[N.f];exact Int.le_refl _,by rw[N.e,he],by rw[N.d,hd]⟩
theorem Zb5 (s:ByteArray):Vj (Do s) (Do s)=true:=by
 have h:(FloatKind.f64.format.order 0 0==some .eq)=true:=by kernel_rfl
 unfold Vj Do
 simp[h]
theorem Zdv {o:Oper} {a:Act} {W:World} {x:Operand} {B p:Nat} {v:Value} (h0:W.cell? ⟨B,p,none⟩=some v) (ho:o.op= .load 9 x) (hx:a.eval x= .pointer (some ⟨B,p,none⟩)):(execOp a.eval o).run prog W= .ok (.value v) W:=Oz 9 isAgg9 ho hx h0
theorem rng8 {w X:World} {g c:Nat} {a a' b:Ob} (S:Sy w X [] [a,a',Dm 0 40 2 (.slice (some ⟨g,0,none⟩) 3 c) 3 (Dg [Gc 0,Gc 1,lenK]),b]):X.cell? ⟨g,0+2 * 2,none⟩=some (.string ZbE):=by
 obtain⟨g',c',h1,h2⟩:=Zf (S.get 2 rfl) rfl 2 (by decide)
 cases h1
 exact h2 0 _ rfl
theorem Mm (w:World) (h6:3<=w.heap.size) (hT:Tabs w):Calls prog 4 #[] w fun e w'=>e= .returned (.bool true)/\Below w.heap.size w w':=by
 have SS:=Ab (Sy.nil w [])
 have HT:=Ab hT
 clear hT
 go_enter func4,ntmps4
 go_wp2_with fail
 refine(Xu 50 _ h6 (by decide)).mono ?_
 rintro _ X1 ⟨B0,rfl,hI,hB0,hb⟩
 replace SS:=Ab (Zc hI hB0 hb)
 clear hI hb hB0
 go_wp2_with fail
 refine(Oj 0 _).mono ?_
 rintro _ _ ⟨rfl,rfl⟩
 go_wp2_with fail
 refine(Gs _).mono ?_
 rintro _ Y ⟨rfl,hb⟩
 replace SS:=Ab ((Aa SS).on hb)
 clear hb
 go_wp2_with fail
 have HC:=Yr (Gf B0 1 50 5) abS _ ((Aa SS).hp 0 rfl) (Db (Aa HT) (Aa SS).fr) rfl (Rq B0 50) ab_fit
 refine HC.mono ?_
 clear HC
 rintro _ Y1 ⟨h1,q,rfl,hN,T1⟩
 have hSy:=hN.sy (Aa SS) T1
 have hb1:h1.b=B0:=T1.hb
 have hS:SH (unS abS) h1 q 1 50:=hN.sh (show (0:Int)<=50 by decide) (show (50:Int)<=1000000 by decide) rfl rfl
 have hps:=hN.ps
 rw[ab_un.2] at hS hSy hps
 replace SS:=Ab hSy
 have HS:=Ab hS
 have HPS:=Ab hps
 clear T1 hN hSy hS hps
 rw[show ((0:Nat):Int)+1=1 from rfl]
 go_wp2_with fail
 have hlv:q.T.live.length<=1:=Nat.le_trans (Xw ((((Aa SS).hp 0 rfl)).ob (Aa HS).at0).2.1) (Aa HS).la
 have hks:La ((pr q.T).map (·.1))= [lenK]:=by rw[Aa HPS];exact ord_one
 have HK:=ZcG h1 q [97,98] 1 50 _ ((Aa SS).hp 0 rfl) (Aa HS) (Aa SS).un ab_ok (by simp) (Db (Aa HT) (Aa SS).fr) (by decide) (by decide) (by omega) (by rw[hks];decide)
 rw[hks,show Kc [97,98].length++ [lenK]= [Gc 0,Gc 1,lenK] from rfl,hb1] at HK
 refine HK.mono ?_
 clear HK hks hlv
 rintro _ Y2 ⟨V,rfl,hO,T2⟩
 replace HS:=Ab ((Aa HS).less (by decide))
 replace SS:=Ab (OwnK.thing (Aa SS) 0 rfl T2 hO)
 have hb2:h1.less.b=B0:=hb1
 clear hO T2
 generalize h1.less=h2 at *
 clear hb1
 go_wp2_with (first|go_skip|((with_reducible show wpList ..);first|(refine rd rfl (ZcE rfl) ?_)))
 refine(Gs _).mono ?_
 rintro _ Y3 ⟨rfl,hb⟩
 replace SS:=Ab ((Aa SS).on hb)
 clear hb
 have HSO:=Ab ((Aa HS).qi.so Zck)
 have HG:=ZbR h2 q [97,98] (Gc 1) 1 49 _ ((Aa SS).hp 0 rfl) (Aa HS) (Aa SS).un ab_ok (by simp) (Db (Aa HT) (Aa SS).fr) (Ot (by omega)) (by decide) (Aa HSO).2 (by rw[(Aa HSO).1,Yz];rfl)
 rw[(Aa HSO).1,Yz,←Za,hb2] at HG
 simp only[Ec,Dj] at HG ⊢
 go_wp2_with fail
 refine HG.mono ?_
 clear HG
 rintro _ Y4 ⟨rfl,T3⟩
 replace HS:=Ab ((Aa HS).less (by decide))
 replace SS:=Ab ((Aa SS).heap 0 rfl T3)
 have hb3:h2.less.b=B0:=hb2
 clear T3 HSO
 generalize h2.less=h3 at *
 clear hb2
 go_wp2_with (first|go_skip|((with_reducible show wpList ..);first|(refine zA 36 (Bh.cs) (by rfl) rfl SS ?_;clear SS;intro Xv Bv SS;simp only[nn])|(refine zS ((Do bS).cs) 3 36 (by rfl) rfl rfl rfl rfl (Jl _) szV SS rfl ?_;clear SS;intro Xy SS;simp only[nn])|(refine rd rfl (ZcE rfl) ?_)))
 have HV:=Qt cS c_fit _ ((Db (Aa HT) (Aa SS).fr)).1
 rw[Dj] at HV
 refine HV.mono ?_
 clear HV
 rintro _ Y5 ⟨rfl,hb⟩
 replace SS:=Ab ((Aa SS).on hb)
 clear hb
 go_wp2_with (first|go_skip|((with_reducible show wpList ..);first|(refine rd rfl (ex_bcD rfl rfl) ?_)))
 have HD:=do_def h3 q [97,98] (Gc 1) cD 1 48 _ ((Aa SS).hp 0 rfl) (Aa HS) (Aa SS).un ab_ok (by simp) (Db (Aa HT) (Aa SS).fr) ⟨by decide,by decide,by decide⟩ (by decide) (by decide)
 rw[←Za,hb3] at HD
 simp only[Ec,Es] at HD
 refine HD.mono ?_
 clear HD
 rintro _ Y6 ⟨h4,y,er,rfl,⟨-,hy⟩,T4⟩
 replace SS:=Ab ((Aa SS).heap 0 rfl T4)
 clear T4
 rw[Za] at hy
 obtain⟨rfl,rfl⟩:=hy (one_code (Aa HS).l) Zck
 rw[Yz,one_app]
 clear hy
 go_wp2_with fail
 obtain⟨g,c,hV,hrg⟩:=Zf ((Aa SS).get 2 rfl) rfl 2 (by decide)
 subst hV
 clear hrg
 have HVB:=fun {X:World} (hX:Tabs X)=>Qt bS b_fit X hX.1
 simp only[Dj] at HVB
 have hS8:Sy w _ [] [hpO h4,Dm 0 103 1 q.ov [97,98].length ([97,98].map Em),Dm 0 40 2 (.slice (some ⟨g,0,none⟩) 3 c) 3 (Dg [Gc 0,Gc 1,lenK]),Bf Bv (Dh Bh.cs 0 (Do bS).cs)]:=(Aa SS).drew
 clear SS
 refine wp_region_held_drew (P:=prog) (S:=fun X=>Sy w X [] _) (by kernel_rfl) (hS8) (fun hS0=> ?_)
 refine gp 0 (some 48) (.int .i64 1) rfl rfl (hS8) ?_
 refine gp 1 (some 49) (.bool true) rfl rfl (hS8) ?_
 refine gp 2 (some 50) (.bool true) rfl rfl (hS8) ?_
 refine gp 3 (some 51) (.nilIface) rfl rfl (hS8) ?_
 refine gp 4 (some 52) (.bool true) rfl rfl (hS8) ?_
 refine gp 5 (some 53) (.bool true) rfl rfl (hS8) ?_
 refine gp 6 (some 54) (.bool true) rfl rfl (hS8) ?_
 refine gp 7 (some 55) (.nilIface) rfl rfl (hS8) ?_
 refine gp 8 (some 56) (.bool true) rfl rfl (hS8) ?_
 refine gp 9 (some 57) (.bool true) rfl rfl (hS8) ?_
 refine gp 10 (some 58) (.bool true) rfl rfl (hS8) ?_
 refine gp 11 (some 59) (.nilIface) rfl rfl (hS8) ?_
 refine gp 12 (some 60) (.bool true) rfl rfl (hS8) ?_
 refine gp 13 (some 61) (.bool true) rfl rfl (hS8) ?_
 refine gp 14 (some 62) (.bool true) rfl rfl (hS8) ?_
 refine gp 15 (some 63) (.nilIface) rfl rfl (hS8) ?_
 refine gp 16 (some 64) (.bool true) rfl rfl (hS8) ?_
 refine gp 17 (some 65) (.bool true) rfl rfl (hS8) ?_
 refine gp 18 (some 66) (.bool true) rfl rfl (hS8) ?_
 refine gp 19 (some 67) (.slice (some ⟨g,0,none⟩) 3 c) rfl rfl (hS8) ?_
 refine gq 20 (some 68) (.int .i64 ((3:Nat):Int)) rfl rfl (fun X hX=>Bu 55 40 underlying55 rfl rfl) (hS8) ?_
 refine gp 21 (some 69) (.bool true) rfl rfl (hS8) ?_
 refine gp 22 (some 70) (.bool true) rfl rfl (hS8) ?_
 refine gp 23 (some 71) (.bool true) rfl rfl (hS8) ?_
 refine gp 24 (some 72) (.slice (some ⟨g,0,none⟩) 3 c) rfl rfl (hS8) ?_
 refine gq 25 (some 73) (.pointer (some ⟨g,0+2 * 2,none⟩)) rfl rfl (fun X hX=>Ek 55 2 2 unKs idKs rfl rfl rfl (by decide)) (hS8) ?_
 refine gp 26 (some 74) (.pointer (some ⟨g,0+2 * 2,none⟩)) rfl rfl (hS8) ?_
 refine gq 27 (some 75) (.string ZbE) rfl rfl (fun X hX=>Zdv (rng8 hX) rfl rfl) (hS8) ?_
 refine gq 28 (some 76) (.bool true) rfl rfl (fun X hX=>Zp (s:=ZbE) rfl rfl rfl) (hS8) ?_
 refine gp 29 (some 77) (.bool true) rfl rfl (hS8) ?_
 refine gp 30 (some 78) (.bool true) rfl rfl (hS8) ?_
 refine gq 31 (some 79) (.agg (Do bS).cs.toArray) rfl rfl (fun X hX=>Aj (vs:=(Do bS).cs) 36 5 rwV szV rfl rfl (hX.hold 3 rfl) rfl rfl) (hS8) ?_
 refine gr (rs:= [32]) (gcB 32 (some 80) rfl rfl hS8 (HVB (Db (Aa HT) hS8.fr)) id ?_ gn)
 intro Yt1 hqt1
 refine gq 33 (some 81) (.bool true) rfl rfl (fun X hX=>ex_eqV rfl rfl rfl (Zb5 bS)) (hqt1) ?_
 refine gp 34 (some 82) (.bool true) rfl rfl (hqt1) ?_
 refine gp 35 (some 83) (.bool true) rfl rfl (hqt1) ?_
 refine gp 36 (some 84) (.bool false) rfl rfl (hqt1) ?_
 refine gp 37 (some 85) (.bool true) rfl rfl (hqt1) ?_
 refine gp 38 (some 86) (.bool true) rfl rfl (hqt1) ?_
 refine gp 39 (some 0) (.bool true) rfl rfl (hqt1) ?_
 refine wpAnyH_done (by kernel_rfl) ?_ _
 try simp only[nn]
 have SS:=Ab hqt1
 go_wp2
 go_ret
 exact⟨rfl,(Aa SS).fr.below⟩
