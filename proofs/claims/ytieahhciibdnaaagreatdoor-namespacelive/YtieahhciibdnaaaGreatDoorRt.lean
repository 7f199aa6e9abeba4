import Derived.Test.YtieahhciibdnaaaGreatDoorRs
set_option linter.all false
namespace Go.Proofs.YtieahhciibdnaaaGreatDoor
set_option maxRecDepth 100000
set_option maxHeartbeats 0
section
open Go Go.Proofs Go.Maps Go.RowKit FM Tryz
attribute [local go_sem] Ak Ae Aq Dl Dk Bl Af Aj Ad Bj Et Es
theorem NX.put {h:HP} {q:OB} {p:EX} {L:Nat} (N:NX h q p L) {i:Nat} {s:ByteArray} {v:VV} (hi:p.pF s=some i) (hv:v.s.size<=1048576):NX (h.ex (p.put i s v)) q (p.put i s v) L:=
 ⟨N.l,N.ow,rfl,Wf.put N.W hi,N.V.put hv,N.m,N.x,N.pv,N.tg,N.last,⟨N.K.len,N.K.f0,N.K.f1,N.K.e0,N.K.e1,N.K.d1⟩⟩
theorem Zeb {o:Oper} {a:Act} {w:World} {x:Operand} (ho:o.op= .field 41 x 1) (hx:a.eval x= .agg (Ly 5).toArray):(execOp a.eval o).run prog w= .ok (.value (.int .i64 5)) w:=by
 unfold execOp
 simp only[ho,hx]
 kernel_rfl
theorem ex_eqNum {o:Oper} {a:Act} {w:World} {x y:Operand} (ho:o.op= .binOp .eql 26 x y 26) (hx:a.eval x= .agg (Mq 4607182418800017408).cs.toArray) (hy:a.eval y= .agg (Mq 4607182418800017408).cs.toArray):(execOp a.eval o).run prog w= .ok (.value (.bool true)) w:=by
 unfold execOp
 simp only[ho,hx,hy]
 kernel_rfl
theorem Pk (w:World) (h6:6<=w.heap.size) (hT:Tabs w):Calls prog 4 #[] w fun e w'=>e= .returned (.bool true)/\Below w.heap.size w w':=by
 have SS:=Ab (Sy.nil w [])
 have HT:=Ab hT
 have H6:=Ab h6
 clear hT h6
 go_enter func4,ntmps4
 go_wp2_with fail
 refine(Zbr 1 100 10 _ (Nat.le_trans (Aa H6) (Aa SS).fr.size)).mono ?_
 rintro _ Y0 hN
 rcases hN with ⟨h9, -⟩|⟨-,B0,rfl,hI,hlo,hb⟩
 ·exact absurd h9 (by decide)
 replace SS:=Ab ((Aa SS).newh hI hb (fun b hb=>by rw[Kz] at hb;rw[List.mem_singleton.1 hb];exact hlo))
 clear hI hlo hb
 go_wp2_with fail
 refine(Ky 0 _).mono ?_
 rintro _ _ ⟨rfl,rfl⟩
 go_wp2_with (first|go_skip|((with_reducible show wpList ..);first|((refine bs4 (by rfl) rfl rfl rfl rfl rfl (Aa SS) ?_);intro X1 B4 S1;replace SS:=Ab S1;clear S1;simp only[nn])))
 refine(new_ns (Js B0 1 100 10) (some ⟨B4,0,none⟩) 4 wN _ ((Aa SS).hp 0 rfl) ((Aa HT).on (Aa SS).fr.below) (new_ok B0 100 (by decide) (by decide)) rfl rfl (show (1:Int)<=1 by decide) (reads4 ((Aa SS).hold 1 rfl)) (by decide) wN_ok).mono ?_
 rintro _ Y1 ⟨h1,p,rfl,hM,T1⟩
 replace SS:=Ab ((Aa SS).heap 0 rfl T1)
 obtain⟨hN,q,N,eb,ef,ee,ed⟩:=hM
 have hb1:h1.b=B0:=eb
 have hf1:h1.fuel=100:=ef
 have he1:h1.ent=0:=ee
 have hd1:h1.depth=10:=ed
 clear T1 eb ef ee ed
 subst hb1
 have hla:=N.last
 go_wp2_with fail
 have HC:=ZbQ h1 0 q p _ ((Aa SS).hp 0 rfl) N.K N.ns N.tg ((Aa HT).on (Aa SS).fr.below) (by omega) (by omega) (by omega)
 rw[show (((0:Nat):Int)+1)=1 from rfl] at HC
 refine HC.mono ?_
 clear HC
 rintro _ Y2 ⟨v,rfl,hO,T2⟩
 obtain⟨x0,hx0,hxn,hpl⟩:=first_w hN
 have hKL:(Ez p).length=5:=by rw[Zby,hpl]
 have S9:=OwnK.thing (Aa SS) 0 rfl T2 hO
 rw[hKL] at S9
 obtain⟨gk,ck,ev, -⟩:=Ox (S9.get 2 rfl) hKL (Uw hx0)
 subst ev
 clear SS T2 hO
 have SS:=Ab S9
 clear S9
 obtain⟨ia,ba,hia,hfa,hbv,hbn⟩:=hN.has (s:=aB) (by simp[wN])
 have hba0:ba.v.k=0:=by rw[hbv];rfl
 obtain⟨q2,N2,S2⟩:=Uv N (by omega)
 have hf2:=S2.f1
 have he2:=S2.e
 have hd2:=S2.d
 go_wp2_with (first|go_skip|((with_reducible show wpList ..);first|(refine rd rfl (ex_kA rfl) ?_)))
 refine(Gw _).mono ?_
 rintro _ Y ⟨rfl,hb⟩
 replace SS:=Ab ((Aa SS).on hb)
 clear hb
 rw[Db]
 go_wp2_with fail
 have HC:=Zdj h1.less q2 p 2 ⟨aB,0⟩ nullV ba _ ((Aa SS).hp 0 rfl) ((Aa HT).on (Aa SS).fr.below) N2 (by omega) (by omega) (by omega) okkA goodA rfl nul_s nul_k hfa hba0
 rw[Dg,Db] at HC
 refine HC.mono ?_
 clear HC
 rintro _ Y4 ⟨B9,rfl,T4,hH,hB,hap⟩
 replace SS:=Ab (Sy.badG (Aa SS) 0 rfl T4 hH hB hap)
 clear T4 hH hB hap
 unfold Uk
 rw[Db]
 obtain⟨q3,N3,S3⟩:=Uv N2 (by omega)
 have hf3:=S3.f1
 have he3:=S3.e
 have hd3:=S3.d
 go_wp2_with (first|go_skip|((with_reducible show wpList ..);first|(refine zA 26 (zeroV.cs) (by rfl) rfl SS ?_;clear SS;intro Xy By SS;simp only[nn])|(refine zS (zeroV.cs) 4 26 (by rfl) rfl rfl rfl rfl (Ex _) szV SS rfl ?_;clear SS;intro Xz SS;simp only[nn])))
 refine(Zc2 4607182418800017408 _).mono ?_
 rintro _ Y ⟨rfl,hb⟩
 replace SS:=Ab ((Aa SS).on hb)
 clear hb
 rw[Db]
 go_wp2_with fail
 have HC:=Zb2 h1.less.less 0 q3 p aB (Mq 4607182418800017408) ia _ ((Aa SS).hp 0 rfl) ((Aa HT).on (Aa SS).fr.below) N3.ns okA (by rw[N3.len];exact num_chk _) hia
 rw[Db,show (((0:Nat):Int)+1)=1 from rfl] at HC
 refine HC.mono ?_
 clear HC
 rintro _ Y6 ⟨rfl,T6⟩
 replace SS:=Ab ((Aa SS).heap 0 rfl T6)
 clear T6
 have N4:=N3.put (v:=Mq 4607182418800017408) hia (by decide)
 go_wp2_with (first|go_skip|((with_reducible show wpList ..);first|(refine rd rfl (ex_kA rfl) ?_)))
 refine(Gw _).mono ?_
 rintro _ Y ⟨rfl,hb⟩
 replace SS:=Ab ((Aa SS).on hb)
 clear hb
 rw[Db]
 go_wp2_with fail
 have HC:=Zdk (h1.less.less.ex (p.put ia aB (Mq 4607182418800017408))) q3 (p.put ia aB (Mq 4607182418800017408)) 3 ⟨aB,0⟩ nullV ⟨aB,Mq 4607182418800017408⟩ _ ((Aa SS).hp 0 rfl) ((Aa HT).on (Aa SS).fr.below) N4 (by omega) (by show 10<=h1.less.less.fuel;omega) (by show h1.less.less.ent+5<=h1.less.less.depth;omega) okkA goodA rfl nul_s nul_k (by rw[ZbK N3.W hia,if_pos rfl]) (show (4:Int)≠0 by decide)
 rw[Dg,Db,Db] at HC
 refine HC.mono ?_
 clear HC
 rintro _ Y8 ⟨h5,rfl,hR5,T8⟩
 replace SS:=Ab ((Aa SS).heap 0 rfl T8)
 clear T8
 go_wp2_with (first|go_skip|((with_reducible show wpList ..);first|(refine zA 26 (zeroV.cs) (by rfl) rfl SS ?_;clear SS;intro Xu Bu SS;simp only[nn])|(refine zS ((Mq 4607182418800017408).cs) 5 26 (by rfl) rfl rfl rfl rfl (Ex _) szV SS rfl ?_;clear SS;intro Xz SS;simp only[nn])))
 have hS9:Sy w _ [] [hpO h5,Ao B4 [.string bB, .string aB, .string Ks, .string Yx],Do 0 45 2 (.slice (some ⟨gk,0,none⟩) 5 ck) 5 (flatK (Ez p)),Ao B9 Gz,Ao By zeroV.cs,Ao Bu (Mq 4607182418800017408).cs]:=(Aa SS).drew
 clear SS
 have HK0: ∀X,Sy w X [] [hpO h5,Ao B4 [.string bB, .string aB, .string Ks, .string Yx],Do 0 45 2 (.slice (some ⟨gk,0,none⟩) 5 ck) 5 (flatK (Ez p)),Ao B9 Gz,Ao By zeroV.cs,Ao Bu (Mq 4607182418800017408).cs]->X.cell? ⟨gk,0+0 * 2,none⟩=some (.string Ks):=fun X S=>by
  obtain⟨g2,c2,e2,e3⟩:=Ox (S.get 2 rfl) hKL (Uw hx0)
  cases e2
  rw[hxn] at e3
  exact e3 0 _ rfl
 have HK4: ∀X,Sy w X [] [hpO h5,Ao B4 [.string bB, .string aB, .string Ks, .string Yx],Do 0 45 2 (.slice (some ⟨gk,0,none⟩) 5 ck) 5 (flatK (Ez p)),Ao B9 Gz,Ao By zeroV.cs,Ao Bu (Mq 4607182418800017408).cs]->X.cell? ⟨gk,0+4 * 2+1,none⟩=some (.int .i64 12):=fun X S=>by
  obtain⟨g2,c2,e2,e3⟩:=Ox (S.get 2 rfl) hKL (by have:=Rg p;rw[hpl] at this;exact this)
  cases e2
  exact e3 1 _ rfl
 have HNM:=fun X=>Zc2 4607182418800017408 X
 simp only[Db] at HNM
 refine wp_region_held_drew (P:=prog) (S:=fun X=>Sy w X [] _) (by kernel_rfl) (hS9) (fun hS0=> ?_)
 refine gp 0 (some 51) (.int .i64 1) rfl rfl (hS9) ?_
 refine gp 1 (some 52) (.bool true) rfl rfl (hS9) ?_
 refine gp 2 (some 53) (.bool true) rfl rfl (hS9) ?_
 refine gp 3 (some 54) (.nilIface) rfl rfl (hS9) ?_
 refine gp 4 (some 55) (.bool true) rfl rfl (hS9) ?_
 refine gp 5 (some 56) (.bool true) rfl rfl (hS9) ?_
 refine gp 6 (some 57) (.bool true) rfl rfl (hS9) ?_
 refine gp 7 (some 58) (.nilIface) rfl rfl (hS9) ?_
 refine gp 8 (some 59) (.bool true) rfl rfl (hS9) ?_
 refine gp 9 (some 60) (.bool true) rfl rfl (hS9) ?_
 refine gp 10 (some 61) (.bool true) rfl rfl (hS9) ?_
 refine gp 11 (some 62) (.slice (some ⟨gk,0,none⟩) 5 ck) rfl rfl (hS9) ?_
 refine gq 12 (some 63) (.int .i64 5) rfl rfl (fun X hX=>Bo 62 45 underlying62 rfl rfl) (hS9) ?_
 refine gp 13 (some 64) (.bool true) rfl rfl (hS9) ?_
 refine gp 14 (some 65) (.bool true) rfl rfl (hS9) ?_
 refine gp 15 (some 66) (.bool true) rfl rfl (hS9) ?_
 refine gp 16 (some 67) (.slice (some ⟨gk,0,none⟩) 5 ck) rfl rfl (hS9) ?_
 refine gq 17 (some 68) (.pointer (some ⟨gk,0+0 * 2,none⟩)) rfl rfl (fun X hX=>Bp 62 2 0 Mp Mr rfl rfl rfl (show 0<5 by decide)) (hS9) ?_
 refine gp 18 (some 69) (.pointer (some ⟨gk,0+0 * 2,none⟩)) rfl rfl (hS9) ?_
 refine gq 19 (some 70) (.string Ks) rfl rfl (fun X hX=>Dc 9 isAgg9 rfl rfl (HK0 X hX)) (hS9) ?_
 refine gq 20 (some 71) (.bool true) rfl rfl (fun X hX=>Zcx (s:=Ks) (t:=Ks) rfl rfl rfl (decide_eq_true rfl)) (hS9) ?_
 refine gp 21 (some 72) (.bool true) rfl rfl (hS9) ?_
 refine gp 22 (some 73) (.bool true) rfl rfl (hS9) ?_
 refine gp 23 (some 74) (.slice (some ⟨gk,0,none⟩) 5 ck) rfl rfl (hS9) ?_
 refine gq 24 (some 75) (.pointer (some ⟨gk,0+4 * 2,none⟩)) rfl rfl (fun X hX=>Bp 62 2 4 Mp Mr rfl rfl rfl (show 4<5 by decide)) (hS9) ?_
 refine gp 25 (some 76) (.pointer (some ⟨gk,0+4 * 2+1,none⟩)) rfl rfl (hS9) ?_
 refine gq 26 (some 77) (.int .i64 12) rfl rfl (fun X hX=>Dc 3 isAgg3 rfl rfl (HK4 X hX)) (hS9) ?_
 refine gp 27 (some 78) (.bool true) rfl rfl (hS9) ?_
 refine gp 28 (some 79) (.bool true) rfl rfl (hS9) ?_
 refine gp 29 (some 80) (.bool true) rfl rfl (hS9) ?_
 refine gp 30 (some 81) (.iface 136 (.pointer (some ⟨B9,0,none⟩))) rfl rfl (hS9) ?_
 refine gr (rs:= [31]) (gc 31 (some 82) rfl rfl (ZbN B9 _ (hS9.hold 3 rfl)) ?_ gn)
 rintro e Yt1 ⟨rfl,hYt1⟩
 have hqt1:=hS9.set 3 rfl (Jo B9 Gz) (hYt1.get 0 rfl) hYt1.fr (fun b hb=> .inl hb)
 refine⟨_,rfl,hqt1, ?_⟩
 refine gq 32 (some 83) (.int .i64 5) rfl rfl (fun X hX=>Zeb rfl rfl) (hqt1) ?_
 refine gp 33 (some 84) (.bool true) rfl rfl (hqt1) ?_
 refine gp 34 (some 85) (.bool true) rfl rfl (hqt1) ?_
 refine gp 35 (some 86) (.bool true) rfl rfl (hqt1) ?_
 refine gp 36 (some 87) (.int .i64 0) rfl rfl (hqt1) ?_
 refine gr (rs:= [37]) (gcW 37 (some 88) rfl rfl (hqt1) (Ky 0 _) ?_ gn)
 refine gp 38 (some 89) (.bool true) rfl rfl (hqt1) ?_
 refine gp 39 (some 90) (.bool true) rfl rfl (hqt1) ?_
 refine gp 40 (some 91) (.bool true) rfl rfl (hqt1) ?_
 refine gq 41 (some 92) (.agg (Mq 4607182418800017408).cs.toArray) rfl rfl (fun X hX=>Am (vs:=(Mq 4607182418800017408).cs) 26 5 rwV szV rfl rfl (hX.hold 5 rfl) rfl rfl) (hqt1) ?_
 refine gr (rs:= [42]) (gcB 42 (some 93) rfl rfl hqt1 (HNM _) id ?_ gn)
 intro Yt3 hqt3
 refine gq 43 (some 94) (.bool true) rfl rfl (fun X hX=>ex_eqNum rfl rfl rfl) (hqt3) ?_
 refine gp 44 (some 95) (.bool true) rfl rfl (hqt3) ?_
 refine gp 45 (some 96) (.bool true) rfl rfl (hqt3) ?_
 refine gp 46 (some 97) (.nilIface) rfl rfl (hqt3) ?_
 refine gp 47 (some 98) (.bool true) rfl rfl (hqt3) ?_
 refine gp 48 (some 99) (.bool true) rfl rfl (hqt3) ?_
 refine gp 49 (some 0) (.bool true) rfl rfl (hqt3) ?_
 refine dn ?_
 try simp only[nn]
 have SS:=Ab hqt3
 clear hqt3
 go_wp2
 go_ret
 exact⟨rfl,(Aa SS).fr.below⟩
