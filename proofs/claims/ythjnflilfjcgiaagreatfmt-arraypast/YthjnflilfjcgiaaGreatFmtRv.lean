import Derived.Test.YthjnflilfjcgiaaGreatFmtRu
set_option linter.all false
namespace Go.Proofs.YthjnflilfjcgiaaGreatFmt
set_option maxRecDepth 100000
set_option maxHeartbeats 0
section
open Go Go.Proofs Go.Maps Go.RowKit FM Tryz
attribute [local go_sem] Ad Ag Ak Df Bi Ae Bg
theorem ZcV (x:Nat) (v:VV) (w:World) (h6:6<=w.heap.size) (hT:Tabs w) (hx:x<2^64) (hv:v.x<2^64) (k:Nat) (hk:IsL x k):Calls prog 4 #[.float .f64 x,v.agg] w fun e w'=>e= .returned (.bool true)/\Below w.heap.size w w':=by
 have HL:=Ab hk
 have SS:=Ab (Sy.nil w [])
 have HT:=Ab hT
 clear hT
 rw[Kg]
 go_enter func4,ntmps4
 go_wp2_with (first|go_skip|((with_reducible show wpList ..);first|(refine zB 35 (v.cs) (by rfl) rfl rfl rfl SS ?_;clear SS;intro Xv Bv SS;simp only[nn])))
 have h61:=Nat.le_trans h6 (Aa SS).fr.size
 refine(Zb2 _ h61 ((Aa HT).fr (Aa SS).fr (by simp))).mono ?_
 rintro _ X0 ⟨rfl,hb⟩
 have h60:6<=X0.heap.size:=Nat.le_trans h61 hb.size
 clear h61
 replace SS:=Ab ((Aa SS).on hb)
 clear hb
 go_wp2_with fail
 refine(newF 50 (by decide) _ h60).mono ?_
 rintro _ X1 ⟨B0,rfl,hI,hB0,hb⟩
 replace SS:=Ab (Zch (Aa SS) hI hB0 hb)
 clear hI hb hB0 h60
 go_wp2_with fail
 refine(Ji 0 _).mono ?_
 rintro _ _ ⟨rfl,rfl⟩
 go_wp2_with fail
 refine(Ji 0 _).mono ?_
 rintro _ _ ⟨rfl,rfl⟩
 go_wp2_with (first|go_skip|((with_reducible show wpList ..);first|(refine zL (v.cs) 35 5 1 rwV szV (by rfl) rfl rfl SS rfl rfl rfl ?_;simp only[nn])))
 have HC:=Ue v _ (((Aa HT).fr (Aa SS).fr (by simp))).1
 rw[Kg] at HC
 refine HC.mono ?_
 clear HC
 rintro _ Y ⟨rfl,hb⟩
 replace SS:=Ab ((Aa SS).on hb)
 clear hb
 by_cases hg:v.good=true
 ·by_cases hk7:v.k=7
  ·rw[if_pos hg]
   have HK:=Ab (Nm v)
   have HU:Hid (∀(i:Nat) (z:VV),([Eo v,Eo v]:List VV)[i]? =some z->z.x<2^64):=Ab (fun i z hz=>by
   have hm:=List.mem_of_getElem? hz
   simp at hm
   rw[hm];exact Nn v hv)
   generalize hu:Eo v=u at HK HU
   have hu2:Ee 4607182418800017408=u:=by rw[←hu];unfold Eo;rw[if_neg (fun hh=>hh.2 hk7)]
   clear hu
   go_wp2_with fail
   refine(Ji 0 _).mono ?_
   rintro _ _ ⟨rfl,rfl⟩
   go_wp2_with (first|go_skip|((with_reducible show wpList ..);first|(refine z1 3 isAgg3 1 (by rfl) rfl rfl SS rfl rfl ?_;simp only[nn])|(refine rd rfl (Nf rfl rfl rfl hk7) ?_)))
   refine(Dy 4607182418800017408 _).mono ?_
   rintro _ Y ⟨rfl,hb⟩
   replace SS:=Ab ((Aa SS).on hb)
   clear hb
   rw[hu2,Kg]
   clear hu2
   go_wp2_with (first|go_skip|((with_reducible show wpList ..);first|(refine zS (hp:=(show 0+5<=5 by decide)) (u.cs) 1 35 (by rfl) rfl rfl rfl rfl (Na _) szV SS rfl ?_;clear SS;intro Xn SS;simp only[nn])))
   replace SS:Hid (Sy w Xn [] [hpO (Bj B0 1 50 5),Am Bv u.cs]):=SS
   have hS10:Sy w _ [] [hpO (Bj B0 1 50 5),Am Bv u.cs]:=(Aa SS).drew
   clear SS
   refine wp_region_held_drew (P:=prog) (S:=fun X=>Holds X Bv u.cs) (by kernel_rfl) (hS10.hold 1 rfl) (fun hS0=> ?_)
   refine gp 0 (some 42) (.pointer (some ⟨B0,0,none⟩)) rfl rfl (hS10.hold 1 rfl) ?_
   refine gq 2 (some 44) (.agg u.cs.toArray) rfl rfl (fun X hX=>Aj (vs:=u.cs) 35 5 rwV szV rfl rfl hX rfl rfl) (hS10.hold 1 rfl) ?_
   refine gq 3 (some 45) (.agg u.cs.toArray) rfl rfl (fun X hX=>Aj (vs:=u.cs) 35 5 rwV szV rfl rfl hX rfl rfl) (hS10.hold 1 rfl) ?_
   refine gr (rs:= [1,4]) (gc 1 (some 43) rfl rfl (Gg _) ?_ (Bl 4 (some 46) rfl rfl (by kernel_rfl) (Bq rfl rfl rfl) (Nat.succ_pos _) hS10 (fun _ hZ=>hZ.hold 1 rfl) ?_ gn))
   ·rintro e Yt7 ⟨rfl,hYt7⟩
    have hqt7:=Sy.on hS10 hYt7
    refine⟨_,rfl,hqt7.hold 1 rfl, ?_⟩
    simp only[nn]
    refine gr (rs:= [4]) (Bl 4 (some 46) rfl rfl (by kernel_rfl) (Bq rfl rfl rfl) (Nat.succ_pos _) hqt7 (fun _ hZ=>hZ.hold 1 rfl) ?_ gn)
    intro Yt8 Bt8 hEt8 hqt8
    clear hEt8
    simp only[nn]
    refine gr (rs:= [5]) (gc 5 (some 47) rfl rfl (Je (Bj B0 1 50 5) (some ⟨Bt8,0,none⟩) 2 [u,u] _ (hqt8.hp 0 rfl) ((Aa HT).fr hqt8.fr (by simp)) (fun k=>Kh hqt8 (i:=2) rfl (by decide) (Nat.succ_pos _) k) (show 2<=2000 by decide) (Aa HU) (Nat.zero_le _) (Gh B0 50) (Aa HK)) ?_ gn)
    rintro e Yt9 ⟨gv,q,rfl,a1,a2,a3,a4,T1⟩
    have hqO:=Sy.heap hqt8 0 rfl T1
    refine⟨_,rfl,hqO.hold 1 rfl, ?_⟩
    refine gp 6 (some 41) (.tuple #[.int .i64 (((Bj B0 1 50 5).l.length:Int)+1), .nilIface]) rfl rfl (hqO.hold 1 rfl) ?_
    refine gp 7 (some 48) (.int .i64 (((Bj B0 1 50 5).l.length:Int)+1)) rfl rfl (hqO.hold 1 rfl) ?_
    refine gp 8 (some 49) (.nilIface) rfl rfl (hqO.hold 1 rfl) ?_
    refine gp 9 (some 7) (.int .i64 (((Bj B0 1 50 5).l.length:Int)+1)) rfl rfl (hqO.hold 1 rfl) ?_
    refine gp 10 (some 8) (.nilIface) rfl rfl (hqO.hold 1 rfl) ?_
    refine wpAnyH_done (by kernel_rfl) ?_ _
    try simp only[nn]
    have SS:=Ab (Sy.left (L:= [hpO ((Bj B0 1 50 5).more gv q),Am Bv u.cs]) (M:= [_]) hqO)
    have A:=Ab (Ka B0 50 gv q a1)
    obtain⟨h,hh⟩: ∃h,h=(Bj B0 1 50 5).more gv q:=⟨_,rfl⟩
    rw[←hh] at A SS
    have hB:h.b=B0:=by rw[hh];rfl
    clear hh
    obtain rfl:B0=h.b:=hB.symm
    rw[Jg] at a3
    have HQ:=Ab (And.intro a3 a4)
    clear a1 a2 a3 a4
    go_wp2_with fail
    refine(Ln _).mono ?_
    rintro _ Y ⟨rfl,hb⟩
    replace SS:=Ab ((Aa SS).on hb)
    clear hb
    go_wp2_with fail
    refine(Dy x _).mono ?_
    rintro _ Y ⟨rfl,hb⟩
    replace SS:=Ab ((Aa SS).on hb)
    clear hb
    go_wp2_with (first|go_skip|((with_reducible show wpList ..);first|(refine rd rfl (Mt rfl rfl) ?_)))
    have HC:=Qr h 0 q x k 2 (Dh [u,u]) _ ((Aa SS).hp 0 rfl) ((Aa HT).fr (Aa SS).fr (by simp)) ((Aa A).ok (by decide) (by decide)) (Aa A).at0 (Aa HQ).1 (fun e he=>⟨by have:=(Bz he).1;simp at this;omega,(Bz he).2⟩) (fun e he=>by have:=(Bz he).1;simpa using this) (Kv _) (by have:=(Aa HQ).2;simp at this;omega) (by rw[Ny];simp) (Aa HL) (by decide) ((Aa A).fu (by decide)) (Aa A).dp
    rw[show ((0:Nat):Int)+1=1 from rfl] at HC
    rw[Gr] at HC
    refine HC.mono ?_
    clear HC
    rintro _ Y ⟨T1,rfl,hp1,hl1,T9⟩
    replace SS:=Ab ((Aa SS).heap 0 rfl T9)
    clear T9
    obtain⟨l2,hl2⟩: ∃l2,l2=(Dh [u,u]).filter (fun e=>decide (e.1<k)):=⟨_,rfl⟩
    rw[←hl2] at hp1
    obtain⟨h2,q2,hb_h2,ht_h2,A1,SS⟩: ∃(h2:HP) (q2:OB),h2.b=h.b/\q2.T=T1/\Hid (AH h2 q2 (50 - 1))/\Hid (Sy w Y [] [hpO h2,Am Bv u.cs]):=⟨(h.tab 0 q T1).less,{q with T:=T1},rfl,rfl,Ab ((Aa A).tab T1),SS⟩
    rw[←ht_h2] at hp1 hl1
    have HP1:=Ab (And.intro hp1 hl1)
    have HL2:=Ab hl2
    have HLN:Hid (l2.length=min 2 k):=Ab (by rw[hl2];exact Mb _ _)
    clear hp1 hl1 ht_h2 hl2
    go_wp2_with fail
    have HC:=Gk h2 0 q2 _ ((Aa SS).hp 0 rfl) (by rw[(Aa A1).l];show 1<=65536;decide) (Aa A1).at0 (by have g1:=(Aa HQ).2;have g2:=(Aa HP1).2;simp at g1;omega)
    rw[show ((0:Nat):Int)+1=1 from rfl] at HC
    rw[hb_h2] at HC
    rw[show q2.po.ps=arrG k l2 from (Aa HP1).1] at HC
    refine HC.mono ?_
    clear HC
    rintro _ Y ⟨As,cs,rfl,hO,hb⟩
    replace SS:=Ab ((Aa SS).addRow hO hb (base:=w.heap.size) (Aa SS).fr.size)
    clear hO hb
    go_wp2_with (first|go_skip|((with_reducible show wpList ..);first|(refine zA 63 (shC Dw (.slice none 0 0)) (by rfl) rfl SS ?_;clear SS;intro Xs Bs SS;simp only[nn])|(refine zS (hp:=(by simp[shC,Dw,VV.cs])) (shC q2.po (.slice As (arrG k l2).length cs)) 3 63 (by rfl) rfl rfl rfl rfl (Gu _ _ _ _) szS SS rfl ?_;clear SS;intro Xz SS;simp only[nn])))
    go_wp2_with fail
    refine(Ji 0 _).mono ?_
    rintro _ _ ⟨rfl,rfl⟩
    go_wp2_with (first|go_skip|((with_reducible show wpList ..);first|(refine zL (shC q2.po (.slice As (arrG k l2).length cs)) 63 8 3 rwS szS (by rfl) rfl rfl SS rfl rfl rfl ?_;simp only[nn])))
    refine(Jd k (Aa HL).1 l2 (fun e he=>by rw[Aa HL2] at he;have g:=(Bz (List.mem_filter.1 he).1).1;simpa using g) (fun e he=>by rw[Aa HL2] at he;simpa using (List.mem_filter.1 he).2) q2.po As cs _ (Ej ((Aa SS).get 2 rfl) rfl) (by have g:=Aa HLN;unfold arrG;simp;omega)).mono ?_
    rintro _ Y ⟨rfl,hb⟩
    replace SS:=Ab ((Aa SS).on hb)
    clear hb
    go_wp2_with (first|go_skip|((with_reducible show wpList ..);first|(refine rd rfl (Qo (Aa HL).ge0 rfl rfl) ?_)|(refine rd rfl (Qn (Aa HL).leM rfl rfl) ?_)|(refine rd rfl (Kk (Aa HL).1 (Aa HL).conv rfl rfl) ?_)|(refine rd rfl (Ev rfl rfl) ?_)|(refine rd rfl (Kl (Aa HL).ord2 rfl rfl rfl) ?_)))
    have HC:=Lo h2 0 q2 k _ ((Aa SS).hp 0 rfl) (by rw[(Aa A1).l];show 1<=65536;decide) (Aa A1).at0 (Aa A1).c (Jf (Aa HP1).1 (Aa HL).1).1 (Jf (Aa HP1).1 (Aa HL).1).2
    rw[show ((0:Nat):Int)+1=1 from rfl] at HC
    rw[hb_h2] at HC
    refine HC.mono ?_
    clear HC
    rintro _ Y ⟨rfl,hb⟩
    replace SS:=Ab ((Aa SS).on hb)
    clear hb
    have HB:Hid ((((arrG k l2).length:Int)==1+min 2 (k:Int))=true):=Ab (by have g:=Aa HLN;unfold arrG;simp;omega)
    go_wp2_with (first|go_skip|((with_reducible show wpList ..);first|(refine rd rfl (Ev rfl rfl) ?_)|(refine rd rfl (Kl (Aa HL).ord rfl rfl rfl) ?_)))
    refine(Ji 0 _).mono ?_
    rintro _ _ ⟨rfl,rfl⟩
    go_wp2_with (first|go_skip|((with_reducible show wpList ..);first|(refine z1 61 isAgg61 3 (by rfl) rfl rfl SS rfl rfl ?_;simp only[nn])|(refine rd rfl (Bp 61 106 underlying61 rfl rfl) ?_)|(refine rd rfl (Yl (Aa HL).1 (Aa HL).conv rfl rfl) ?_)))
    go_ret
    refine⟨?_,(Aa SS).fr.below⟩
    show Ending.returned (.bool (((arrG k l2).length:Int)==1+min 2 (k:Int)))=_
    rw[Aa HB]
   ·intro Yt10 Bt10 hEt10 hqt10
    clear hEt10
    simp only[nn]
    refine gr (rs:= [1]) (gc 1 (some 43) rfl rfl (Gg _) ?_ gn)
    rintro e Yt11 ⟨rfl,hYt11⟩
    have hqt11:=Sy.on hqt10 hYt11
    refine⟨_,rfl,hqt11.hold 1 rfl, ?_⟩
    simp only[nn]
    refine gr (rs:= [5]) (gc 5 (some 47) rfl rfl (Je (Bj B0 1 50 5) (some ⟨Bt10,0,none⟩) 2 [u,u] _ (hqt11.hp 0 rfl) ((Aa HT).fr hqt11.fr (by simp)) (fun k=>Kh hqt11 (i:=2) rfl (by decide) (Nat.succ_pos _) k) (show 2<=2000 by decide) (Aa HU) (Nat.zero_le _) (Gh B0 50) (Aa HK)) ?_ gn)
    rintro e Yt12 ⟨gv,q,rfl,a1,a2,a3,a4,T1⟩
    have hqO:=Sy.heap hqt11 0 rfl T1
    refine⟨_,rfl,hqO.hold 1 rfl, ?_⟩
    refine gp 6 (some 41) (.tuple #[.int .i64 (((Bj B0 1 50 5).l.length:Int)+1), .nilIface]) rfl rfl (hqO.hold 1 rfl) ?_
    refine gp 7 (some 48) (.int .i64 (((Bj B0 1 50 5).l.length:Int)+1)) rfl rfl (hqO.hold 1 rfl) ?_
    refine gp 8 (some 49) (.nilIface) rfl rfl (hqO.hold 1 rfl) ?_
    refine gp 9 (some 7) (.int .i64 (((Bj B0 1 50 5).l.length:Int)+1)) rfl rfl (hqO.hold 1 rfl) ?_
    refine gp 10 (some 8) (.nilIface) rfl rfl (hqO.hold 1 rfl) ?_
    refine wpAnyH_done (by kernel_rfl) ?_ _
    try simp only[nn]
    have SS:=Ab (Sy.left (L:= [hpO ((Bj B0 1 50 5).more gv q),Am Bv u.cs]) (M:= [_]) hqO)
    have A:=Ab (Ka B0 50 gv q a1)
    obtain⟨h,hh⟩: ∃h,h=(Bj B0 1 50 5).more gv q:=⟨_,rfl⟩
    rw[←hh] at A SS
    have hB:h.b=B0:=by rw[hh];rfl
    clear hh
    obtain rfl:B0=h.b:=hB.symm
    rw[Jg] at a3
    have HQ:=Ab (And.intro a3 a4)
    clear a1 a2 a3 a4
    go_wp2_with fail
    refine(Ln _).mono ?_
    rintro _ Y ⟨rfl,hb⟩
    replace SS:=Ab ((Aa SS).on hb)
    clear hb
    go_wp2_with fail
    refine(Dy x _).mono ?_
    rintro _ Y ⟨rfl,hb⟩
    replace SS:=Ab ((Aa SS).on hb)
    clear hb
    go_wp2_with (first|go_skip|((with_reducible show wpList ..);first|(refine rd rfl (Mt rfl rfl) ?_)))
    have HC:=Qr h 0 q x k 2 (Dh [u,u]) _ ((Aa SS).hp 0 rfl) ((Aa HT).fr (Aa SS).fr (by simp)) ((Aa A).ok (by decide) (by decide)) (Aa A).at0 (Aa HQ).1 (fun e he=>⟨by have:=(Bz he).1;simp at this;omega,(Bz he).2⟩) (fun e he=>by have:=(Bz he).1;simpa using this) (Kv _) (by have:=(Aa HQ).2;simp at this;omega) (by rw[Ny];simp) (Aa HL) (by decide) ((Aa A).fu (by decide)) (Aa A).dp
    rw[show ((0:Nat):Int)+1=1 from rfl] at HC
    rw[Gr] at HC
    refine HC.mono ?_
    clear HC
    rintro _ Y ⟨T1,rfl,hp1,hl1,T9⟩
    replace SS:=Ab ((Aa SS).heap 0 rfl T9)
    clear T9
    obtain⟨l2,hl2⟩: ∃l2,l2=(Dh [u,u]).filter (fun e=>decide (e.1<k)):=⟨_,rfl⟩
    rw[←hl2] at hp1
    obtain⟨h2,q2,hb_h2,ht_h2,A1,SS⟩: ∃(h2:HP) (q2:OB),h2.b=h.b/\q2.T=T1/\Hid (AH h2 q2 (50 - 1))/\Hid (Sy w Y [] [hpO h2,Am Bv u.cs]):=⟨(h.tab 0 q T1).less,{q with T:=T1},rfl,rfl,Ab ((Aa A).tab T1),SS⟩
    rw[←ht_h2] at hp1 hl1
    have HP1:=Ab (And.intro hp1 hl1)
    have HL2:=Ab hl2
    have HLN:Hid (l2.length=min 2 k):=Ab (by rw[hl2];exact Mb _ _)
    clear hp1 hl1 ht_h2 hl2
    go_wp2_with fail
    have HC:=Gk h2 0 q2 _ ((Aa SS).hp 0 rfl) (by rw[(Aa A1).l];show 1<=65536;decide) (Aa A1).at0 (by have g1:=(Aa HQ).2;have g2:=(Aa HP1).2;simp at g1;omega)
    rw[show ((0:Nat):Int)+1=1 from rfl] at HC
    rw[hb_h2] at HC
    rw[show q2.po.ps=arrG k l2 from (Aa HP1).1] at HC
    refine HC.mono ?_
    clear HC
    rintro _ Y ⟨As,cs,rfl,hO,hb⟩
    replace SS:=Ab ((Aa SS).addRow hO hb (base:=w.heap.size) (Aa SS).fr.size)
    clear hO hb
    go_wp2_with (first|go_skip|((with_reducible show wpList ..);first|(refine zA 63 (shC Dw (.slice none 0 0)) (by rfl) rfl SS ?_;clear SS;intro Xs Bs SS;simp only[nn])|(refine zS (hp:=(by simp[shC,Dw,VV.cs])) (shC q2.po (.slice As (arrG k l2).length cs)) 3 63 (by rfl) rfl rfl rfl rfl (Gu _ _ _ _) szS SS rfl ?_;clear SS;intro Xz SS;simp only[nn])))
    go_wp2_with fail
    refine(Ji 0 _).mono ?_
    rintro _ _ ⟨rfl,rfl⟩
    go_wp2_with (first|go_skip|((with_reducible show wpList ..);first|(refine zL (shC q2.po (.slice As (arrG k l2).length cs)) 63 8 3 rwS szS (by rfl) rfl rfl SS rfl rfl rfl ?_;simp only[nn])))
    refine(Jd k (Aa HL).1 l2 (fun e he=>by rw[Aa HL2] at he;have g:=(Bz (List.mem_filter.1 he).1).1;simpa using g) (fun e he=>by rw[Aa HL2] at he;simpa using (List.mem_filter.1 he).2) q2.po As cs _ (Ej ((Aa SS).get 2 rfl) rfl) (by have g:=Aa HLN;unfold arrG;simp;omega)).mono ?_
    rintro _ Y ⟨rfl,hb⟩
    replace SS:=Ab ((Aa SS).on hb)
    clear hb
    go_wp2_with (first|go_skip|((with_reducible show wpList ..);first|(refine rd rfl (Qo (Aa HL).ge0 rfl rfl) ?_)|(refine rd rfl (Qn (Aa HL).leM rfl rfl) ?_)|(refine rd rfl (Kk (Aa HL).1 (Aa HL).conv rfl rfl) ?_)|(refine rd rfl (Ev rfl rfl) ?_)|(refine rd rfl (Kl (Aa HL).ord2 rfl rfl rfl) ?_)))
    have HC:=Lo h2 0 q2 k _ ((Aa SS).hp 0 rfl) (by rw[(Aa A1).l];show 1<=65536;decide) (Aa A1).at0 (Aa A1).c (Jf (Aa HP1).1 (Aa HL).1).1 (Jf (Aa HP1).1 (Aa HL).1).2
    rw[show ((0:Nat):Int)+1=1 from rfl] at HC
    rw[hb_h2] at HC
    refine HC.mono ?_
    clear HC
    rintro _ Y ⟨rfl,hb⟩
    replace SS:=Ab ((Aa SS).on hb)
    clear hb
    have HB:Hid ((((arrG k l2).length:Int)==1+min 2 (k:Int))=true):=Ab (by have g:=Aa HLN;unfold arrG;simp;omega)
    go_wp2_with (first|go_skip|((with_reducible show wpList ..);first|(refine rd rfl (Ev rfl rfl) ?_)|(refine rd rfl (Kl (Aa HL).ord rfl rfl rfl) ?_)))
    refine(Ji 0 _).mono ?_
    rintro _ _ ⟨rfl,rfl⟩
    go_wp2_with (first|go_skip|((with_reducible show wpList ..);first|(refine z1 61 isAgg61 3 (by rfl) rfl rfl SS rfl rfl ?_;simp only[nn])|(refine rd rfl (Bp 61 106 underlying61 rfl rfl) ?_)|(refine rd rfl (Yl (Aa HL).1 (Aa HL).conv rfl rfl) ?_)))
    go_ret
    refine⟨?_,(Aa SS).fr.below⟩
    show Ending.returned (.bool (((arrG k l2).length:Int)==1+min 2 (k:Int)))=_
    rw[Aa HB]
  ·rw[if_pos hg]
   have HK:=Ab (Nm v)
   have HU:Hid (∀(i:Nat) (z:VV),([Eo v,Eo v]:List VV)[i]? =some z->z.x<2^64):=Ab (fun i z hz=>by
   have hm:=List.mem_of_getElem? hz
   simp at hm
   rw[hm];exact Nn v hv)
   generalize hu:Eo v=u at HK HU
   obtain rfl:v=u:=by rw[←hu];unfold Eo;rw[if_pos ⟨hg,hk7⟩]
   clear hu
   go_wp2_with fail
   refine(Ji 0 _).mono ?_
   rintro _ _ ⟨rfl,rfl⟩
   go_wp2_with (first|go_skip|((with_reducible show wpList ..);first|(refine z1 3 isAgg3 1 (by rfl) rfl rfl SS rfl rfl ?_;simp only[nn])|(refine rd rfl (Nx rfl rfl rfl hk7) ?_)))
   have hS10:Sy w _ [] [hpO (Bj B0 1 50 5),Am Bv v.cs]:=(Aa SS).drew
   clear SS
   refine wp_region_held_drew (P:=prog) (S:=fun X=>Holds X Bv v.cs) (by kernel_rfl) (hS10.hold 1 rfl) (fun hS0=> ?_)
   refine gp 0 (some 42) (.pointer (some ⟨B0,0,none⟩)) rfl rfl (hS10.hold 1 rfl) ?_
   refine gq 2 (some 44) (.agg v.cs.toArray) rfl rfl (fun X hX=>Aj (vs:=v.cs) 35 5 rwV szV rfl rfl hX rfl rfl) (hS10.hold 1 rfl) ?_
   refine gq 3 (some 45) (.agg v.cs.toArray) rfl rfl (fun X hX=>Aj (vs:=v.cs) 35 5 rwV szV rfl rfl hX rfl rfl) (hS10.hold 1 rfl) ?_
   refine gr (rs:= [1,4]) (gc 1 (some 43) rfl rfl (Gg _) ?_ (Bl 4 (some 46) rfl rfl (by kernel_rfl) (Bq rfl rfl rfl) (Nat.succ_pos _) hS10 (fun _ hZ=>hZ.hold 1 rfl) ?_ gn))
   ·rintro e Yt7 ⟨rfl,hYt7⟩
    have hqt7:=Sy.on hS10 hYt7
    refine⟨_,rfl,hqt7.hold 1 rfl, ?_⟩
    simp only[nn]
    refine gr (rs:= [4]) (Bl 4 (some 46) rfl rfl (by kernel_rfl) (Bq rfl rfl rfl) (Nat.succ_pos _) hqt7 (fun _ hZ=>hZ.hold 1 rfl) ?_ gn)
    intro Yt8 Bt8 hEt8 hqt8
    clear hEt8
    simp only[nn]
    refine gr (rs:= [5]) (gc 5 (some 47) rfl rfl (Je (Bj B0 1 50 5) (some ⟨Bt8,0,none⟩) 2 [v,v] _ (hqt8.hp 0 rfl) ((Aa HT).fr hqt8.fr (by simp)) (fun k=>Kh hqt8 (i:=2) rfl (by decide) (Nat.succ_pos _) k) (show 2<=2000 by decide) (Aa HU) (Nat.zero_le _) (Gh B0 50) (Aa HK)) ?_ gn)
    rintro e Yt9 ⟨gv,q,rfl,a1,a2,a3,a4,T1⟩
    have hqO:=Sy.heap hqt8 0 rfl T1
    refine⟨_,rfl,hqO.hold 1 rfl, ?_⟩
    refine gp 6 (some 41) (.tuple #[.int .i64 (((Bj B0 1 50 5).l.length:Int)+1), .nilIface]) rfl rfl (hqO.hold 1 rfl) ?_
    refine gp 7 (some 48) (.int .i64 (((Bj B0 1 50 5).l.length:Int)+1)) rfl rfl (hqO.hold 1 rfl) ?_
    refine gp 8 (some 49) (.nilIface) rfl rfl (hqO.hold 1 rfl) ?_
    refine gp 9 (some 7) (.int .i64 (((Bj B0 1 50 5).l.length:Int)+1)) rfl rfl (hqO.hold 1 rfl) ?_
    refine gp 10 (some 8) (.nilIface) rfl rfl (hqO.hold 1 rfl) ?_
    refine wpAnyH_done (by kernel_rfl) ?_ _
    try simp only[nn]
    have SS:=Ab (Sy.left (L:= [hpO ((Bj B0 1 50 5).more gv q),Am Bv v.cs]) (M:= [_]) hqO)
    have A:=Ab (Ka B0 50 gv q a1)
    obtain⟨h,hh⟩: ∃h,h=(Bj B0 1 50 5).more gv q:=⟨_,rfl⟩
    rw[←hh] at A SS
    have hB:h.b=B0:=by rw[hh];rfl
    clear hh
    obtain rfl:B0=h.b:=hB.symm
    rw[Jg] at a3
    have HQ:=Ab (And.intro a3 a4)
    clear a1 a2 a3 a4
    go_wp2_with fail
    refine(Ln _).mono ?_
    rintro _ Y ⟨rfl,hb⟩
    replace SS:=Ab ((Aa SS).on hb)
    clear hb
    go_wp2_with fail
    refine(Dy x _).mono ?_
    rintro _ Y ⟨rfl,hb⟩
    replace SS:=Ab ((Aa SS).on hb)
    clear hb
    go_wp2_with (first|go_skip|((with_reducible show wpList ..);first|(refine rd rfl (Mt rfl rfl) ?_)))
    have HC:=Qr h 0 q x k 2 (Dh [v,v]) _ ((Aa SS).hp 0 rfl) ((Aa HT).fr (Aa SS).fr (by simp)) ((Aa A).ok (by decide) (by decide)) (Aa A).at0 (Aa HQ).1 (fun e he=>⟨by have:=(Bz he).1;simp at this;omega,(Bz he).2⟩) (fun e he=>by have:=(Bz he).1;simpa using this) (Kv _) (by have:=(Aa HQ).2;simp at this;omega) (by rw[Ny];simp) (Aa HL) (by decide) ((Aa A).fu (by decide)) (Aa A).dp
    rw[show ((0:Nat):Int)+1=1 from rfl] at HC
    rw[Gr] at HC
    refine HC.mono ?_
    clear HC
    rintro _ Y ⟨T1,rfl,hp1,hl1,T9⟩
    replace SS:=Ab ((Aa SS).heap 0 rfl T9)
    clear T9
    obtain⟨l2,hl2⟩: ∃l2,l2=(Dh [v,v]).filter (fun e=>decide (e.1<k)):=⟨_,rfl⟩
    rw[←hl2] at hp1
    obtain⟨h2,q2,hb_h2,ht_h2,A1,SS⟩: ∃(h2:HP) (q2:OB),h2.b=h.b/\q2.T=T1/\Hid (AH h2 q2 (50 - 1))/\Hid (Sy w Y [] [hpO h2,Am Bv v.cs]):=⟨(h.tab 0 q T1).less,{q with T:=T1},rfl,rfl,Ab ((Aa A).tab T1),SS⟩
    rw[←ht_h2] at hp1 hl1
    have HP1:=Ab (And.intro hp1 hl1)
    have HL2:=Ab hl2
    have HLN:Hid (l2.length=min 2 k):=Ab (by rw[hl2];exact Mb _ _)
    clear hp1 hl1 ht_h2 hl2
    go_wp2_with fail
    have HC:=Gk h2 0 q2 _ ((Aa SS).hp 0 rfl) (by rw[(Aa A1).l];show 1<=65536;decide) (Aa A1).at0 (by have g1:=(Aa HQ).2;have g2:=(Aa HP1).2;simp at g1;omega)
    rw[show ((0:Nat):Int)+1=1 from rfl] at HC
    rw[hb_h2] at HC
    rw[show q2.po.ps=arrG k l2 from (Aa HP1).1] at HC
    refine HC.mono ?_
    clear HC
    rintro _ Y ⟨As,cs,rfl,hO,hb⟩
    replace SS:=Ab ((Aa SS).addRow hO hb (base:=w.heap.size) (Aa SS).fr.size)
    clear hO hb
    go_wp2_with (first|go_skip|((with_reducible show wpList ..);first|(refine zA 63 (shC Dw (.slice none 0 0)) (by rfl) rfl SS ?_;clear SS;intro Xs Bs SS;simp only[nn])|(refine zS (hp:=(by simp[shC,Dw,VV.cs])) (shC q2.po (.slice As (arrG k l2).length cs)) 3 63 (by rfl) rfl rfl rfl rfl (Gu _ _ _ _) szS SS rfl ?_;clear SS;intro Xz SS;simp only[nn])))
    go_wp2_with fail
    refine(Ji 0 _).mono ?_
    rintro _ _ ⟨rfl,rfl⟩
    go_wp2_with (first|go_skip|((with_reducible show wpList ..);first|(refine zL (shC q2.po (.slice As (arrG k l2).length cs)) 63 8 3 rwS szS (by rfl) rfl rfl SS rfl rfl rfl ?_;simp only[nn])))
    refine(Jd k (Aa HL).1 l2 (fun e he=>by rw[Aa HL2] at he;have g:=(Bz (List.mem_filter.1 he).1).1;simpa using g) (fun e he=>by rw[Aa HL2] at he;simpa using (List.mem_filter.1 he).2) q2.po As cs _ (Ej ((Aa SS).get 2 rfl) rfl) (by have g:=Aa HLN;unfold arrG;simp;omega)).mono ?_
    rintro _ Y ⟨rfl,hb⟩
    replace SS:=Ab ((Aa SS).on hb)
    clear hb
    go_wp2_with (first|go_skip|((with_reducible show wpList ..);first|(refine rd rfl (Qo (Aa HL).ge0 rfl rfl) ?_)|(refine rd rfl (Qn (Aa HL).leM rfl rfl) ?_)|(refine rd rfl (Kk (Aa HL).1 (Aa HL).conv rfl rfl) ?_)|(refine rd rfl (Ev rfl rfl) ?_)|(refine rd rfl (Kl (Aa HL).ord2 rfl rfl rfl) ?_)))
    have HC:=Lo h2 0 q2 k _ ((Aa SS).hp 0 rfl) (by rw[(Aa A1).l];show 1<=65536;decide) (Aa A1).at0 (Aa A1).c (Jf (Aa HP1).1 (Aa HL).1).1 (Jf (Aa HP1).1 (Aa HL).1).2
    rw[show ((0:Nat):Int)+1=1 from rfl] at HC
    rw[hb_h2] at HC
    refine HC.mono ?_
    clear HC
    rintro _ Y ⟨rfl,hb⟩
    replace SS:=Ab ((Aa SS).on hb)
    clear hb
    have HB:Hid ((((arrG k l2).length:Int)==1+min 2 (k:Int))=true):=Ab (by have g:=Aa HLN;unfold arrG;simp;omega)
    go_wp2_with (first|go_skip|((with_reducible show wpList ..);first|(refine rd rfl (Ev rfl rfl) ?_)|(refine rd rfl (Kl (Aa HL).ord rfl rfl rfl) ?_)))
    refine(Ji 0 _).mono ?_
    rintro _ _ ⟨rfl,rfl⟩
    go_wp2_with (first|go_skip|((with_reducible show wpList ..);first|(refine z1 61 isAgg61 3 (by rfl) rfl rfl SS rfl rfl ?_;simp only[nn])|(refine rd rfl (Bp 61 106 underlying61 rfl rfl) ?_)|(refine rd rfl (Yl (Aa HL).1 (Aa HL).conv rfl rfl) ?_)))
    go_ret
    refine⟨?_,(Aa SS).fr.below⟩
    show Ending.returned (.bool (((arrG k l2).length:Int)==1+min 2 (k:Int)))=_
    rw[Aa HB]
   ·intro Yt10 Bt10 hEt10 hqt10
    clear hEt10
    simp only[nn]
    refine gr (rs:= [1]) (gc 1 (some 43) rfl rfl (Gg _) ?_ gn)
    rintro e Yt11 ⟨rfl,hYt11⟩
    have hqt11:=Sy.on hqt10 hYt11
    refine⟨_,rfl,hqt11.hold 1 rfl, ?_⟩
    simp only[nn]
    refine gr (rs:= [5]) (gc 5 (some 47) rfl rfl (Je (Bj B0 1 50 5) (some ⟨Bt10,0,none⟩) 2 [v,v] _ (hqt11.hp 0 rfl) ((Aa HT).fr hqt11.fr (by simp)) (fun k=>Kh hqt11 (i:=2) rfl (by decide) (Nat.succ_pos _) k) (show 2<=2000 by decide) (Aa HU) (Nat.zero_le _) (Gh B0 50) (Aa HK)) ?_ gn)
    rintro e Yt12 ⟨gv,q,rfl,a1,a2,a3,a4,T1⟩
    have hqO:=Sy.heap hqt11 0 rfl T1
    refine⟨_,rfl,hqO.hold 1 rfl, ?_⟩
    refine gp 6 (some 41) (.tuple #[.int .i64 (((Bj B0 1 50 5).l.length:Int)+1), .nilIface]) rfl rfl (hqO.hold 1 rfl) ?_
    refine gp 7 (some 48) (.int .i64 (((Bj B0 1 50 5).l.length:Int)+1)) rfl rfl (hqO.hold 1 rfl) ?_
    refine gp 8 (some 49) (.nilIface) rfl rfl (hqO.hold 1 rfl) ?_
    refine gp 9 (some 7) (.int .i64 (((Bj B0 1 50 5).l.length:Int)+1)) rfl rfl (hqO.hold 1 rfl) ?_
    refine gp 10 (some 8) (.nilIface) rfl rfl (hqO.hold 1 rfl) ?_
    refine wpAnyH_done (by kernel_rfl) ?_ _
    try simp only[nn]
    have SS:=Ab (Sy.left (L:= [hpO ((Bj B0 1 50 5).more gv q),Am Bv v.cs]) (M:= [_]) hqO)
    have A:=Ab (Ka B0 50 gv q a1)
    obtain⟨h,hh⟩: ∃h,h=(Bj B0 1 50 5).more gv q:=⟨_,rfl⟩
    rw[←hh] at A SS
    have hB:h.b=B0:=by rw[hh];rfl
    clear hh
    obtain rfl:B0=h.b:=hB.symm
    rw[Jg] at a3
    have HQ:=Ab (And.intro a3 a4)
    clear a1 a2 a3 a4
    go_wp2_with fail
    refine(Ln _).mono ?_
    rintro _ Y ⟨rfl,hb⟩
    replace SS:=Ab ((Aa SS).on hb)
    clear hb
    go_wp2_with fail
    refine(Dy x _).mono ?_
    rintro _ Y ⟨rfl,hb⟩
    replace SS:=Ab ((Aa SS).on hb)
    clear hb
    go_wp2_with (first|go_skip|((with_reducible show wpList ..);first|(refine rd rfl (Mt rfl rfl) ?_)))
    have HC:=Qr h 0 q x k 2 (Dh [v,v]) _ ((Aa SS).hp 0 rfl) ((Aa HT).fr (Aa SS).fr (by simp)) ((Aa A).ok (by decide) (by decide)) (Aa A).at0 (Aa HQ).1 (fun e he=>⟨by have:=(Bz he).1;simp at this;omega,(Bz he).2⟩) (fun e he=>by have:=(Bz he).1;simpa using this) (Kv _) (by have:=(Aa HQ).2;simp at this;omega) (by rw[Ny];simp) (Aa HL) (by decide) ((Aa A).fu (by decide)) (Aa A).dp
    rw[show ((0:Nat):Int)+1=1 from rfl] at HC
    rw[Gr] at HC
    refine HC.mono ?_
    clear HC
    rintro _ Y ⟨T1,rfl,hp1,hl1,T9⟩
    replace SS:=Ab ((Aa SS).heap 0 rfl T9)
    clear T9
    obtain⟨l2,hl2⟩: ∃l2,l2=(Dh [v,v]).filter (fun e=>decide (e.1<k)):=⟨_,rfl⟩
    rw[←hl2] at hp1
    obtain⟨h2,q2,hb_h2,ht_h2,A1,SS⟩: ∃(h2:HP) (q2:OB),h2.b=h.b/\q2.T=T1/\Hid (AH h2 q2 (50 - 1))/\Hid (Sy w Y [] [hpO h2,Am Bv v.cs]):=⟨(h.tab 0 q T1).less,{q with T:=T1},rfl,rfl,Ab ((Aa A).tab T1),SS⟩
    rw[←ht_h2] at hp1 hl1
    have HP1:=Ab (And.intro hp1 hl1)
    have HL2:=Ab hl2
    have HLN:Hid (l2.length=min 2 k):=Ab (by rw[hl2];exact Mb _ _)
    clear hp1 hl1 ht_h2 hl2
    go_wp2_with fail
    have HC:=Gk h2 0 q2 _ ((Aa SS).hp 0 rfl) (by rw[(Aa A1).l];show 1<=65536;decide) (Aa A1).at0 (by have g1:=(Aa HQ).2;have g2:=(Aa HP1).2;simp at g1;omega)
    rw[show ((0:Nat):Int)+1=1 from rfl] at HC
    rw[hb_h2] at HC
    rw[show q2.po.ps=arrG k l2 from (Aa HP1).1] at HC
    refine HC.mono ?_
    clear HC
    rintro _ Y ⟨As,cs,rfl,hO,hb⟩
    replace SS:=Ab ((Aa SS).addRow hO hb (base:=w.heap.size) (Aa SS).fr.size)
    clear hO hb
    go_wp2_with (first|go_skip|((with_reducible show wpList ..);first|(refine zA 63 (shC Dw (.slice none 0 0)) (by rfl) rfl SS ?_;clear SS;intro Xs Bs SS;simp only[nn])|(refine zS (hp:=(by simp[shC,Dw,VV.cs])) (shC q2.po (.slice As (arrG k l2).length cs)) 3 63 (by rfl) rfl rfl rfl rfl (Gu _ _ _ _) szS SS rfl ?_;clear SS;intro Xz SS;simp only[nn])))
    go_wp2_with fail
    refine(Ji 0 _).mono ?_
    rintro _ _ ⟨rfl,rfl⟩
    go_wp2_with (first|go_skip|((with_reducible show wpList ..);first|(refine zL (shC q2.po (.slice As (arrG k l2).length cs)) 63 8 3 rwS szS (by rfl) rfl rfl SS rfl rfl rfl ?_;simp only[nn])))
    refine(Jd k (Aa HL).1 l2 (fun e he=>by rw[Aa HL2] at he;have g:=(Bz (List.mem_filter.1 he).1).1;simpa using g) (fun e he=>by rw[Aa HL2] at he;simpa using (List.mem_filter.1 he).2) q2.po As cs _ (Ej ((Aa SS).get 2 rfl) rfl) (by have g:=Aa HLN;unfold arrG;simp;omega)).mono ?_
    rintro _ Y ⟨rfl,hb⟩
    replace SS:=Ab ((Aa SS).on hb)
    clear hb
    go_wp2_with (first|go_skip|((with_reducible show wpList ..);first|(refine rd rfl (Qo (Aa HL).ge0 rfl rfl) ?_)|(refine rd rfl (Qn (Aa HL).leM rfl rfl) ?_)|(refine rd rfl (Kk (Aa HL).1 (Aa HL).conv rfl rfl) ?_)|(refine rd rfl (Ev rfl rfl) ?_)|(refine rd rfl (Kl (Aa HL).ord2 rfl rfl rfl) ?_)))
    have HC:=Lo h2 0 q2 k _ ((Aa SS).hp 0 rfl) (by rw[(Aa A1).l];show 1<=65536;decide) (Aa A1).at0 (Aa A1).c (Jf (Aa HP1).1 (Aa HL).1).1 (Jf (Aa HP1).1 (Aa HL).1).2
    rw[show ((0:Nat):Int)+1=1 from rfl] at HC
    rw[hb_h2] at HC
    refine HC.mono ?_
    clear HC
    rintro _ Y ⟨rfl,hb⟩
    replace SS:=Ab ((Aa SS).on hb)
    clear hb
    have HB:Hid ((((arrG k l2).length:Int)==1+min 2 (k:Int))=true):=Ab (by have g:=Aa HLN;unfold arrG;simp;omega)
    go_wp2_with (first|go_skip|((with_reducible show wpList ..);first|(refine rd rfl (Ev rfl rfl) ?_)|(refine rd rfl (Kl (Aa HL).ord rfl rfl rfl) ?_)))
    refine(Ji 0 _).mono ?_
    rintro _ _ ⟨rfl,rfl⟩
    go_wp2_with (first|go_skip|((with_reducible show wpList ..);first|(refine z1 61 isAgg61 3 (by rfl) rfl rfl SS rfl rfl ?_;simp only[nn])|(refine rd rfl (Bp 61 106 underlying61 rfl rfl) ?_)|(refine rd rfl (Yl (Aa HL).1 (Aa HL).conv rfl rfl) ?_)))
    go_ret
    refine⟨?_,(Aa SS).fr.below⟩
    show Ending.returned (.bool (((arrG k l2).length:Int)==1+min 2 (k:Int)))=_
    rw[Aa HB]
 ·rw[if_neg hg]
  have HK:=Ab (Nm v)
  have HU:Hid (∀(i:Nat) (z:VV),([Eo v,Eo v]:List VV)[i]? =some z->z.x<2^64):=Ab (fun i z hz=>by
   have hm:=List.mem_of_getElem? hz
   simp at hm
   rw[hm];exact Nn v hv)
  generalize hu:Eo v=u at HK HU
  have hu2:Ee 4607182418800017408=u:=by rw[←hu];unfold Eo;rw[if_neg (fun hh=>hg hh.1)]
  clear hu
  go_wp2_with fail
  refine(Ji 5 _).mono ?_
  rintro _ _ ⟨rfl,rfl⟩
  go_wp2_with fail
  refine(Dy 4607182418800017408 _).mono ?_
  rintro _ Y ⟨rfl,hb⟩
  replace SS:=Ab ((Aa SS).on hb)
  clear hb
  rw[hu2,Kg]
  clear hu2
  go_wp2_with (first|go_skip|((with_reducible show wpList ..);first|(refine zS (hp:=(show 0+5<=5 by decide)) (u.cs) 1 35 (by rfl) rfl rfl rfl rfl (Na _) szV SS rfl ?_;clear SS;intro Xn SS;simp only[nn])))
  replace SS:Hid (Sy w Xn [] [hpO (Bj B0 1 50 5),Am Bv u.cs]):=SS
  have hS10:Sy w _ [] [hpO (Bj B0 1 50 5),Am Bv u.cs]:=(Aa SS).drew
  clear SS
  refine wp_region_held_drew (P:=prog) (S:=fun X=>Holds X Bv u.cs) (by kernel_rfl) (hS10.hold 1 rfl) (fun hS0=> ?_)
  refine gp 0 (some 42) (.pointer (some ⟨B0,0,none⟩)) rfl rfl (hS10.hold 1 rfl) ?_
  refine gq 2 (some 44) (.agg u.cs.toArray) rfl rfl (fun X hX=>Aj (vs:=u.cs) 35 5 rwV szV rfl rfl hX rfl rfl) (hS10.hold 1 rfl) ?_
  refine gq 3 (some 45) (.agg u.cs.toArray) rfl rfl (fun X hX=>Aj (vs:=u.cs) 35 5 rwV szV rfl rfl hX rfl rfl) (hS10.hold 1 rfl) ?_
  refine gr (rs:= [1,4]) (gc 1 (some 43) rfl rfl (Gg _) ?_ (Bl 4 (some 46) rfl rfl (by kernel_rfl) (Bq rfl rfl rfl) (Nat.succ_pos _) hS10 (fun _ hZ=>hZ.hold 1 rfl) ?_ gn))
  ·rintro e Yt7 ⟨rfl,hYt7⟩
   have hqt7:=Sy.on hS10 hYt7
   refine⟨_,rfl,hqt7.hold 1 rfl, ?_⟩
   simp only[nn]
   refine gr (rs:= [4]) (Bl 4 (some 46) rfl rfl (by kernel_rfl) (Bq rfl rfl rfl) (Nat.succ_pos _) hqt7 (fun _ hZ=>hZ.hold 1 rfl) ?_ gn)
   intro Yt8 Bt8 hEt8 hqt8
   clear hEt8
   simp only[nn]
   refine gr (rs:= [5]) (gc 5 (some 47) rfl rfl (Je (Bj B0 1 50 5) (some ⟨Bt8,0,none⟩) 2 [u,u] _ (hqt8.hp 0 rfl) ((Aa HT).fr hqt8.fr (by simp)) (fun k=>Kh hqt8 (i:=2) rfl (by decide) (Nat.succ_pos _) k) (show 2<=2000 by decide) (Aa HU) (Nat.zero_le _) (Gh B0 50) (Aa HK)) ?_ gn)
   rintro e Yt9 ⟨gv,q,rfl,a1,a2,a3,a4,T1⟩
   have hqO:=Sy.heap hqt8 0 rfl T1
   refine⟨_,rfl,hqO.hold 1 rfl, ?_⟩
   refine gp 6 (some 41) (.tuple #[.int .i64 (((Bj B0 1 50 5).l.length:Int)+1), .nilIface]) rfl rfl (hqO.hold 1 rfl) ?_
   refine gp 7 (some 48) (.int .i64 (((Bj B0 1 50 5).l.length:Int)+1)) rfl rfl (hqO.hold 1 rfl) ?_
   refine gp 8 (some 49) (.nilIface) rfl rfl (hqO.hold 1 rfl) ?_
   refine gp 9 (some 7) (.int .i64 (((Bj B0 1 50 5).l.length:Int)+1)) rfl rfl (hqO.hold 1 rfl) ?_
   refine gp 10 (some 8) (.nilIface) rfl rfl (hqO.hold 1 rfl) ?_
   refine wpAnyH_done (by kernel_rfl) ?_ _
   try simp only[nn]
   have SS:=Ab (Sy.left (L:= [hpO ((Bj B0 1 50 5).more gv q),Am Bv u.cs]) (M:= [_]) hqO)
   have A:=Ab (Ka B0 50 gv q a1)
   obtain⟨h,hh⟩: ∃h,h=(Bj B0 1 50 5).more gv q:=⟨_,rfl⟩
   rw[←hh] at A SS
   have hB:h.b=B0:=by rw[hh];rfl
   clear hh
   obtain rfl:B0=h.b:=hB.symm
   rw[Jg] at a3
   have HQ:=Ab (And.intro a3 a4)
   clear a1 a2 a3 a4
   go_wp2_with fail
   refine(Ln _).mono ?_
   rintro _ Y ⟨rfl,hb⟩
   replace SS:=Ab ((Aa SS).on hb)
   clear hb
   go_wp2_with fail
   refine(Dy x _).mono ?_
   rintro _ Y ⟨rfl,hb⟩
   replace SS:=Ab ((Aa SS).on hb)
   clear hb
   go_wp2_with (first|go_skip|((with_reducible show wpList ..);first|(refine rd rfl (Mt rfl rfl) ?_)))
   have HC:=Qr h 0 q x k 2 (Dh [u,u]) _ ((Aa SS).hp 0 rfl) ((Aa HT).fr (Aa SS).fr (by simp)) ((Aa A).ok (by decide) (by decide)) (Aa A).at0 (Aa HQ).1 (fun e he=>⟨by have:=(Bz he).1;simp at this;omega,(Bz he).2⟩) (fun e he=>by have:=(Bz he).1;simpa using this) (Kv _) (by have:=(Aa HQ).2;simp at this;omega) (by rw[Ny];simp) (Aa HL) (by decide) ((Aa A).fu (by decide)) (Aa A).dp
   rw[show ((0:Nat):Int)+1=1 from rfl] at HC
   rw[Gr] at HC
   refine HC.mono ?_
   clear HC
   rintro _ Y ⟨T1,rfl,hp1,hl1,T9⟩
   replace SS:=Ab ((Aa SS).heap 0 rfl T9)
   clear T9
   obtain⟨l2,hl2⟩: ∃l2,l2=(Dh [u,u]).filter (fun e=>decide (e.1<k)):=⟨_,rfl⟩
   rw[←hl2] at hp1
   obtain⟨h2,q2,hb_h2,ht_h2,A1,SS⟩: ∃(h2:HP) (q2:OB),h2.b=h.b/\q2.T=T1/\Hid (AH h2 q2 (50 - 1))/\Hid (Sy w Y [] [hpO h2,Am Bv u.cs]):=⟨(h.tab 0 q T1).less,{q with T:=T1},rfl,rfl,Ab ((Aa A).tab T1),SS⟩
   rw[←ht_h2] at hp1 hl1
   have HP1:=Ab (And.intro hp1 hl1)
   have HL2:=Ab hl2
   have HLN:Hid (l2.length=min 2 k):=Ab (by rw[hl2];exact Mb _ _)
   clear hp1 hl1 ht_h2 hl2
   go_wp2_with fail
   have HC:=Gk h2 0 q2 _ ((Aa SS).hp 0 rfl) (by rw[(Aa A1).l];show 1<=65536;decide) (Aa A1).at0 (by have g1:=(Aa HQ).2;have g2:=(Aa HP1).2;simp at g1;omega)
   rw[show ((0:Nat):Int)+1=1 from rfl] at HC
   rw[hb_h2] at HC
   rw[show q2.po.ps=arrG k l2 from (Aa HP1).1] at HC
   refine HC.mono ?_
   clear HC
   rintro _ Y ⟨As,cs,rfl,hO,hb⟩
   replace SS:=Ab ((Aa SS).addRow hO hb (base:=w.heap.size) (Aa SS).fr.size)
   clear hO hb
   go_wp2_with (first|go_skip|((with_reducible show wpList ..);first|(refine zA 63 (shC Dw (.slice none 0 0)) (by rfl) rfl SS ?_;clear SS;intro Xs Bs SS;simp only[nn])|(refine zS (hp:=(by simp[shC,Dw,VV.cs])) (shC q2.po (.slice As (arrG k l2).length cs)) 3 63 (by rfl) rfl rfl rfl rfl (Gu _ _ _ _) szS SS rfl ?_;clear SS;intro Xz SS;simp only[nn])))
   go_wp2_with fail
   refine(Ji 0 _).mono ?_
   rintro _ _ ⟨rfl,rfl⟩
   go_wp2_with (first|go_skip|((with_reducible show wpList ..);first|(refine zL (shC q2.po (.slice As (arrG k l2).length cs)) 63 8 3 rwS szS (by rfl) rfl rfl SS rfl rfl rfl ?_;simp only[nn])))
   refine(Jd k (Aa HL).1 l2 (fun e he=>by rw[Aa HL2] at he;have g:=(Bz (List.mem_filter.1 he).1).1;simpa using g) (fun e he=>by rw[Aa HL2] at he;simpa using (List.mem_filter.1 he).2) q2.po As cs _ (Ej ((Aa SS).get 2 rfl) rfl) (by have g:=Aa HLN;unfold arrG;simp;omega)).mono ?_
   rintro _ Y ⟨rfl,hb⟩
   replace SS:=Ab ((Aa SS).on hb)
   clear hb
   go_wp2_with (first|go_skip|((with_reducible show wpList ..);first|(refine rd rfl (Qo (Aa HL).ge0 rfl rfl) ?_)|(refine rd rfl (Qn (Aa HL).leM rfl rfl) ?_)|(refine rd rfl (Kk (Aa HL).1 (Aa HL).conv rfl rfl) ?_)|(refine rd rfl (Ev rfl rfl) ?_)|(refine rd rfl (Kl (Aa HL).ord2 rfl rfl rfl) ?_)))
   have HC:=Lo h2 0 q2 k _ ((Aa SS).hp 0 rfl) (by rw[(Aa A1).l];show 1<=65536;decide) (Aa A1).at0 (Aa A1).c (Jf (Aa HP1).1 (Aa HL).1).1 (Jf (Aa HP1).1 (Aa HL).1).2
   rw[show ((0:Nat):Int)+1=1 from rfl] at HC
   rw[hb_h2] at HC
   refine HC.mono ?_
   clear HC
   rintro _ Y ⟨rfl,hb⟩
   replace SS:=Ab ((Aa SS).on hb)
   clear hb
   have HB:Hid ((((arrG k l2).length:Int)==1+min 2 (k:Int))=true):=Ab (by have g:=Aa HLN;unfold arrG;simp;omega)
   go_wp2_with (first|go_skip|((with_reducible show wpList ..);first|(refine rd rfl (Ev rfl rfl) ?_)|(refine rd rfl (Kl (Aa HL).ord rfl rfl rfl) ?_)))
   refine(Ji 0 _).mono ?_
   rintro _ _ ⟨rfl,rfl⟩
   go_wp2_with (first|go_skip|((with_reducible show wpList ..);first|(refine z1 61 isAgg61 3 (by rfl) rfl rfl SS rfl rfl ?_;simp only[nn])|(refine rd rfl (Bp 61 106 underlying61 rfl rfl) ?_)|(refine rd rfl (Yl (Aa HL).1 (Aa HL).conv rfl rfl) ?_)))
   go_ret
   refine⟨?_,(Aa SS).fr.below⟩
   show Ending.returned (.bool (((arrG k l2).length:Int)==1+min 2 (k:Int)))=_
   rw[Aa HB]
  ·intro Yt10 Bt10 hEt10 hqt10
   clear hEt10
   simp only[nn]
   refine gr (rs:= [1]) (gc 1 (some 43) rfl rfl (Gg _) ?_ gn)
   rintro e Yt11 ⟨rfl,hYt11⟩
   have hqt11:=Sy.on hqt10 hYt11
   refine⟨_,rfl,hqt11.hold 1 rfl, ?_⟩
   simp only[nn]
   refine gr (rs:= [5]) (gc 5 (some 47) rfl rfl (Je (Bj B0 1 50 5) (some ⟨Bt10,0,none⟩) 2 [u,u] _ (hqt11.hp 0 rfl) ((Aa HT).fr hqt11.fr (by simp)) (fun k=>Kh hqt11 (i:=2) rfl (by decide) (Nat.succ_pos _) k) (show 2<=2000 by decide) (Aa HU) (Nat.zero_le _) (Gh B0 50) (Aa HK)) ?_ gn)
   rintro e Yt12 ⟨gv,q,rfl,a1,a2,a3,a4,T1⟩
   have hqO:=Sy.heap hqt11 0 rfl T1
   refine⟨_,rfl,hqO.hold 1 rfl, ?_⟩
   refine gp 6 (some 41) (.tuple #[.int .i64 (((Bj B0 1 50 5).l.length:Int)+1), .nilIface]) rfl rfl (hqO.hold 1 rfl) ?_
   refine gp 7 (some 48) (.int .i64 (((Bj B0 1 50 5).l.length:Int)+1)) rfl rfl (hqO.hold 1 rfl) ?_
   refine gp 8 (some 49) (.nilIface) rfl rfl (hqO.hold 1 rfl) ?_
   refine gp 9 (some 7) (.int .i64 (((Bj B0 1 50 5).l.length:Int)+1)) rfl rfl (hqO.hold 1 rfl) ?_
   refine gp 10 (some 8) (.nilIface) rfl rfl (hqO.hold 1 rfl) ?_
   refine wpAnyH_done (by kernel_rfl) ?_ _
   try simp only[nn]
   have SS:=Ab (Sy.left (L:= [hpO ((Bj B0 1 50 5).more gv q),Am Bv u.cs]) (M:= [_]) hqO)
   have A:=Ab (Ka B0 50 gv q a1)
   obtain⟨h,hh⟩: ∃h,h=(Bj B0 1 50 5).more gv q:=⟨_,rfl⟩
   rw[←hh] at A SS
   have hB:h.b=B0:=by rw[hh];rfl
   clear hh
   obtain rfl:B0=h.b:=hB.symm
   rw[Jg] at a3
   have HQ:=Ab (And.intro a3 a4)
   clear a1 a2 a3 a4
   go_wp2_with fail
   refine(Ln _).mono ?_
   rintro _ Y ⟨rfl,hb⟩
   replace SS:=Ab ((Aa SS).on hb)
   clear hb
   go_wp2_with fail
   refine(Dy x _).mono ?_
   rintro _ Y ⟨rfl,hb⟩
   replace SS:=Ab ((Aa SS).on hb)
   clear hb
   go_wp2_with (first|go_skip|((with_reducible show wpList ..);first|(refine rd rfl (Mt rfl rfl) ?_)))
   have HC:=Qr h 0 q x k 2 (Dh [u,u]) _ ((Aa SS).hp 0 rfl) ((Aa HT).fr (Aa SS).fr (by simp)) ((Aa A).ok (by decide) (by decide)) (Aa A).at0 (Aa HQ).1 (fun e he=>⟨by have:=(Bz he).1;simp at this;omega,(Bz he).2⟩) (fun e he=>by have:=(Bz he).1;simpa using this) (Kv _) (by have:=(Aa HQ).2;simp at this;omega) (by rw[Ny];simp) (Aa HL) (by decide) ((Aa A).fu (by decide)) (Aa A).dp
   rw[show ((0:Nat):Int)+1=1 from rfl] at HC
   rw[Gr] at HC
   refine HC.mono ?_
   clear HC
   rintro _ Y ⟨T1,rfl,hp1,hl1,T9⟩
   replace SS:=Ab ((Aa SS).heap 0 rfl T9)
   clear T9
   obtain⟨l2,hl2⟩: ∃l2,l2=(Dh [u,u]).filter (fun e=>decide (e.1<k)):=⟨_,rfl⟩
   rw[←hl2] at hp1
   obtain⟨h2,q2,hb_h2,ht_h2,A1,SS⟩: ∃(h2:HP) (q2:OB),h2.b=h.b/\q2.T=T1/\Hid (AH h2 q2 (50 - 1))/\Hid (Sy w Y [] [hpO h2,Am Bv u.cs]):=⟨(h.tab 0 q T1).less,{q with T:=T1},rfl,rfl,Ab ((Aa A).tab T1),SS⟩
   rw[←ht_h2] at hp1 hl1
   have HP1:=Ab (And.intro hp1 hl1)
   have HL2:=Ab hl2
   have HLN:Hid (l2.length=min 2 k):=Ab (by rw[hl2];exact Mb _ _)
   clear hp1 hl1 ht_h2 hl2
   go_wp2_with fail
   have HC:=Gk h2 0 q2 _ ((Aa SS).hp 0 rfl) (by rw[(Aa A1).l];show 1<=65536;decide) (Aa A1).at0 (by have g1:=(Aa HQ).2;have g2:=(Aa HP1).2;simp at g1;omega)
   rw[show ((0:Nat):Int)+1=1 from rfl] at HC
   rw[hb_h2] at HC
   rw[show q2.po.ps=arrG k l2 from (Aa HP1).1] at HC
   refine HC.mono ?_
   clear HC
   rintro _ Y ⟨As,cs,rfl,hO,hb⟩
   replace SS:=Ab ((Aa SS).addRow hO hb (base:=w.heap.size) (Aa SS).fr.size)
   clear hO hb
   go_wp2_with (first|go_skip|((with_reducible show wpList ..);first|(refine zA 63 (shC Dw (.slice none 0 0)) (by rfl) rfl SS ?_;clear SS;intro Xs Bs SS;simp only[nn])|(refine zS (hp:=(by simp[shC,Dw,VV.cs])) (shC q2.po (.slice As (arrG k l2).length cs)) 3 63 (by rfl) rfl rfl rfl rfl (Gu _ _ _ _) szS SS rfl ?_;clear SS;intro Xz SS;simp only[nn])))
   go_wp2_with fail
   refine(Ji 0 _).mono ?_
   rintro _ _ ⟨rfl,rfl⟩
   go_wp2_with (first|go_skip|((with_reducible show wpList ..);first|(refine zL (shC q2.po (.slice As (arrG k l2).length cs)) 63 8 3 rwS szS (by rfl) rfl rfl SS rfl rfl rfl ?_;simp only[nn])))
   refine(Jd k (Aa HL).1 l2 (fun e he=>by rw[Aa HL2] at he;have g:=(Bz (List.mem_filter.1 he).1).1;simpa using g) (fun e he=>by rw[Aa HL2] at he;simpa using (List.mem_filter.1 he).2) q2.po As cs _ (Ej ((Aa SS).get 2 rfl) rfl) (by have g:=Aa HLN;unfold arrG;simp;omega)).mono ?_
   rintro _ Y ⟨rfl,hb⟩
   replace SS:=Ab ((Aa SS).on hb)
   clear hb
   go_wp2_with (first|go_skip|((with_reducible show wpList ..);first|(refine rd rfl (Qo (Aa HL).ge0 rfl rfl) ?_)|(refine rd rfl (Qn (Aa HL).leM rfl rfl) ?_)|(refine rd rfl (Kk (Aa HL).1 (Aa HL).conv rfl rfl) ?_)|(refine rd rfl (Ev rfl rfl) ?_)|(refine rd rfl (Kl (Aa HL).ord2 rfl rfl rfl) ?_)))
   have HC:=Lo h2 0 q2 k _ ((Aa SS).hp 0 rfl) (by rw[(Aa A1).l];show 1<=65536;decide) (Aa A1).at0 (Aa A1).c (Jf (Aa HP1).1 (Aa HL).1).1 (Jf (Aa HP1).1 (Aa HL).1).2
   rw[show ((0:Nat):Int)+1=1 from rfl] at HC
   rw[hb_h2] at HC
   refine HC.mono ?_
   clear HC
   rintro _ Y ⟨rfl,hb⟩
   replace SS:=Ab ((Aa SS).on hb)
   clear hb
   have HB:Hid ((((arrG k l2).length:Int)==1+min 2 (k:Int))=true):=Ab (by have g:=Aa HLN;unfold arrG;simp;omega)
   go_wp2_with (first|go_skip|((with_reducible show wpList ..);first|(refine rd rfl (Ev rfl rfl) ?_)|(refine rd rfl (Kl (Aa HL).ord rfl rfl rfl) ?_)))
   refine(Ji 0 _).mono ?_
   rintro _ _ ⟨rfl,rfl⟩
   go_wp2_with (first|go_skip|((with_reducible show wpList ..);first|(refine z1 61 isAgg61 3 (by rfl) rfl rfl SS rfl rfl ?_;simp only[nn])|(refine rd rfl (Bp 61 106 underlying61 rfl rfl) ?_)|(refine rd rfl (Yl (Aa HL).1 (Aa HL).conv rfl rfl) ?_)))
   go_ret
   refine⟨?_,(Aa SS).fr.below⟩
   show Ending.returned (.bool (((arrG k l2).length:Int)==1+min 2 (k:Int)))=_
   rw[Aa HB]
