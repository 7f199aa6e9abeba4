import Derived.Test.YtfnohipnenkhoaaGreatDoorRq
set_option linter.all false
namespace Go.Proofs.YtfnohipnenkhoaaGreatDoor
set_option maxRecDepth 100000
set_option maxHeartbeats 0
section
open Go Go.Proofs Go.Maps Go.RowKit FM Tryz
attribute [local go_sem] Am Al Ar Ah Ao Ai Aw Do Dn Bq Aj Bo
theorem ask_1 (h:HP) (o T:Int) (k:KK) (v r:VV) (d:DD) (A:Option Addr) (c:Nat) (l:List VV) (N:Nat) (w:World) (H:h.Is w) (G:h.Gd N) (hN:N<=90000) (hT:Tabs w) (hk:OkK k) (hvx:v.x<2^64) (hFd:FD d) (hz:l.length<=1000000) (hlx: ∀v∈l,v.x<2^64) (hA:A=none->l.length=0/\c=0) (hR: ∀X,Fr w X h.blocks->Gv X A l):Calls prog 41 #[.pointer (some ⟨h.b,0,none⟩), .agg (Je 1 o T k v r d (.slice A l.length c)).toArray] w fun e w'=>Yz h N 1 k v r w e w':=by
 have SS:=Ab H.start
 have HR:=Ab hR
 clear hR
 go_enter func41,ntmps41
 go_wp2_with (first|go_skip|((with_reducible show wpList ..);first|(refine zB 50 (Je 1 o T k v r d (.slice A l.length c)) (by rfl) rfl rfl rfl SS ?_;clear SS;intro Xa Ba SS;simp only[nn])|(refine zA 45 (Bl Ay) (by rfl) rfl (show Hid (Sy _ _ _ [_,_]) from SS) ?_;clear SS;intro Xb Bb SS;simp only[nn])|(refine zA 45 (Bl Ay) (by rfl) rfl (show Hid (Sy _ _ _ [_,_,_]) from SS) ?_;clear SS;intro Xc Bc SS;simp only[nn])|((refine emS (e:=36) (size:=5) w.heap.size (by rfl) rfl (fun w=>by kernel_rfl) (Aa SS) (Aa SS).fr.size ?_);intro Xd Bd Ld;replace SS:=Ab Ld;clear Ld;simp only[nn])|(refine rd rfl (Ad 41 isAgg41 rfl rfl ((Aa SS).hold 1 rfl) rfl) ?_)|((refine Yy (news:=l.flatMap VV.cs) 4 (by rfl) rfl rfl rfl underlying41 Es rfl (by decide) (Aa SS) rfl hA (Ge VV.cs 5 (fun _=>rfl) l) (ReadsG.src (f:=VV.cs) (fun _=>rfl) (by decide) (Aa HR _ (Aa SS).fr)) (Du l) (by omega) (by decide) (Aa SS).fr.size ?_);intro Ae ce Xe Le;replace SS:=Ab Le;clear Le;simp only[nn])|(refine rd rfl (Mu rfl) ?_)|((refine Yv (v:=v7) (by rfl) rfl rfl (Aa SS) ?_);intro Xf Bf Lf;replace SS:=Ab Lf;clear Lf;simp only[nn])|((refine apS 4 5 rfl rfl rfl rfl underlying41 Es rfl (by decide) (Aa SS) rfl rfl rfl (Du [v7]) (by omega) (by decide) (Aa SS).fr.size ?_);intro Ag cg Xg Lg;replace SS:=Ab Lg;clear Lg;simp only[nn])|(refine rd rfl (Ad 3 isAgg3 rfl rfl ((Aa SS).hold 1 rfl) rfl) ?_)|(refine rd rfl (Af (vs:=k.cs) 48 2 rwK szK rfl rfl ((Aa SS).hold 1 rfl) rfl rfl) ?_)|(refine rd rfl (Af (vs:=v.cs) 36 5 rwV szV rfl rfl ((Aa SS).hold 1 rfl) rfl rfl) ?_)|(refine rd rfl (Af (vs:=r.cs) 36 5 rwV szV rfl rfl ((Aa SS).hold 1 rfl) rfl rfl) ?_)|(refine rd rfl (Af (vs:=d.cs) 39 18 rwD szD rfl rfl ((Aa SS).hold 1 rfl) rfl rfl) ?_)))
 have HC:=Vk h o  N _ ((Aa SS).hp 0 rfl) G hN (hT.fr (Aa SS).fr H.low) 
 simp only[Db] at HC
 refine HC.mono ?_
 rintro _ Y ⟨h1,V,er,rfl,hP,T⟩
 replace SS:=Ab ((Aa SS).heap 0 rfl T)
 have hb1:=T.hb
 clear T HC
 go_wp2_with (first|go_skip|((with_reducible show wpList ..);first|((refine stS (vs:=V.cs) 3 36 (by rfl) rfl rfl rfl rfl (Em _) (szV) (Aa SS) rfl (by simp[Bw,VV.cs,KK.cs,DD.cs,Ak,Av,Bl,Ay,Dq]) ?_);intro Xh Lh hfh hsh;replace SS:=Ab Lh;clear Lh hfh hsh;simp only[nn])))
 refine(Jq er _ hP.er).mono ?_
 rintro _ Yf ⟨rfl,hYf⟩
 replace SS:=Ab ((Aa SS).on hYf)
 clear hYf
 go_wp2_with (first|go_skip|((with_reducible show wpList ..);first|((refine stS (vs:=Dq (Bx er)) 3 43 (by rfl) rfl rfl rfl rfl (Gf _) (szF) (Aa SS) rfl (by simp[Bw,VV.cs,KK.cs,DD.cs,Ak,Av,Bl,Ay,Dq]) ?_);intro Xj Lj hfj hsj;replace SS:=Ab Lj;clear Lj hfj hsj;simp only[nn])))
 obtain⟨g,rfl,hcg⟩:=Ku (show World.ownsRow _ _ _ 5 (.slice Ag (l.length+1) cg) (l.length+1) _ from (Aa SS).get 4 rfl)
 have hS32:Sy w _ h.blocks [hpO h1,Aq Ba (Je 1 o T k v r d (.slice A l.length c)),Aq Bb (Bl Ay),Aq Bc (Bl {Ay with v:=V,f:=Bx er}),Eg w.heap.size 36 5 (.slice (some ⟨g,0,none⟩) (l.length+1) cg) (l.length+1) (l.flatMap VV.cs++ [v7].flatMap VV.cs),Aq Bf ([v7].flatMap VV.cs)]:=(Aa SS).drew
 clear SS
 refine wp_region_held_drew (P:=prog) (S:=fun X=>Sy w X h.blocks _) (by kernel_rfl) (hS32) (fun hS0=> ?_)
 refine gp 0 (some 188) (.slice (some ⟨g,0,none⟩) (l.length+1) cg) rfl rfl (hS32) ?_
 refine gp 1 (some 189) (.pointer (some ⟨Ba,33,none⟩)) rfl rfl (hS32) ?_
 refine gq 2 (some 190) (.slice A l.length c) rfl rfl (fun X hX=>Ad 41 isAgg41 rfl rfl (hX.hold 1 rfl) rfl) (hS32) ?_
 refine gq 3 (some 191) (.int .i64 (l.length:Nat)) rfl rfl (fun X hX=>Bi 41 36 underlying41 rfl rfl) (hS32) ?_
 refine gq 4 (some 192) (.slice (some ⟨g,0,none⟩) l.length cg) rfl rfl (fun X hX=>Mt rfl rfl rfl (by omega)) (hS32) ?_
 refine gp 5 (some 193) (.pointer (some ⟨Ba,33,none⟩)) rfl rfl (hS32) ?_
 refine gq 6 (some 194) (.slice A l.length c) rfl rfl (fun X hX=>Ad 41 isAgg41 rfl rfl (hX.hold 1 rfl) rfl) (hS32) ?_
 refine gr (rs:= [7]) (gcB 7 (some 195) rfl rfl hS32 (Gh l (some ⟨g,0,none⟩) A cg c _ (by omega) hlx (ReadsG.left (f:=VV.cs) (Mg (hS32.get 4 rfl))) (Aa HR _ hS32.fr)) id ?_ gn)
 intro Y1 hq1
 refine gp 8 (some 196) (.bool false) rfl rfl (hq1) ?_
 refine gp 9 (some 197) (.bool false) rfl rfl (hq1) ?_
 refine gp 10 (some 198) (.slice (some ⟨g,0,none⟩) (l.length+1) cg) rfl rfl (hq1) ?_
 refine gp 11 (some 199) (.pointer (some ⟨Ba,33,none⟩)) rfl rfl (hq1) ?_
 refine gq 12 (some 200) (.slice A l.length c) rfl rfl (fun X hX=>Ad 41 isAgg41 rfl rfl (hX.hold 1 rfl) rfl) (hq1) ?_
 refine gq 13 (some 201) (.int .i64 (l.length:Nat)) rfl rfl (fun X hX=>Bi 41 36 underlying41 rfl rfl) (hq1) ?_
 refine gq 14 (some 202) (.pointer (some ⟨g,0+l.length * 5,none⟩)) rfl rfl (fun X hX=>Az 41 5 l.length Mf Mi rfl rfl rfl (Nat.lt_succ_self _)) (hq1) ?_
 refine gp 15 (some 203) (.pointer (some ⟨g,0+l.length * 5+4,none⟩)) rfl rfl (hq1) ?_
 refine gq 16 (some 204) (.int .i64 7) rfl rfl (fun X hX=>Jr 3 4 isAgg3 rfl rfl (Jw (hX.get 4 rfl)) rfl) (hq1) ?_
 refine gq 17 (some 205) (.bool false) rfl rfl (fun X hX=>Eh rfl rfl rfl rfl) (hq1) ?_
 refine gp 18 (some 206) (.bool false) rfl rfl (hq1) ?_
 refine wpAnyH_done (by kernel_rfl) ?_ _
 try simp only[nn]
 have SS:=Ab hq1
 go_wp2_with (first|go_skip|((with_reducible show wpList ..);first|(refine zL (Bl {Ay with v:=V,f:=Bx er}) 45 34 3 rwN szN (by rfl) rfl rfl SS rfl rfl rfl ?_;simp only[nn])|((refine stS (vs:=Bl {Ay with v:=V,f:=Bx er}) 2 45 (by rfl) rfl rfl rfl rfl (Ed _) szN (Aa SS) rfl (by simp[Bw,VV.cs,KK.cs,DD.cs,Ak,Av,Bl,Ay,Dq]) ?_);intro Xz Lz hfz hsz;replace SS:=Ab Lz;clear Lz hfz hsz;simp only[nn])))
 refine Jf rwN szN rfl rfl rfl ((Aa SS).hold 2 rfl) rfl ?_
 exact⟨h1,{Ay with v:=V,f:=Bx er},er,rfl,rfl,hP,fun h=>absurd h (by decide),HP.To.end H (Aa SS) hb1⟩
theorem ask_2 (h:HP) (o T:Int) (k:KK) (v r:VV) (d:DD) (A:Option Addr) (c:Nat) (l:List VV) (N:Nat) (w:World) (H:h.Is w) (G:h.Gd N) (hN:N<=90000) (hT:Tabs w) (hk:OkK k) (hvx:v.x<2^64) (hFd:FD d) (hz:l.length<=1000000) (hlx: ∀v∈l,v.x<2^64) (hA:A=none->l.length=0/\c=0) (hR: ∀X,Fr w X h.blocks->Gv X A l):Calls prog 41 #[.pointer (some ⟨h.b,0,none⟩), .agg (Je 2 o T k v r d (.slice A l.length c)).toArray] w fun e w'=>Yz h N 2 k v r w e w':=by
 have SS:=Ab H.start
 have HR:=Ab hR
 clear hR
 go_enter func41,ntmps41
 go_wp2_with (first|go_skip|((with_reducible show wpList ..);first|(refine zB 50 (Je 2 o T k v r d (.slice A l.length c)) (by rfl) rfl rfl rfl SS ?_;clear SS;intro Xa Ba SS;simp only[nn])|(refine zA 45 (Bl Ay) (by rfl) rfl (show Hid (Sy _ _ _ [_,_]) from SS) ?_;clear SS;intro Xb Bb SS;simp only[nn])|(refine zA 45 (Bl Ay) (by rfl) rfl (show Hid (Sy _ _ _ [_,_,_]) from SS) ?_;clear SS;intro Xc Bc SS;simp only[nn])|((refine emS (e:=36) (size:=5) w.heap.size (by rfl) rfl (fun w=>by kernel_rfl) (Aa SS) (Aa SS).fr.size ?_);intro Xd Bd Ld;replace SS:=Ab Ld;clear Ld;simp only[nn])|(refine rd rfl (Ad 41 isAgg41 rfl rfl ((Aa SS).hold 1 rfl) rfl) ?_)|((refine Yy (news:=l.flatMap VV.cs) 4 (by rfl) rfl rfl rfl underlying41 Es rfl (by decide) (Aa SS) rfl hA (Ge VV.cs 5 (fun _=>rfl) l) (ReadsG.src (f:=VV.cs) (fun _=>rfl) (by decide) (Aa HR _ (Aa SS).fr)) (Du l) (by omega) (by decide) (Aa SS).fr.size ?_);intro Ae ce Xe Le;replace SS:=Ab Le;clear Le;simp only[nn])|(refine rd rfl (Mu rfl) ?_)|((refine Yv (v:=v7) (by rfl) rfl rfl (Aa SS) ?_);intro Xf Bf Lf;replace SS:=Ab Lf;clear Lf;simp only[nn])|((refine apS 4 5 rfl rfl rfl rfl underlying41 Es rfl (by decide) (Aa SS) rfl rfl rfl (Du [v7]) (by omega) (by decide) (Aa SS).fr.size ?_);intro Ag cg Xg Lg;replace SS:=Ab Lg;clear Lg;simp only[nn])|(refine rd rfl (Ad 3 isAgg3 rfl rfl ((Aa SS).hold 1 rfl) rfl) ?_)|(refine rd rfl (Af (vs:=k.cs) 48 2 rwK szK rfl rfl ((Aa SS).hold 1 rfl) rfl rfl) ?_)|(refine rd rfl (Af (vs:=v.cs) 36 5 rwV szV rfl rfl ((Aa SS).hold 1 rfl) rfl rfl) ?_)|(refine rd rfl (Af (vs:=r.cs) 36 5 rwV szV rfl rfl ((Aa SS).hold 1 rfl) rfl rfl) ?_)|(refine rd rfl (Af (vs:=d.cs) 39 18 rwD szD rfl rfl ((Aa SS).hold 1 rfl) rfl rfl) ?_)))
 have HC:=Vj h o v N _ ((Aa SS).hp 0 rfl) G hN (hT.fr (Aa SS).fr H.low) hvx
 simp only[Db] at HC
 refine HC.mono ?_
 rintro _ Y ⟨h1,y,er,rfl,hP,T⟩
 replace SS:=Ab ((Aa SS).heap 0 rfl T)
 have hb1:=T.hb
 clear T HC
 go_wp2_with (first|go_skip|((with_reducible show wpList ..);first|((refine stS (vs:= [.bool y]) 3 4 (by rfl) rfl rfl rfl rfl (by simp[Value.oneCell']) (by kernel_rfl) (Aa SS) rfl (by simp[Bw,VV.cs,KK.cs,DD.cs,Ak,Av,Bl,Ay,Dq]) ?_);intro Xh Lh hfh hsh;replace SS:=Ab Lh;clear Lh hfh hsh;simp only[nn])))
 refine(Jq er _ hP.er).mono ?_
 rintro _ Yf ⟨rfl,hYf⟩
 replace SS:=Ab ((Aa SS).on hYf)
 clear hYf
 go_wp2_with (first|go_skip|((with_reducible show wpList ..);first|((refine stS (vs:=Dq (Bx er)) 3 43 (by rfl) rfl rfl rfl rfl (Gf _) (szF) (Aa SS) rfl (by simp[Bw,VV.cs,KK.cs,DD.cs,Ak,Av,Bl,Ay,Dq]) ?_);intro Xj Lj hfj hsj;replace SS:=Ab Lj;clear Lj hfj hsj;simp only[nn])))
 obtain⟨g,rfl,hcg⟩:=Ku (show World.ownsRow _ _ _ 5 (.slice Ag (l.length+1) cg) (l.length+1) _ from (Aa SS).get 4 rfl)
 have hS32:Sy w _ h.blocks [hpO h1,Aq Ba (Je 2 o T k v r d (.slice A l.length c)),Aq Bb (Bl Ay),Aq Bc (Bl {Ay with y:=y,f:=Bx er}),Eg w.heap.size 36 5 (.slice (some ⟨g,0,none⟩) (l.length+1) cg) (l.length+1) (l.flatMap VV.cs++ [v7].flatMap VV.cs),Aq Bf ([v7].flatMap VV.cs)]:=(Aa SS).drew
 clear SS
 refine wp_region_held_drew (P:=prog) (S:=fun X=>Sy w X h.blocks _) (by kernel_rfl) (hS32) (fun hS0=> ?_)
 refine gp 0 (some 188) (.slice (some ⟨g,0,none⟩) (l.length+1) cg) rfl rfl (hS32) ?_
 refine gp 1 (some 189) (.pointer (some ⟨Ba,33,none⟩)) rfl rfl (hS32) ?_
 refine gq 2 (some 190) (.slice A l.length c) rfl rfl (fun X hX=>Ad 41 isAgg41 rfl rfl (hX.hold 1 rfl) rfl) (hS32) ?_
 refine gq 3 (some 191) (.int .i64 (l.length:Nat)) rfl rfl (fun X hX=>Bi 41 36 underlying41 rfl rfl) (hS32) ?_
 refine gq 4 (some 192) (.slice (some ⟨g,0,none⟩) l.length cg) rfl rfl (fun X hX=>Mt rfl rfl rfl (by omega)) (hS32) ?_
 refine gp 5 (some 193) (.pointer (some ⟨Ba,33,none⟩)) rfl rfl (hS32) ?_
 refine gq 6 (some 194) (.slice A l.length c) rfl rfl (fun X hX=>Ad 41 isAgg41 rfl rfl (hX.hold 1 rfl) rfl) (hS32) ?_
 refine gr (rs:= [7]) (gcB 7 (some 195) rfl rfl hS32 (Gh l (some ⟨g,0,none⟩) A cg c _ (by omega) hlx (ReadsG.left (f:=VV.cs) (Mg (hS32.get 4 rfl))) (Aa HR _ hS32.fr)) id ?_ gn)
 intro Y1 hq1
 refine gp 8 (some 196) (.bool false) rfl rfl (hq1) ?_
 refine gp 9 (some 197) (.bool false) rfl rfl (hq1) ?_
 refine gp 10 (some 198) (.slice (some ⟨g,0,none⟩) (l.length+1) cg) rfl rfl (hq1) ?_
 refine gp 11 (some 199) (.pointer (some ⟨Ba,33,none⟩)) rfl rfl (hq1) ?_
 refine gq 12 (some 200) (.slice A l.length c) rfl rfl (fun X hX=>Ad 41 isAgg41 rfl rfl (hX.hold 1 rfl) rfl) (hq1) ?_
 refine gq 13 (some 201) (.int .i64 (l.length:Nat)) rfl rfl (fun X hX=>Bi 41 36 underlying41 rfl rfl) (hq1) ?_
 refine gq 14 (some 202) (.pointer (some ⟨g,0+l.length * 5,none⟩)) rfl rfl (fun X hX=>Az 41 5 l.length Mf Mi rfl rfl rfl (Nat.lt_succ_self _)) (hq1) ?_
 refine gp 15 (some 203) (.pointer (some ⟨g,0+l.length * 5+4,none⟩)) rfl rfl (hq1) ?_
 refine gq 16 (some 204) (.int .i64 7) rfl rfl (fun X hX=>Jr 3 4 isAgg3 rfl rfl (Jw (hX.get 4 rfl)) rfl) (hq1) ?_
 refine gq 17 (some 205) (.bool false) rfl rfl (fun X hX=>Eh rfl rfl rfl rfl) (hq1) ?_
 refine gp 18 (some 206) (.bool false) rfl rfl (hq1) ?_
 refine wpAnyH_done (by kernel_rfl) ?_ _
 try simp only[nn]
 have SS:=Ab hq1
 go_wp2_with (first|go_skip|((with_reducible show wpList ..);first|(refine zL (Bl {Ay with y:=y,f:=Bx er}) 45 34 3 rwN szN (by rfl) rfl rfl SS rfl rfl rfl ?_;simp only[nn])|((refine stS (vs:=Bl {Ay with y:=y,f:=Bx er}) 2 45 (by rfl) rfl rfl rfl rfl (Ed _) szN (Aa SS) rfl (by simp[Bw,VV.cs,KK.cs,DD.cs,Ak,Av,Bl,Ay,Dq]) ?_);intro Xz Lz hfz hsz;replace SS:=Ab Lz;clear Lz hfz hsz;simp only[nn])))
 refine Jf rwN szN rfl rfl rfl ((Aa SS).hold 2 rfl) rfl ?_
 exact⟨h1,{Ay with y:=y,f:=Bx er},er,rfl,rfl,hP,fun h=>absurd h (by decide),HP.To.end H (Aa SS) hb1⟩
theorem ask_3 (h:HP) (o T:Int) (k:KK) (v r:VV) (d:DD) (A:Option Addr) (c:Nat) (l:List VV) (N:Nat) (w:World) (H:h.Is w) (G:h.Gd N) (hN:N<=90000) (hT:Tabs w) (hk:OkK k) (hvx:v.x<2^64) (hFd:FD d) (hz:l.length<=1000000) (hlx: ∀v∈l,v.x<2^64) (hA:A=none->l.length=0/\c=0) (hR: ∀X,Fr w X h.blocks->Gv X A l):Calls prog 41 #[.pointer (some ⟨h.b,0,none⟩), .agg (Je 3 o T k v r d (.slice A l.length c)).toArray] w fun e w'=>Yz h N 3 k v r w e w':=by
 have SS:=Ab H.start
 have HR:=Ab hR
 clear hR
 go_enter func41,ntmps41
 go_wp2_with (first|go_skip|((with_reducible show wpList ..);first|(refine zB 50 (Je 3 o T k v r d (.slice A l.length c)) (by rfl) rfl rfl rfl SS ?_;clear SS;intro Xa Ba SS;simp only[nn])|(refine zA 45 (Bl Ay) (by rfl) rfl (show Hid (Sy _ _ _ [_,_]) from SS) ?_;clear SS;intro Xb Bb SS;simp only[nn])|(refine zA 45 (Bl Ay) (by rfl) rfl (show Hid (Sy _ _ _ [_,_,_]) from SS) ?_;clear SS;intro Xc Bc SS;simp only[nn])|((refine emS (e:=36) (size:=5) w.heap.size (by rfl) rfl (fun w=>by kernel_rfl) (Aa SS) (Aa SS).fr.size ?_);intro Xd Bd Ld;replace SS:=Ab Ld;clear Ld;simp only[nn])|(refine rd rfl (Ad 41 isAgg41 rfl rfl ((Aa SS).hold 1 rfl) rfl) ?_)|((refine Yy (news:=l.flatMap VV.cs) 4 (by rfl) rfl rfl rfl underlying41 Es rfl (by decide) (Aa SS) rfl hA (Ge VV.cs 5 (fun _=>rfl) l) (ReadsG.src (f:=VV.cs) (fun _=>rfl) (by decide) (Aa HR _ (Aa SS).fr)) (Du l) (by omega) (by decide) (Aa SS).fr.size ?_);intro Ae ce Xe Le;replace SS:=Ab Le;clear Le;simp only[nn])|(refine rd rfl (Mu rfl) ?_)|((refine Yv (v:=v7) (by rfl) rfl rfl (Aa SS) ?_);intro Xf Bf Lf;replace SS:=Ab Lf;clear Lf;simp only[nn])|((refine apS 4 5 rfl rfl rfl rfl underlying41 Es rfl (by decide) (Aa SS) rfl rfl rfl (Du [v7]) (by omega) (by decide) (Aa SS).fr.size ?_);intro Ag cg Xg Lg;replace SS:=Ab Lg;clear Lg;simp only[nn])|(refine rd rfl (Ad 3 isAgg3 rfl rfl ((Aa SS).hold 1 rfl) rfl) ?_)|(refine rd rfl (Af (vs:=k.cs) 48 2 rwK szK rfl rfl ((Aa SS).hold 1 rfl) rfl rfl) ?_)|(refine rd rfl (Af (vs:=v.cs) 36 5 rwV szV rfl rfl ((Aa SS).hold 1 rfl) rfl rfl) ?_)|(refine rd rfl (Af (vs:=r.cs) 36 5 rwV szV rfl rfl ((Aa SS).hold 1 rfl) rfl rfl) ?_)|(refine rd rfl (Af (vs:=d.cs) 39 18 rwD szD rfl rfl ((Aa SS).hold 1 rfl) rfl rfl) ?_)))
 have HC:=Yw h o  N _ ((Aa SS).hp 0 rfl) G hN (hT.fr (Aa SS).fr H.low) 
 refine HC.mono ?_
 rintro _ Y ⟨h1,y,er,rfl,hP,T⟩
 replace SS:=Ab ((Aa SS).heap 0 rfl T)
 have hb1:=T.hb
 clear T HC
 go_wp2_with (first|go_skip|((with_reducible show wpList ..);first|((refine stS (vs:= [.bool y]) 3 4 (by rfl) rfl rfl rfl rfl (by simp[Value.oneCell']) (by kernel_rfl) (Aa SS) rfl (by simp[Bw,VV.cs,KK.cs,DD.cs,Ak,Av,Bl,Ay,Dq]) ?_);intro Xh Lh hfh hsh;replace SS:=Ab Lh;clear Lh hfh hsh;simp only[nn])))
 refine(Jq er _ hP.er).mono ?_
 rintro _ Yf ⟨rfl,hYf⟩
 replace SS:=Ab ((Aa SS).on hYf)
 clear hYf
 go_wp2_with (first|go_skip|((with_reducible show wpList ..);first|((refine stS (vs:=Dq (Bx er)) 3 43 (by rfl) rfl rfl rfl rfl (Gf _) (szF) (Aa SS) rfl (by simp[Bw,VV.cs,KK.cs,DD.cs,Ak,Av,Bl,Ay,Dq]) ?_);intro Xj Lj hfj hsj;replace SS:=Ab Lj;clear Lj hfj hsj;simp only[nn])))
 obtain⟨g,rfl,hcg⟩:=Ku (show World.ownsRow _ _ _ 5 (.slice Ag (l.length+1) cg) (l.length+1) _ from (Aa SS).get 4 rfl)
 have hS32:Sy w _ h.blocks [hpO h1,Aq Ba (Je 3 o T k v r d (.slice A l.length c)),Aq Bb (Bl Ay),Aq Bc (Bl {Ay with y:=y,f:=Bx er}),Eg w.heap.size 36 5 (.slice (some ⟨g,0,none⟩) (l.length+1) cg) (l.length+1) (l.flatMap VV.cs++ [v7].flatMap VV.cs),Aq Bf ([v7].flatMap VV.cs)]:=(Aa SS).drew
 clear SS
 refine wp_region_held_drew (P:=prog) (S:=fun X=>Sy w X h.blocks _) (by kernel_rfl) (hS32) (fun hS0=> ?_)
 refine gp 0 (some 188) (.slice (some ⟨g,0,none⟩) (l.length+1) cg) rfl rfl (hS32) ?_
 refine gp 1 (some 189) (.pointer (some ⟨Ba,33,none⟩)) rfl rfl (hS32) ?_
 refine gq 2 (some 190) (.slice A l.length c) rfl rfl (fun X hX=>Ad 41 isAgg41 rfl rfl (hX.hold 1 rfl) rfl) (hS32) ?_
 refine gq 3 (some 191) (.int .i64 (l.length:Nat)) rfl rfl (fun X hX=>Bi 41 36 underlying41 rfl rfl) (hS32) ?_
 refine gq 4 (some 192) (.slice (some ⟨g,0,none⟩) l.length cg) rfl rfl (fun X hX=>Mt rfl rfl rfl (by omega)) (hS32) ?_
 refine gp 5 (some 193) (.pointer (some ⟨Ba,33,none⟩)) rfl rfl (hS32) ?_
 refine gq 6 (some 194) (.slice A l.length c) rfl rfl (fun X hX=>Ad 41 isAgg41 rfl rfl (hX.hold 1 rfl) rfl) (hS32) ?_
 refine gr (rs:= [7]) (gcB 7 (some 195) rfl rfl hS32 (Gh l (some ⟨g,0,none⟩) A cg c _ (by omega) hlx (ReadsG.left (f:=VV.cs) (Mg (hS32.get 4 rfl))) (Aa HR _ hS32.fr)) id ?_ gn)
 intro Y1 hq1
 refine gp 8 (some 196) (.bool false) rfl rfl (hq1) ?_
 refine gp 9 (some 197) (.bool false) rfl rfl (hq1) ?_
 refine gp 10 (some 198) (.slice (some ⟨g,0,none⟩) (l.length+1) cg) rfl rfl (hq1) ?_
 refine gp 11 (some 199) (.pointer (some ⟨Ba,33,none⟩)) rfl rfl (hq1) ?_
 refine gq 12 (some 200) (.slice A l.length c) rfl rfl (fun X hX=>Ad 41 isAgg41 rfl rfl (hX.hold 1 rfl) rfl) (hq1) ?_
 refine gq 13 (some 201) (.int .i64 (l.length:Nat)) rfl rfl (fun X hX=>Bi 41 36 underlying41 rfl rfl) (hq1) ?_
 refine gq 14 (some 202) (.pointer (some ⟨g,0+l.length * 5,none⟩)) rfl rfl (fun X hX=>Az 41 5 l.length Mf Mi rfl rfl rfl (Nat.lt_succ_self _)) (hq1) ?_
 refine gp 15 (some 203) (.pointer (some ⟨g,0+l.length * 5+4,none⟩)) rfl rfl (hq1) ?_
 refine gq 16 (some 204) (.int .i64 7) rfl rfl (fun X hX=>Jr 3 4 isAgg3 rfl rfl (Jw (hX.get 4 rfl)) rfl) (hq1) ?_
 refine gq 17 (some 205) (.bool false) rfl rfl (fun X hX=>Eh rfl rfl rfl rfl) (hq1) ?_
 refine gp 18 (some 206) (.bool false) rfl rfl (hq1) ?_
 refine wpAnyH_done (by kernel_rfl) ?_ _
 try simp only[nn]
 have SS:=Ab hq1
 go_wp2_with (first|go_skip|((with_reducible show wpList ..);first|(refine zL (Bl {Ay with y:=y,f:=Bx er}) 45 34 3 rwN szN (by rfl) rfl rfl SS rfl rfl rfl ?_;simp only[nn])|((refine stS (vs:=Bl {Ay with y:=y,f:=Bx er}) 2 45 (by rfl) rfl rfl rfl rfl (Ed _) szN (Aa SS) rfl (by simp[Bw,VV.cs,KK.cs,DD.cs,Ak,Av,Bl,Ay,Dq]) ?_);intro Xz Lz hfz hsz;replace SS:=Ab Lz;clear Lz hfz hsz;simp only[nn])))
 refine Jf rwN szN rfl rfl rfl ((Aa SS).hold 2 rfl) rfl ?_
 exact⟨h1,{Ay with y:=y,f:=Bx er},er,rfl,rfl,hP,fun h=>absurd h (by decide),HP.To.end H (Aa SS) hb1⟩
theorem ask_4 (h:HP) (o T:Int) (k:KK) (v r:VV) (d:DD) (A:Option Addr) (c:Nat) (l:List VV) (N:Nat) (w:World) (H:h.Is w) (G:h.Gd N) (hN:N<=90000) (hT:Tabs w) (hk:OkK k) (hvx:v.x<2^64) (hFd:FD d) (hz:l.length<=1000000) (hlx: ∀v∈l,v.x<2^64) (hA:A=none->l.length=0/\c=0) (hR: ∀X,Fr w X h.blocks->Gv X A l):Calls prog 41 #[.pointer (some ⟨h.b,0,none⟩), .agg (Je 4 o T k v r d (.slice A l.length c)).toArray] w fun e w'=>Yz h N 4 k v r w e w':=by
 have SS:=Ab H.start
 have HR:=Ab hR
 clear hR
 go_enter func41,ntmps41
 go_wp2_with (first|go_skip|((with_reducible show wpList ..);first|(refine zB 50 (Je 4 o T k v r d (.slice A l.length c)) (by rfl) rfl rfl rfl SS ?_;clear SS;intro Xa Ba SS;simp only[nn])|(refine zA 45 (Bl Ay) (by rfl) rfl (show Hid (Sy _ _ _ [_,_]) from SS) ?_;clear SS;intro Xb Bb SS;simp only[nn])|(refine zA 45 (Bl Ay) (by rfl) rfl (show Hid (Sy _ _ _ [_,_,_]) from SS) ?_;clear SS;intro Xc Bc SS;simp only[nn])|((refine emS (e:=36) (size:=5) w.heap.size (by rfl) rfl (fun w=>by kernel_rfl) (Aa SS) (Aa SS).fr.size ?_);intro Xd Bd Ld;replace SS:=Ab Ld;clear Ld;simp only[nn])|(refine rd rfl (Ad 41 isAgg41 rfl rfl ((Aa SS).hold 1 rfl) rfl) ?_)|((refine Yy (news:=l.flatMap VV.cs) 4 (by rfl) rfl rfl rfl underlying41 Es rfl (by decide) (Aa SS) rfl hA (Ge VV.cs 5 (fun _=>rfl) l) (ReadsG.src (f:=VV.cs) (fun _=>rfl) (by decide) (Aa HR _ (Aa SS).fr)) (Du l) (by omega) (by decide) (Aa SS).fr.size ?_);intro Ae ce Xe Le;replace SS:=Ab Le;clear Le;simp only[nn])|(refine rd rfl (Mu rfl) ?_)|((refine Yv (v:=v7) (by rfl) rfl rfl (Aa SS) ?_);intro Xf Bf Lf;replace SS:=Ab Lf;clear Lf;simp only[nn])|((refine apS 4 5 rfl rfl rfl rfl underlying41 Es rfl (by decide) (Aa SS) rfl rfl rfl (Du [v7]) (by omega) (by decide) (Aa SS).fr.size ?_);intro Ag cg Xg Lg;replace SS:=Ab Lg;clear Lg;simp only[nn])|(refine rd rfl (Ad 3 isAgg3 rfl rfl ((Aa SS).hold 1 rfl) rfl) ?_)|(refine rd rfl (Af (vs:=k.cs) 48 2 rwK szK rfl rfl ((Aa SS).hold 1 rfl) rfl rfl) ?_)|(refine rd rfl (Af (vs:=v.cs) 36 5 rwV szV rfl rfl ((Aa SS).hold 1 rfl) rfl rfl) ?_)|(refine rd rfl (Af (vs:=r.cs) 36 5 rwV szV rfl rfl ((Aa SS).hold 1 rfl) rfl rfl) ?_)|(refine rd rfl (Af (vs:=d.cs) 39 18 rwD szD rfl rfl ((Aa SS).hold 1 rfl) rfl rfl) ?_)))
 have HC:=Qi h o  N _ ((Aa SS).hp 0 rfl) G hN (hT.fr (Aa SS).fr H.low) 
 refine HC.mono ?_
 rintro _ Y ⟨h1,y,er,rfl,hP,T⟩
 replace SS:=Ab ((Aa SS).heap 0 rfl T)
 have hb1:=T.hb
 clear T HC
 go_wp2_with (first|go_skip|((with_reducible show wpList ..);first|((refine stS (vs:= [.bool y]) 3 4 (by rfl) rfl rfl rfl rfl (by simp[Value.oneCell']) (by kernel_rfl) (Aa SS) rfl (by simp[Bw,VV.cs,KK.cs,DD.cs,Ak,Av,Bl,Ay,Dq]) ?_);intro Xh Lh hfh hsh;replace SS:=Ab Lh;clear Lh hfh hsh;simp only[nn])))
 refine(Jq er _ hP.er).mono ?_
 rintro _ Yf ⟨rfl,hYf⟩
 replace SS:=Ab ((Aa SS).on hYf)
 clear hYf
 go_wp2_with (first|go_skip|((with_reducible show wpList ..);first|((refine stS (vs:=Dq (Bx er)) 3 43 (by rfl) rfl rfl rfl rfl (Gf _) (szF) (Aa SS) rfl (by simp[Bw,VV.cs,KK.cs,DD.cs,Ak,Av,Bl,Ay,Dq]) ?_);intro Xj Lj hfj hsj;replace SS:=Ab Lj;clear Lj hfj hsj;simp only[nn])))
 obtain⟨g,rfl,hcg⟩:=Ku (show World.ownsRow _ _ _ 5 (.slice Ag (l.length+1) cg) (l.length+1) _ from (Aa SS).get 4 rfl)
 have hS32:Sy w _ h.blocks [hpO h1,Aq Ba (Je 4 o T k v r d (.slice A l.length c)),Aq Bb (Bl Ay),Aq Bc (Bl {Ay with y:=y,f:=Bx er}),Eg w.heap.size 36 5 (.slice (some ⟨g,0,none⟩) (l.length+1) cg) (l.length+1) (l.flatMap VV.cs++ [v7].flatMap VV.cs),Aq Bf ([v7].flatMap VV.cs)]:=(Aa SS).drew
 clear SS
 refine wp_region_held_drew (P:=prog) (S:=fun X=>Sy w X h.blocks _) (by kernel_rfl) (hS32) (fun hS0=> ?_)
 refine gp 0 (some 188) (.slice (some ⟨g,0,none⟩) (l.length+1) cg) rfl rfl (hS32) ?_
 refine gp 1 (some 189) (.pointer (some ⟨Ba,33,none⟩)) rfl rfl (hS32) ?_
 refine gq 2 (some 190) (.slice A l.length c) rfl rfl (fun X hX=>Ad 41 isAgg41 rfl rfl (hX.hold 1 rfl) rfl) (hS32) ?_
 refine gq 3 (some 191) (.int .i64 (l.length:Nat)) rfl rfl (fun X hX=>Bi 41 36 underlying41 rfl rfl) (hS32) ?_
 refine gq 4 (some 192) (.slice (some ⟨g,0,none⟩) l.length cg) rfl rfl (fun X hX=>Mt rfl rfl rfl (by omega)) (hS32) ?_
 refine gp 5 (some 193) (.pointer (some ⟨Ba,33,none⟩)) rfl rfl (hS32) ?_
 refine gq 6 (some 194) (.slice A l.length c) rfl rfl (fun X hX=>Ad 41 isAgg41 rfl rfl (hX.hold 1 rfl) rfl) (hS32) ?_
 refine gr (rs:= [7]) (gcB 7 (some 195) rfl rfl hS32 (Gh l (some ⟨g,0,none⟩) A cg c _ (by omega) hlx (ReadsG.left (f:=VV.cs) (Mg (hS32.get 4 rfl))) (Aa HR _ hS32.fr)) id ?_ gn)
 intro Y1 hq1
 refine gp 8 (some 196) (.bool false) rfl rfl (hq1) ?_
 refine gp 9 (some 197) (.bool false) rfl rfl (hq1) ?_
 refine gp 10 (some 198) (.slice (some ⟨g,0,none⟩) (l.length+1) cg) rfl rfl (hq1) ?_
 refine gp 11 (some 199) (.pointer (some ⟨Ba,33,none⟩)) rfl rfl (hq1) ?_
 refine gq 12 (some 200) (.slice A l.length c) rfl rfl (fun X hX=>Ad 41 isAgg41 rfl rfl (hX.hold 1 rfl) rfl) (hq1) ?_
 refine gq 13 (some 201) (.int .i64 (l.length:Nat)) rfl rfl (fun X hX=>Bi 41 36 underlying41 rfl rfl) (hq1) ?_
 refine gq 14 (some 202) (.pointer (some ⟨g,0+l.length * 5,none⟩)) rfl rfl (fun X hX=>Az 41 5 l.length Mf Mi rfl rfl rfl (Nat.lt_succ_self _)) (hq1) ?_
 refine gp 15 (some 203) (.pointer (some ⟨g,0+l.length * 5+4,none⟩)) rfl rfl (hq1) ?_
 refine gq 16 (some 204) (.int .i64 7) rfl rfl (fun X hX=>Jr 3 4 isAgg3 rfl rfl (Jw (hX.get 4 rfl)) rfl) (hq1) ?_
 refine gq 17 (some 205) (.bool false) rfl rfl (fun X hX=>Eh rfl rfl rfl rfl) (hq1) ?_
 refine gp 18 (some 206) (.bool false) rfl rfl (hq1) ?_
 refine wpAnyH_done (by kernel_rfl) ?_ _
 try simp only[nn]
 have SS:=Ab hq1
 go_wp2_with (first|go_skip|((with_reducible show wpList ..);first|(refine zL (Bl {Ay with y:=y,f:=Bx er}) 45 34 3 rwN szN (by rfl) rfl rfl SS rfl rfl rfl ?_;simp only[nn])|((refine stS (vs:=Bl {Ay with y:=y,f:=Bx er}) 2 45 (by rfl) rfl rfl rfl rfl (Ed _) szN (Aa SS) rfl (by simp[Bw,VV.cs,KK.cs,DD.cs,Ak,Av,Bl,Ay,Dq]) ?_);intro Xz Lz hfz hsz;replace SS:=Ab Lz;clear Lz hfz hsz;simp only[nn])))
 refine Jf rwN szN rfl rfl rfl ((Aa SS).hold 2 rfl) rfl ?_
 exact⟨h1,{Ay with y:=y,f:=Bx er},er,rfl,rfl,hP,fun h=>absurd h (by decide),HP.To.end H (Aa SS) hb1⟩
theorem ask_5 (h:HP) (o T:Int) (k:KK) (v r:VV) (d:DD) (A:Option Addr) (c:Nat) (l:List VV) (N:Nat) (w:World) (H:h.Is w) (G:h.Gd N) (hN:N<=90000) (hT:Tabs w) (hk:OkK k) (hvx:v.x<2^64) (hFd:FD d) (hz:l.length<=1000000) (hlx: ∀v∈l,v.x<2^64) (hA:A=none->l.length=0/\c=0) (hR: ∀X,Fr w X h.blocks->Gv X A l):Calls prog 41 #[.pointer (some ⟨h.b,0,none⟩), .agg (Je 5 o T k v r d (.slice A l.length c)).toArray] w fun e w'=>Yz h N 5 k v r w e w':=by
 have SS:=Ab H.start
 have HR:=Ab hR
 clear hR
 go_enter func41,ntmps41
 go_wp2_with (first|go_skip|((with_reducible show wpList ..);first|(refine zB 50 (Je 5 o T k v r d (.slice A l.length c)) (by rfl) rfl rfl rfl SS ?_;clear SS;intro Xa Ba SS;simp only[nn])|(refine zA 45 (Bl Ay) (by rfl) rfl (show Hid (Sy _ _ _ [_,_]) from SS) ?_;clear SS;intro Xb Bb SS;simp only[nn])|(refine zA 45 (Bl Ay) (by rfl) rfl (show Hid (Sy _ _ _ [_,_,_]) from SS) ?_;clear SS;intro Xc Bc SS;simp only[nn])|((refine emS (e:=36) (size:=5) w.heap.size (by rfl) rfl (fun w=>by kernel_rfl) (Aa SS) (Aa SS).fr.size ?_);intro Xd Bd Ld;replace SS:=Ab Ld;clear Ld;simp only[nn])|(refine rd rfl (Ad 41 isAgg41 rfl rfl ((Aa SS).hold 1 rfl) rfl) ?_)|((refine Yy (news:=l.flatMap VV.cs) 4 (by rfl) rfl rfl rfl underlying41 Es rfl (by decide) (Aa SS) rfl hA (Ge VV.cs 5 (fun _=>rfl) l) (ReadsG.src (f:=VV.cs) (fun _=>rfl) (by decide) (Aa HR _ (Aa SS).fr)) (Du l) (by omega) (by decide) (Aa SS).fr.size ?_);intro Ae ce Xe Le;replace SS:=Ab Le;clear Le;simp only[nn])|(refine rd rfl (Mu rfl) ?_)|((refine Yv (v:=v7) (by rfl) rfl rfl (Aa SS) ?_);intro Xf Bf Lf;replace SS:=Ab Lf;clear Lf;simp only[nn])|((refine apS 4 5 rfl rfl rfl rfl underlying41 Es rfl (by decide) (Aa SS) rfl rfl rfl (Du [v7]) (by omega) (by decide) (Aa SS).fr.size ?_);intro Ag cg Xg Lg;replace SS:=Ab Lg;clear Lg;simp only[nn])|(refine rd rfl (Ad 3 isAgg3 rfl rfl ((Aa SS).hold 1 rfl) rfl) ?_)|(refine rd rfl (Af (vs:=k.cs) 48 2 rwK szK rfl rfl ((Aa SS).hold 1 rfl) rfl rfl) ?_)|(refine rd rfl (Af (vs:=v.cs) 36 5 rwV szV rfl rfl ((Aa SS).hold 1 rfl) rfl rfl) ?_)|(refine rd rfl (Af (vs:=r.cs) 36 5 rwV szV rfl rfl ((Aa SS).hold 1 rfl) rfl rfl) ?_)|(refine rd rfl (Af (vs:=d.cs) 39 18 rwD szD rfl rfl ((Aa SS).hold 1 rfl) rfl rfl) ?_)))
 have HC:=Vl h o k N _ ((Aa SS).hp 0 rfl) G hN (hT.fr (Aa SS).fr H.low) hk
 simp only[Ds,Mw] at HC
 refine HC.mono ?_
 rintro _ Y ⟨h1,V,y,er,rfl,hP,T⟩
 replace SS:=Ab ((Aa SS).heap 0 rfl T)
 have hb1:=T.hb
 clear T HC
 go_wp2_with (first|go_skip|((with_reducible show wpList ..);first|((refine stS (vs:=V.cs) 3 39 (by rfl) rfl rfl rfl rfl (Ek _) (szD) (Aa SS) rfl (by simp[Bw,VV.cs,KK.cs,DD.cs,Ak,Av,Bl,Ay,Dq]) ?_);intro Xh Lh hfh hsh;replace SS:=Ab Lh;clear Lh hfh hsh;simp only[nn])|((refine stS (vs:= [.bool y]) 3 4 (by rfl) rfl rfl rfl rfl (by simp[Value.oneCell']) (by kernel_rfl) (Aa SS) rfl (by simp[Bw,VV.cs,KK.cs,DD.cs,Ak,Av,Bl,Ay,Dq]) ?_);intro Xi Li hfi hsi;replace SS:=Ab Li;clear Li hfi hsi;simp only[nn])))
 refine(Jq er _ hP.er).mono ?_
 rintro _ Yf ⟨rfl,hYf⟩
 replace SS:=Ab ((Aa SS).on hYf)
 clear hYf
 go_wp2_with (first|go_skip|((with_reducible show wpList ..);first|((refine stS (vs:=Dq (Bx er)) 3 43 (by rfl) rfl rfl rfl rfl (Gf _) (szF) (Aa SS) rfl (by simp[Bw,VV.cs,KK.cs,DD.cs,Ak,Av,Bl,Ay,Dq]) ?_);intro Xj Lj hfj hsj;replace SS:=Ab Lj;clear Lj hfj hsj;simp only[nn])))
 obtain⟨g,rfl,hcg⟩:=Ku (show World.ownsRow _ _ _ 5 (.slice Ag (l.length+1) cg) (l.length+1) _ from (Aa SS).get 4 rfl)
 have hS32:Sy w _ h.blocks [hpO h1,Aq Ba (Je 5 o T k v r d (.slice A l.length c)),Aq Bb (Bl Ay),Aq Bc (Bl {Ay with d:=V,y:=y,f:=Bx er}),Eg w.heap.size 36 5 (.slice (some ⟨g,0,none⟩) (l.length+1) cg) (l.length+1) (l.flatMap VV.cs++ [v7].flatMap VV.cs),Aq Bf ([v7].flatMap VV.cs)]:=(Aa SS).drew
 clear SS
 refine wp_region_held_drew (P:=prog) (S:=fun X=>Sy w X h.blocks _) (by kernel_rfl) (hS32) (fun hS0=> ?_)
 refine gp 0 (some 188) (.slice (some ⟨g,0,none⟩) (l.length+1) cg) rfl rfl (hS32) ?_
 refine gp 1 (some 189) (.pointer (some ⟨Ba,33,none⟩)) rfl rfl (hS32) ?_
 refine gq 2 (some 190) (.slice A l.length c) rfl rfl (fun X hX=>Ad 41 isAgg41 rfl rfl (hX.hold 1 rfl) rfl) (hS32) ?_
 refine gq 3 (some 191) (.int .i64 (l.length:Nat)) rfl rfl (fun X hX=>Bi 41 36 underlying41 rfl rfl) (hS32) ?_
 refine gq 4 (some 192) (.slice (some ⟨g,0,none⟩) l.length cg) rfl rfl (fun X hX=>Mt rfl rfl rfl (by omega)) (hS32) ?_
 refine gp 5 (some 193) (.pointer (some ⟨Ba,33,none⟩)) rfl rfl (hS32) ?_
 refine gq 6 (some 194) (.slice A l.length c) rfl rfl (fun X hX=>Ad 41 isAgg41 rfl rfl (hX.hold 1 rfl) rfl) (hS32) ?_
 refine gr (rs:= [7]) (gcB 7 (some 195) rfl rfl hS32 (Gh l (some ⟨g,0,none⟩) A cg c _ (by omega) hlx (ReadsG.left (f:=VV.cs) (Mg (hS32.get 4 rfl))) (Aa HR _ hS32.fr)) id ?_ gn)
 intro Y1 hq1
 refine gp 8 (some 196) (.bool false) rfl rfl (hq1) ?_
 refine gp 9 (some 197) (.bool false) rfl rfl (hq1) ?_
 refine gp 10 (some 198) (.slice (some ⟨g,0,none⟩) (l.length+1) cg) rfl rfl (hq1) ?_
 refine gp 11 (some 199) (.pointer (some ⟨Ba,33,none⟩)) rfl rfl (hq1) ?_
 refine gq 12 (some 200) (.slice A l.length c) rfl rfl (fun X hX=>Ad 41 isAgg41 rfl rfl (hX.hold 1 rfl) rfl) (hq1) ?_
 refine gq 13 (some 201) (.int .i64 (l.length:Nat)) rfl rfl (fun X hX=>Bi 41 36 underlying41 rfl rfl) (hq1) ?_
 refine gq 14 (some 202) (.pointer (some ⟨g,0+l.length * 5,none⟩)) rfl rfl (fun X hX=>Az 41 5 l.length Mf Mi rfl rfl rfl (Nat.lt_succ_self _)) (hq1) ?_
 refine gp 15 (some 203) (.pointer (some ⟨g,0+l.length * 5+4,none⟩)) rfl rfl (hq1) ?_
 refine gq 16 (some 204) (.int .i64 7) rfl rfl (fun X hX=>Jr 3 4 isAgg3 rfl rfl (Jw (hX.get 4 rfl)) rfl) (hq1) ?_
 refine gq 17 (some 205) (.bool false) rfl rfl (fun X hX=>Eh rfl rfl rfl rfl) (hq1) ?_
 refine gp 18 (some 206) (.bool false) rfl rfl (hq1) ?_
 refine wpAnyH_done (by kernel_rfl) ?_ _
 try simp only[nn]
 have SS:=Ab hq1
 go_wp2_with (first|go_skip|((with_reducible show wpList ..);first|(refine zL (Bl {Ay with d:=V,y:=y,f:=Bx er}) 45 34 3 rwN szN (by rfl) rfl rfl SS rfl rfl rfl ?_;simp only[nn])|((refine stS (vs:=Bl {Ay with d:=V,y:=y,f:=Bx er}) 2 45 (by rfl) rfl rfl rfl rfl (Ed _) szN (Aa SS) rfl (by simp[Bw,VV.cs,KK.cs,DD.cs,Ak,Av,Bl,Ay,Dq]) ?_);intro Xz Lz hfz hsz;replace SS:=Ab Lz;clear Lz hfz hsz;simp only[nn])))
 refine Jf rwN szN rfl rfl rfl ((Aa SS).hold 2 rfl) rfl ?_
 exact⟨h1,{Ay with d:=V,y:=y,f:=Bx er},er,rfl,rfl,hP,fun h=>absurd h (by decide),HP.To.end H (Aa SS) hb1⟩
theorem ask_6 (h:HP) (o T:Int) (k:KK) (v r:VV) (d:DD) (A:Option Addr) (c:Nat) (l:List VV) (N:Nat) (w:World) (H:h.Is w) (G:h.Gd N) (hN:N<=90000) (hT:Tabs w) (hk:OkK k) (hvx:v.x<2^64) (hFd:FD d) (hz:l.length<=1000000) (hlx: ∀v∈l,v.x<2^64) (hA:A=none->l.length=0/\c=0) (hR: ∀X,Fr w X h.blocks->Gv X A l):Calls prog 41 #[.pointer (some ⟨h.b,0,none⟩), .agg (Je 6 o T k v r d (.slice A l.length c)).toArray] w fun e w'=>Yz h N 6 k v r w e w':=by
 have SS:=Ab H.start
 have HR:=Ab hR
 clear hR
 go_enter func41,ntmps41
 go_wp2_with (first|go_skip|((with_reducible show wpList ..);first|(refine zB 50 (Je 6 o T k v r d (.slice A l.length c)) (by rfl) rfl rfl rfl SS ?_;clear SS;intro Xa Ba SS;simp only[nn])|(refine zA 45 (Bl Ay) (by rfl) rfl (show Hid (Sy _ _ _ [_,_]) from SS) ?_;clear SS;intro Xb Bb SS;simp only[nn])|(refine zA 45 (Bl Ay) (by rfl) rfl (show Hid (Sy _ _ _ [_,_,_]) from SS) ?_;clear SS;intro Xc Bc SS;simp only[nn])|((refine emS (e:=36) (size:=5) w.heap.size (by rfl) rfl (fun w=>by kernel_rfl) (Aa SS) (Aa SS).fr.size ?_);intro Xd Bd Ld;replace SS:=Ab Ld;clear Ld;simp only[nn])|(refine rd rfl (Ad 41 isAgg41 rfl rfl ((Aa SS).hold 1 rfl) rfl) ?_)|((refine Yy (news:=l.flatMap VV.cs) 4 (by rfl) rfl rfl rfl underlying41 Es rfl (by decide) (Aa SS) rfl hA (Ge VV.cs 5 (fun _=>rfl) l) (ReadsG.src (f:=VV.cs) (fun _=>rfl) (by decide) (Aa HR _ (Aa SS).fr)) (Du l) (by omega) (by decide) (Aa SS).fr.size ?_);intro Ae ce Xe Le;replace SS:=Ab Le;clear Le;simp only[nn])|(refine rd rfl (Mu rfl) ?_)|((refine Yv (v:=v7) (by rfl) rfl rfl (Aa SS) ?_);intro Xf Bf Lf;replace SS:=Ab Lf;clear Lf;simp only[nn])|((refine apS 4 5 rfl rfl rfl rfl underlying41 Es rfl (by decide) (Aa SS) rfl rfl rfl (Du [v7]) (by omega) (by decide) (Aa SS).fr.size ?_);intro Ag cg Xg Lg;replace SS:=Ab Lg;clear Lg;simp only[nn])|(refine rd rfl (Ad 3 isAgg3 rfl rfl ((Aa SS).hold 1 rfl) rfl) ?_)|(refine rd rfl (Af (vs:=k.cs) 48 2 rwK szK rfl rfl ((Aa SS).hold 1 rfl) rfl rfl) ?_)|(refine rd rfl (Af (vs:=v.cs) 36 5 rwV szV rfl rfl ((Aa SS).hold 1 rfl) rfl rfl) ?_)|(refine rd rfl (Af (vs:=r.cs) 36 5 rwV szV rfl rfl ((Aa SS).hold 1 rfl) rfl rfl) ?_)|(refine rd rfl (Af (vs:=d.cs) 39 18 rwD szD rfl rfl ((Aa SS).hold 1 rfl) rfl rfl) ?_)))
 have HC:=Qj h o k d N _ ((Aa SS).hp 0 rfl) G hN (hT.fr (Aa SS).fr H.low) hk hFd
 simp only[Ds,Mw] at HC
 refine HC.mono ?_
 rintro _ Y ⟨h1,y,er,rfl,hP,T⟩
 replace SS:=Ab ((Aa SS).heap 0 rfl T)
 have hb1:=T.hb
 clear T HC
 go_wp2_with (first|go_skip|((with_reducible show wpList ..);first|((refine stS (vs:= [.bool y]) 3 4 (by rfl) rfl rfl rfl rfl (by simp[Value.oneCell']) (by kernel_rfl) (Aa SS) rfl (by simp[Bw,VV.cs,KK.cs,DD.cs,Ak,Av,Bl,Ay,Dq]) ?_);intro Xh Lh hfh hsh;replace SS:=Ab Lh;clear Lh hfh hsh;simp only[nn])))
 refine(Jq er _ hP.er).mono ?_
 rintro _ Yf ⟨rfl,hYf⟩
 replace SS:=Ab ((Aa SS).on hYf)
 clear hYf
 go_wp2_with (first|go_skip|((with_reducible show wpList ..);first|((refine stS (vs:=Dq (Bx er)) 3 43 (by rfl) rfl rfl rfl rfl (Gf _) (szF) (Aa SS) rfl (by simp[Bw,VV.cs,KK.cs,DD.cs,Ak,Av,Bl,Ay,Dq]) ?_);intro Xj Lj hfj hsj;replace SS:=Ab Lj;clear Lj hfj hsj;simp only[nn])))
 obtain⟨g,rfl,hcg⟩:=Ku (show World.ownsRow _ _ _ 5 (.slice Ag (l.length+1) cg) (l.length+1) _ from (Aa SS).get 4 rfl)
 have hS32:Sy w _ h.blocks [hpO h1,Aq Ba (Je 6 o T k v r d (.slice A l.length c)),Aq Bb (Bl Ay),Aq Bc (Bl {Ay with y:=y,f:=Bx er}),Eg w.heap.size 36 5 (.slice (some ⟨g,0,none⟩) (l.length+1) cg) (l.length+1) (l.flatMap VV.cs++ [v7].flatMap VV.cs),Aq Bf ([v7].flatMap VV.cs)]:=(Aa SS).drew
 clear SS
 refine wp_region_held_drew (P:=prog) (S:=fun X=>Sy w X h.blocks _) (by kernel_rfl) (hS32) (fun hS0=> ?_)
 refine gp 0 (some 188) (.slice (some ⟨g,0,none⟩) (l.length+1) cg) rfl rfl (hS32) ?_
 refine gp 1 (some 189) (.pointer (some ⟨Ba,33,none⟩)) rfl rfl (hS32) ?_
 refine gq 2 (some 190) (.slice A l.length c) rfl rfl (fun X hX=>Ad 41 isAgg41 rfl rfl (hX.hold 1 rfl) rfl) (hS32) ?_
 refine gq 3 (some 191) (.int .i64 (l.length:Nat)) rfl rfl (fun X hX=>Bi 41 36 underlying41 rfl rfl) (hS32) ?_
 refine gq 4 (some 192) (.slice (some ⟨g,0,none⟩) l.length cg) rfl rfl (fun X hX=>Mt rfl rfl rfl (by omega)) (hS32) ?_
 refine gp 5 (some 193) (.pointer (some ⟨Ba,33,none⟩)) rfl rfl (hS32) ?_
 refine gq 6 (some 194) (.slice A l.length c) rfl rfl (fun X hX=>Ad 41 isAgg41 rfl rfl (hX.hold 1 rfl) rfl) (hS32) ?_
 refine gr (rs:= [7]) (gcB 7 (some 195) rfl rfl hS32 (Gh l (some ⟨g,0,none⟩) A cg c _ (by omega) hlx (ReadsG.left (f:=VV.cs) (Mg (hS32.get 4 rfl))) (Aa HR _ hS32.fr)) id ?_ gn)
 intro Y1 hq1
 refine gp 8 (some 196) (.bool false) rfl rfl (hq1) ?_
 refine gp 9 (some 197) (.bool false) rfl rfl (hq1) ?_
 refine gp 10 (some 198) (.slice (some ⟨g,0,none⟩) (l.length+1) cg) rfl rfl (hq1) ?_
 refine gp 11 (some 199) (.pointer (some ⟨Ba,33,none⟩)) rfl rfl (hq1) ?_
 refine gq 12 (some 200) (.slice A l.length c) rfl rfl (fun X hX=>Ad 41 isAgg41 rfl rfl (hX.hold 1 rfl) rfl) (hq1) ?_
 refine gq 13 (some 201) (.int .i64 (l.length:Nat)) rfl rfl (fun X hX=>Bi 41 36 underlying41 rfl rfl) (hq1) ?_
 refine gq 14 (some 202) (.pointer (some ⟨g,0+l.length * 5,none⟩)) rfl rfl (fun X hX=>Az 41 5 l.length Mf Mi rfl rfl rfl (Nat.lt_succ_self _)) (hq1) ?_
 refine gp 15 (some 203) (.pointer (some ⟨g,0+l.length * 5+4,none⟩)) rfl rfl (hq1) ?_
 refine gq 16 (some 204) (.int .i64 7) rfl rfl (fun X hX=>Jr 3 4 isAgg3 rfl rfl (Jw (hX.get 4 rfl)) rfl) (hq1) ?_
 refine gq 17 (some 205) (.bool false) rfl rfl (fun X hX=>Eh rfl rfl rfl rfl) (hq1) ?_
 refine gp 18 (some 206) (.bool false) rfl rfl (hq1) ?_
 refine wpAnyH_done (by kernel_rfl) ?_ _
 try simp only[nn]
 have SS:=Ab hq1
 go_wp2_with (first|go_skip|((with_reducible show wpList ..);first|(refine zL (Bl {Ay with y:=y,f:=Bx er}) 45 34 3 rwN szN (by rfl) rfl rfl SS rfl rfl rfl ?_;simp only[nn])|((refine stS (vs:=Bl {Ay with y:=y,f:=Bx er}) 2 45 (by rfl) rfl rfl rfl rfl (Ed _) szN (Aa SS) rfl (by simp[Bw,VV.cs,KK.cs,DD.cs,Ak,Av,Bl,Ay,Dq]) ?_);intro Xz Lz hfz hsz;replace SS:=Ab Lz;clear Lz hfz hsz;simp only[nn])))
 refine Jf rwN szN rfl rfl rfl ((Aa SS).hold 2 rfl) rfl ?_
 exact⟨h1,{Ay with y:=y,f:=Bx er},er,rfl,rfl,hP,fun h=>absurd h (by decide),HP.To.end H (Aa SS) hb1⟩
theorem ask_7 (h:HP) (o T:Int) (k:KK) (v r:VV) (d:DD) (A:Option Addr) (c:Nat) (l:List VV) (N:Nat) (w:World) (H:h.Is w) (G:h.Gd N) (hN:N<=90000) (hT:Tabs w) (hk:OkK k) (hvx:v.x<2^64) (hFd:FD d) (hz:l.length<=1000000) (hlx: ∀v∈l,v.x<2^64) (hA:A=none->l.length=0/\c=0) (hR: ∀X,Fr w X h.blocks->Gv X A l):Calls prog 41 #[.pointer (some ⟨h.b,0,none⟩), .agg (Je 7 o T k v r d (.slice A l.length c)).toArray] w fun e w'=>Yz h N 7 k v r w e w':=by
 have SS:=Ab H.start
 have HR:=Ab hR
 clear hR
 go_enter func41,ntmps41
 go_wp2_with (first|go_skip|((with_reducible show wpList ..);first|(refine zB 50 (Je 7 o T k v r d (.slice A l.length c)) (by rfl) rfl rfl rfl SS ?_;clear SS;intro Xa Ba SS;simp only[nn])|(refine zA 45 (Bl Ay) (by rfl) rfl (show Hid (Sy _ _ _ [_,_]) from SS) ?_;clear SS;intro Xb Bb SS;simp only[nn])|(refine zA 45 (Bl Ay) (by rfl) rfl (show Hid (Sy _ _ _ [_,_,_]) from SS) ?_;clear SS;intro Xc Bc SS;simp only[nn])|((refine emS (e:=36) (size:=5) w.heap.size (by rfl) rfl (fun w=>by kernel_rfl) (Aa SS) (Aa SS).fr.size ?_);intro Xd Bd Ld;replace SS:=Ab Ld;clear Ld;simp only[nn])|(refine rd rfl (Ad 41 isAgg41 rfl rfl ((Aa SS).hold 1 rfl) rfl) ?_)|((refine Yy (news:=l.flatMap VV.cs) 4 (by rfl) rfl rfl rfl underlying41 Es rfl (by decide) (Aa SS) rfl hA (Ge VV.cs 5 (fun _=>rfl) l) (ReadsG.src (f:=VV.cs) (fun _=>rfl) (by decide) (Aa HR _ (Aa SS).fr)) (Du l) (by omega) (by decide) (Aa SS).fr.size ?_);intro Ae ce Xe Le;replace SS:=Ab Le;clear Le;simp only[nn])|(refine rd rfl (Mu rfl) ?_)|((refine Yv (v:=v7) (by rfl) rfl rfl (Aa SS) ?_);intro Xf Bf Lf;replace SS:=Ab Lf;clear Lf;simp only[nn])|((refine apS 4 5 rfl rfl rfl rfl underlying41 Es rfl (by decide) (Aa SS) rfl rfl rfl (Du [v7]) (by omega) (by decide) (Aa SS).fr.size ?_);intro Ag cg Xg Lg;replace SS:=Ab Lg;clear Lg;simp only[nn])|(refine rd rfl (Ad 3 isAgg3 rfl rfl ((Aa SS).hold 1 rfl) rfl) ?_)|(refine rd rfl (Af (vs:=k.cs) 48 2 rwK szK rfl rfl ((Aa SS).hold 1 rfl) rfl rfl) ?_)|(refine rd rfl (Af (vs:=v.cs) 36 5 rwV szV rfl rfl ((Aa SS).hold 1 rfl) rfl rfl) ?_)|(refine rd rfl (Af (vs:=r.cs) 36 5 rwV szV rfl rfl ((Aa SS).hold 1 rfl) rfl rfl) ?_)|(refine rd rfl (Af (vs:=d.cs) 39 18 rwD szD rfl rfl ((Aa SS).hold 1 rfl) rfl rfl) ?_)))
 have HC:=ZaD h o k N _ ((Aa SS).hp 0 rfl) G hN (hT.fr (Aa SS).fr H.low) hk
 simp only[Ds] at HC
 refine HC.mono ?_
 rintro _ Y ⟨h1,y,er,rfl,hP,T⟩
 replace SS:=Ab ((Aa SS).heap 0 rfl T)
 have hb1:=T.hb
 clear T HC
 go_wp2_with (first|go_skip|((with_reducible show wpList ..);first|((refine stS (vs:= [.bool y]) 3 4 (by rfl) rfl rfl rfl rfl (by simp[Value.oneCell']) (by kernel_rfl) (Aa SS) rfl (by simp[Bw,VV.cs,KK.cs,DD.cs,Ak,Av,Bl,Ay,Dq]) ?_);intro Xh Lh hfh hsh;replace SS:=Ab Lh;clear Lh hfh hsh;simp only[nn])))
 refine(Jq er _ hP.er).mono ?_
 rintro _ Yf ⟨rfl,hYf⟩
 replace SS:=Ab ((Aa SS).on hYf)
 clear hYf
 go_wp2_with (first|go_skip|((with_reducible show wpList ..);first|((refine stS (vs:=Dq (Bx er)) 3 43 (by rfl) rfl rfl rfl rfl (Gf _) (szF) (Aa SS) rfl (by simp[Bw,VV.cs,KK.cs,DD.cs,Ak,Av,Bl,Ay,Dq]) ?_);intro Xj Lj hfj hsj;replace SS:=Ab Lj;clear Lj hfj hsj;simp only[nn])))
 obtain⟨g,rfl,hcg⟩:=Ku (show World.ownsRow _ _ _ 5 (.slice Ag (l.length+1) cg) (l.length+1) _ from (Aa SS).get 4 rfl)
 have hS32:Sy w _ h.blocks [hpO h1,Aq Ba (Je 7 o T k v r d (.slice A l.length c)),Aq Bb (Bl Ay),Aq Bc (Bl {Ay with y:=y,f:=Bx er}),Eg w.heap.size 36 5 (.slice (some ⟨g,0,none⟩) (l.length+1) cg) (l.length+1) (l.flatMap VV.cs++ [v7].flatMap VV.cs),Aq Bf ([v7].flatMap VV.cs)]:=(Aa SS).drew
 clear SS
 refine wp_region_held_drew (P:=prog) (S:=fun X=>Sy w X h.blocks _) (by kernel_rfl) (hS32) (fun hS0=> ?_)
 refine gp 0 (some 188) (.slice (some ⟨g,0,none⟩) (l.length+1) cg) rfl rfl (hS32) ?_
 refine gp 1 (some 189) (.pointer (some ⟨Ba,33,none⟩)) rfl rfl (hS32) ?_
 refine gq 2 (some 190) (.slice A l.length c) rfl rfl (fun X hX=>Ad 41 isAgg41 rfl rfl (hX.hold 1 rfl) rfl) (hS32) ?_
 refine gq 3 (some 191) (.int .i64 (l.length:Nat)) rfl rfl (fun X hX=>Bi 41 36 underlying41 rfl rfl) (hS32) ?_
 refine gq 4 (some 192) (.slice (some ⟨g,0,none⟩) l.length cg) rfl rfl (fun X hX=>Mt rfl rfl rfl (by omega)) (hS32) ?_
 refine gp 5 (some 193) (.pointer (some ⟨Ba,33,none⟩)) rfl rfl (hS32) ?_
 refine gq 6 (some 194) (.slice A l.length c) rfl rfl (fun X hX=>Ad 41 isAgg41 rfl rfl (hX.hold 1 rfl) rfl) (hS32) ?_
 refine gr (rs:= [7]) (gcB 7 (some 195) rfl rfl hS32 (Gh l (some ⟨g,0,none⟩) A cg c _ (by omega) hlx (ReadsG.left (f:=VV.cs) (Mg (hS32.get 4 rfl))) (Aa HR _ hS32.fr)) id ?_ gn)
 intro Y1 hq1
 refine gp 8 (some 196) (.bool false) rfl rfl (hq1) ?_
 refine gp 9 (some 197) (.bool false) rfl rfl (hq1) ?_
 refine gp 10 (some 198) (.slice (some ⟨g,0,none⟩) (l.length+1) cg) rfl rfl (hq1) ?_
 refine gp 11 (some 199) (.pointer (some ⟨Ba,33,none⟩)) rfl rfl (hq1) ?_
 refine gq 12 (some 200) (.slice A l.length c) rfl rfl (fun X hX=>Ad 41 isAgg41 rfl rfl (hX.hold 1 rfl) rfl) (hq1) ?_
 refine gq 13 (some 201) (.int .i64 (l.length:Nat)) rfl rfl (fun X hX=>Bi 41 36 underlying41 rfl rfl) (hq1) ?_
 refine gq 14 (some 202) (.pointer (some ⟨g,0+l.length * 5,none⟩)) rfl rfl (fun X hX=>Az 41 5 l.length Mf Mi rfl rfl rfl (Nat.lt_succ_self _)) (hq1) ?_
 refine gp 15 (some 203) (.pointer (some ⟨g,0+l.length * 5+4,none⟩)) rfl rfl (hq1) ?_
 refine gq 16 (some 204) (.int .i64 7) rfl rfl (fun X hX=>Jr 3 4 isAgg3 rfl rfl (Jw (hX.get 4 rfl)) rfl) (hq1) ?_
 refine gq 17 (some 205) (.bool false) rfl rfl (fun X hX=>Eh rfl rfl rfl rfl) (hq1) ?_
 refine gp 18 (some 206) (.bool false) rfl rfl (hq1) ?_
 refine wpAnyH_done (by kernel_rfl) ?_ _
 try simp only[nn]
 have SS:=Ab hq1
 go_wp2_with (first|go_skip|((with_reducible show wpList ..);first|(refine zL (Bl {Ay with y:=y,f:=Bx er}) 45 34 3 rwN szN (by rfl) rfl rfl SS rfl rfl rfl ?_;simp only[nn])|((refine stS (vs:=Bl {Ay with y:=y,f:=Bx er}) 2 45 (by rfl) rfl rfl rfl rfl (Ed _) szN (Aa SS) rfl (by simp[Bw,VV.cs,KK.cs,DD.cs,Ak,Av,Bl,Ay,Dq]) ?_);intro Xz Lz hfz hsz;replace SS:=Ab Lz;clear Lz hfz hsz;simp only[nn])))
 refine Jf rwN szN rfl rfl rfl ((Aa SS).hold 2 rfl) rfl ?_
 exact⟨h1,{Ay with y:=y,f:=Bx er},er,rfl,rfl,hP,fun h=>absurd h (by decide),HP.To.end H (Aa SS) hb1⟩
theorem ask_8 (h:HP) (o T:Int) (k:KK) (v r:VV) (d:DD) (A:Option Addr) (c:Nat) (l:List VV) (N:Nat) (w:World) (H:h.Is w) (G:h.Gd N) (hN:N<=90000) (hT:Tabs w) (hk:OkK k) (hvx:v.x<2^64) (hFd:FD d) (hz:l.length<=1000000) (hlx: ∀v∈l,v.x<2^64) (hA:A=none->l.length=0/\c=0) (hR: ∀X,Fr w X h.blocks->Gv X A l):Calls prog 41 #[.pointer (some ⟨h.b,0,none⟩), .agg (Je 8 o T k v r d (.slice A l.length c)).toArray] w fun e w'=>Yz h N 8 k v r w e w':=by
 have SS:=Ab H.start
 have HR:=Ab hR
 clear hR
 go_enter func41,ntmps41
 go_wp2_with (first|go_skip|((with_reducible show wpList ..);first|(refine zB 50 (Je 8 o T k v r d (.slice A l.length c)) (by rfl) rfl rfl rfl SS ?_;clear SS;intro Xa Ba SS;simp only[nn])|(refine zA 45 (Bl Ay) (by rfl) rfl (show Hid (Sy _ _ _ [_,_]) from SS) ?_;clear SS;intro Xb Bb SS;simp only[nn])|(refine zA 45 (Bl Ay) (by rfl) rfl (show Hid (Sy _ _ _ [_,_,_]) from SS) ?_;clear SS;intro Xc Bc SS;simp only[nn])|((refine emS (e:=36) (size:=5) w.heap.size (by rfl) rfl (fun w=>by kernel_rfl) (Aa SS) (Aa SS).fr.size ?_);intro Xd Bd Ld;replace SS:=Ab Ld;clear Ld;simp only[nn])|(refine rd rfl (Ad 41 isAgg41 rfl rfl ((Aa SS).hold 1 rfl) rfl) ?_)|((refine Yy (news:=l.flatMap VV.cs) 4 (by rfl) rfl rfl rfl underlying41 Es rfl (by decide) (Aa SS) rfl hA (Ge VV.cs 5 (fun _=>rfl) l) (ReadsG.src (f:=VV.cs) (fun _=>rfl) (by decide) (Aa HR _ (Aa SS).fr)) (Du l) (by omega) (by decide) (Aa SS).fr.size ?_);intro Ae ce Xe Le;replace SS:=Ab Le;clear Le;simp only[nn])|(refine rd rfl (Mu rfl) ?_)|((refine Yv (v:=v7) (by rfl) rfl rfl (Aa SS) ?_);intro Xf Bf Lf;replace SS:=Ab Lf;clear Lf;simp only[nn])|((refine apS 4 5 rfl rfl rfl rfl underlying41 Es rfl (by decide) (Aa SS) rfl rfl rfl (Du [v7]) (by omega) (by decide) (Aa SS).fr.size ?_);intro Ag cg Xg Lg;replace SS:=Ab Lg;clear Lg;simp only[nn])|(refine rd rfl (Ad 3 isAgg3 rfl rfl ((Aa SS).hold 1 rfl) rfl) ?_)|(refine rd rfl (Af (vs:=k.cs) 48 2 rwK szK rfl rfl ((Aa SS).hold 1 rfl) rfl rfl) ?_)|(refine rd rfl (Af (vs:=v.cs) 36 5 rwV szV rfl rfl ((Aa SS).hold 1 rfl) rfl rfl) ?_)|(refine rd rfl (Af (vs:=r.cs) 36 5 rwV szV rfl rfl ((Aa SS).hold 1 rfl) rfl rfl) ?_)|(refine rd rfl (Af (vs:=d.cs) 39 18 rwD szD rfl rfl ((Aa SS).hold 1 rfl) rfl rfl) ?_)))
 have HC:=askGet h o k r N _ ((Aa SS).hp 0 rfl) G hN (hT.fr (Aa SS).fr H.low) hk
 simp only[Ds,Db] at HC
 refine HC.mono ?_
 rintro _ Y ⟨h1,V,er,rfl,hP,T⟩
 replace SS:=Ab ((Aa SS).heap 0 rfl T)
 have hb1:=T.hb
 clear T HC
 go_wp2_with (first|go_skip|((with_reducible show wpList ..);first|((refine stS (vs:=V.cs) 3 36 (by rfl) rfl rfl rfl rfl (Em _) (szV) (Aa SS) rfl (by simp[Bw,VV.cs,KK.cs,DD.cs,Ak,Av,Bl,Ay,Dq]) ?_);intro Xh Lh hfh hsh;replace SS:=Ab Lh;clear Lh hfh hsh;simp only[nn])))
 refine(Jq er _ hP.er).mono ?_
 rintro _ Yf ⟨rfl,hYf⟩
 replace SS:=Ab ((Aa SS).on hYf)
 clear hYf
 go_wp2_with (first|go_skip|((with_reducible show wpList ..);first|((refine stS (vs:=Dq (Bx er)) 3 43 (by rfl) rfl rfl rfl rfl (Gf _) (szF) (Aa SS) rfl (by simp[Bw,VV.cs,KK.cs,DD.cs,Ak,Av,Bl,Ay,Dq]) ?_);intro Xj Lj hfj hsj;replace SS:=Ab Lj;clear Lj hfj hsj;simp only[nn])))
 obtain⟨g,rfl,hcg⟩:=Ku (show World.ownsRow _ _ _ 5 (.slice Ag (l.length+1) cg) (l.length+1) _ from (Aa SS).get 4 rfl)
 have hS32:Sy w _ h.blocks [hpO h1,Aq Ba (Je 8 o T k v r d (.slice A l.length c)),Aq Bb (Bl Ay),Aq Bc (Bl {Ay with v:=V,f:=Bx er}),Eg w.heap.size 36 5 (.slice (some ⟨g,0,none⟩) (l.length+1) cg) (l.length+1) (l.flatMap VV.cs++ [v7].flatMap VV.cs),Aq Bf ([v7].flatMap VV.cs)]:=(Aa SS).drew
 clear SS
 refine wp_region_held_drew (P:=prog) (S:=fun X=>Sy w X h.blocks _) (by kernel_rfl) (hS32) (fun hS0=> ?_)
 refine gp 0 (some 188) (.slice (some ⟨g,0,none⟩) (l.length+1) cg) rfl rfl (hS32) ?_
 refine gp 1 (some 189) (.pointer (some ⟨Ba,33,none⟩)) rfl rfl (hS32) ?_
 refine gq 2 (some 190) (.slice A l.length c) rfl rfl (fun X hX=>Ad 41 isAgg41 rfl rfl (hX.hold 1 rfl) rfl) (hS32) ?_
 refine gq 3 (some 191) (.int .i64 (l.length:Nat)) rfl rfl (fun X hX=>Bi 41 36 underlying41 rfl rfl) (hS32) ?_
 refine gq 4 (some 192) (.slice (some ⟨g,0,none⟩) l.length cg) rfl rfl (fun X hX=>Mt rfl rfl rfl (by omega)) (hS32) ?_
 refine gp 5 (some 193) (.pointer (some ⟨Ba,33,none⟩)) rfl rfl (hS32) ?_
 refine gq 6 (some 194) (.slice A l.length c) rfl rfl (fun X hX=>Ad 41 isAgg41 rfl rfl (hX.hold 1 rfl) rfl) (hS32) ?_
 refine gr (rs:= [7]) (gcB 7 (some 195) rfl rfl hS32 (Gh l (some ⟨g,0,none⟩) A cg c _ (by omega) hlx (ReadsG.left (f:=VV.cs) (Mg (hS32.get 4 rfl))) (Aa HR _ hS32.fr)) id ?_ gn)
 intro Y1 hq1
 refine gp 8 (some 196) (.bool false) rfl rfl (hq1) ?_
 refine gp 9 (some 197) (.bool false) rfl rfl (hq1) ?_
 refine gp 10 (some 198) (.slice (some ⟨g,0,none⟩) (l.length+1) cg) rfl rfl (hq1) ?_
 refine gp 11 (some 199) (.pointer (some ⟨Ba,33,none⟩)) rfl rfl (hq1) ?_
 refine gq 12 (some 200) (.slice A l.length c) rfl rfl (fun X hX=>Ad 41 isAgg41 rfl rfl (hX.hold 1 rfl) rfl) (hq1) ?_
 refine gq 13 (some 201) (.int .i64 (l.length:Nat)) rfl rfl (fun X hX=>Bi 41 36 underlying41 rfl rfl) (hq1) ?_
 refine gq 14 (some 202) (.pointer (some ⟨g,0+l.length * 5,none⟩)) rfl rfl (fun X hX=>Az 41 5 l.length Mf Mi rfl rfl rfl (Nat.lt_succ_self _)) (hq1) ?_
 refine gp 15 (some 203) (.pointer (some ⟨g,0+l.length * 5+4,none⟩)) rfl rfl (hq1) ?_
 refine gq 16 (some 204) (.int .i64 7) rfl rfl (fun X hX=>Jr 3 4 isAgg3 rfl rfl (Jw (hX.get 4 rfl)) rfl) (hq1) ?_
 refine gq 17 (some 205) (.bool false) rfl rfl (fun X hX=>Eh rfl rfl rfl rfl) (hq1) ?_
 refine gp 18 (some 206) (.bool false) rfl rfl (hq1) ?_
 refine wpAnyH_done (by kernel_rfl) ?_ _
 try simp only[nn]
 have SS:=Ab hq1
 go_wp2_with (first|go_skip|((with_reducible show wpList ..);first|(refine zL (Bl {Ay with v:=V,f:=Bx er}) 45 34 3 rwN szN (by rfl) rfl rfl SS rfl rfl rfl ?_;simp only[nn])|((refine stS (vs:=Bl {Ay with v:=V,f:=Bx er}) 2 45 (by rfl) rfl rfl rfl rfl (Ed _) szN (Aa SS) rfl (by simp[Bw,VV.cs,KK.cs,DD.cs,Ak,Av,Bl,Ay,Dq]) ?_);intro Xz Lz hfz hsz;replace SS:=Ab Lz;clear Lz hfz hsz;simp only[nn])))
 refine Jf rwN szN rfl rfl rfl ((Aa SS).hold 2 rfl) rfl ?_
 exact⟨h1,{Ay with v:=V,f:=Bx er},er,rfl,rfl,hP,fun h=>absurd h (by decide),HP.To.end H (Aa SS) hb1⟩
theorem ask_9 (h:HP) (o T:Int) (k:KK) (v r:VV) (d:DD) (A:Option Addr) (c:Nat) (l:List VV) (N:Nat) (w:World) (H:h.Is w) (G:h.Gd N) (hN:N<=90000) (hT:Tabs w) (hk:OkK k) (hvx:v.x<2^64) (hFd:FD d) (hz:l.length<=1000000) (hlx: ∀v∈l,v.x<2^64) (hA:A=none->l.length=0/\c=0) (hR: ∀X,Fr w X h.blocks->Gv X A l):Calls prog 41 #[.pointer (some ⟨h.b,0,none⟩), .agg (Je 9 o T k v r d (.slice A l.length c)).toArray] w fun e w'=>Yz h N 9 k v r w e w':=by
 have SS:=Ab H.start
 have HR:=Ab hR
 clear hR
 go_enter func41,ntmps41
 go_wp2_with (first|go_skip|((with_reducible show wpList ..);first|(refine zB 50 (Je 9 o T k v r d (.slice A l.length c)) (by rfl) rfl rfl rfl SS ?_;clear SS;intro Xa Ba SS;simp only[nn])|(refine zA 45 (Bl Ay) (by rfl) rfl (show Hid (Sy _ _ _ [_,_]) from SS) ?_;clear SS;intro Xb Bb SS;simp only[nn])|(refine zA 45 (Bl Ay) (by rfl) rfl (show Hid (Sy _ _ _ [_,_,_]) from SS) ?_;clear SS;intro Xc Bc SS;simp only[nn])|((refine emS (e:=36) (size:=5) w.heap.size (by rfl) rfl (fun w=>by kernel_rfl) (Aa SS) (Aa SS).fr.size ?_);intro Xd Bd Ld;replace SS:=Ab Ld;clear Ld;simp only[nn])|(refine rd rfl (Ad 41 isAgg41 rfl rfl ((Aa SS).hold 1 rfl) rfl) ?_)|((refine Yy (news:=l.flatMap VV.cs) 4 (by rfl) rfl rfl rfl underlying41 Es rfl (by decide) (Aa SS) rfl hA (Ge VV.cs 5 (fun _=>rfl) l) (ReadsG.src (f:=VV.cs) (fun _=>rfl) (by decide) (Aa HR _ (Aa SS).fr)) (Du l) (by omega) (by decide) (Aa SS).fr.size ?_);intro Ae ce Xe Le;replace SS:=Ab Le;clear Le;simp only[nn])|(refine rd rfl (Mu rfl) ?_)|((refine Yv (v:=v7) (by rfl) rfl rfl (Aa SS) ?_);intro Xf Bf Lf;replace SS:=Ab Lf;clear Lf;simp only[nn])|((refine apS 4 5 rfl rfl rfl rfl underlying41 Es rfl (by decide) (Aa SS) rfl rfl rfl (Du [v7]) (by omega) (by decide) (Aa SS).fr.size ?_);intro Ag cg Xg Lg;replace SS:=Ab Lg;clear Lg;simp only[nn])|(refine rd rfl (Ad 3 isAgg3 rfl rfl ((Aa SS).hold 1 rfl) rfl) ?_)|(refine rd rfl (Af (vs:=k.cs) 48 2 rwK szK rfl rfl ((Aa SS).hold 1 rfl) rfl rfl) ?_)|(refine rd rfl (Af (vs:=v.cs) 36 5 rwV szV rfl rfl ((Aa SS).hold 1 rfl) rfl rfl) ?_)|(refine rd rfl (Af (vs:=r.cs) 36 5 rwV szV rfl rfl ((Aa SS).hold 1 rfl) rfl rfl) ?_)|(refine rd rfl (Af (vs:=d.cs) 39 18 rwD szD rfl rfl ((Aa SS).hold 1 rfl) rfl rfl) ?_)))
 have HC:=askSet h o k v r N _ ((Aa SS).hp 0 rfl) G hN (hT.fr (Aa SS).fr H.low) hk hvx
 simp only[Ds,Db] at HC
 refine HC.mono ?_
 rintro _ Y ⟨h1,y,er,rfl,hP,hQ,T⟩
 replace SS:=Ab ((Aa SS).heap 0 rfl T)
 have hb1:=T.hb
 clear T HC
 go_wp2_with (first|go_skip|((with_reducible show wpList ..);first|((refine stS (vs:= [.bool y]) 3 4 (by rfl) rfl rfl rfl rfl (by simp[Value.oneCell']) (by kernel_rfl) (Aa SS) rfl (by simp[Bw,VV.cs,KK.cs,DD.cs,Ak,Av,Bl,Ay,Dq]) ?_);intro Xh Lh hfh hsh;replace SS:=Ab Lh;clear Lh hfh hsh;simp only[nn])))
 refine(Jq er _ hP.er).mono ?_
 rintro _ Yf ⟨rfl,hYf⟩
 replace SS:=Ab ((Aa SS).on hYf)
 clear hYf
 go_wp2_with (first|go_skip|((with_reducible show wpList ..);first|((refine stS (vs:=Dq (Bx er)) 3 43 (by rfl) rfl rfl rfl rfl (Gf _) (szF) (Aa SS) rfl (by simp[Bw,VV.cs,KK.cs,DD.cs,Ak,Av,Bl,Ay,Dq]) ?_);intro Xj Lj hfj hsj;replace SS:=Ab Lj;clear Lj hfj hsj;simp only[nn])))
 obtain⟨g,rfl,hcg⟩:=Ku (show World.ownsRow _ _ _ 5 (.slice Ag (l.length+1) cg) (l.length+1) _ from (Aa SS).get 4 rfl)
 have hS32:Sy w _ h.blocks [hpO h1,Aq Ba (Je 9 o T k v r d (.slice A l.length c)),Aq Bb (Bl Ay),Aq Bc (Bl {Ay with y:=y,f:=Bx er}),Eg w.heap.size 36 5 (.slice (some ⟨g,0,none⟩) (l.length+1) cg) (l.length+1) (l.flatMap VV.cs++ [v7].flatMap VV.cs),Aq Bf ([v7].flatMap VV.cs)]:=(Aa SS).drew
 clear SS
 refine wp_region_held_drew (P:=prog) (S:=fun X=>Sy w X h.blocks _) (by kernel_rfl) (hS32) (fun hS0=> ?_)
 refine gp 0 (some 188) (.slice (some ⟨g,0,none⟩) (l.length+1) cg) rfl rfl (hS32) ?_
 refine gp 1 (some 189) (.pointer (some ⟨Ba,33,none⟩)) rfl rfl (hS32) ?_
 refine gq 2 (some 190) (.slice A l.length c) rfl rfl (fun X hX=>Ad 41 isAgg41 rfl rfl (hX.hold 1 rfl) rfl) (hS32) ?_
 refine gq 3 (some 191) (.int .i64 (l.length:Nat)) rfl rfl (fun X hX=>Bi 41 36 underlying41 rfl rfl) (hS32) ?_
 refine gq 4 (some 192) (.slice (some ⟨g,0,none⟩) l.length cg) rfl rfl (fun X hX=>Mt rfl rfl rfl (by omega)) (hS32) ?_
 refine gp 5 (some 193) (.pointer (some ⟨Ba,33,none⟩)) rfl rfl (hS32) ?_
 refine gq 6 (some 194) (.slice A l.length c) rfl rfl (fun X hX=>Ad 41 isAgg41 rfl rfl (hX.hold 1 rfl) rfl) (hS32) ?_
 refine gr (rs:= [7]) (gcB 7 (some 195) rfl rfl hS32 (Gh l (some ⟨g,0,none⟩) A cg c _ (by omega) hlx (ReadsG.left (f:=VV.cs) (Mg (hS32.get 4 rfl))) (Aa HR _ hS32.fr)) id ?_ gn)
 intro Y1 hq1
 refine gp 8 (some 196) (.bool false) rfl rfl (hq1) ?_
 refine gp 9 (some 197) (.bool false) rfl rfl (hq1) ?_
 refine gp 10 (some 198) (.slice (some ⟨g,0,none⟩) (l.length+1) cg) rfl rfl (hq1) ?_
 refine gp 11 (some 199) (.pointer (some ⟨Ba,33,none⟩)) rfl rfl (hq1) ?_
 refine gq 12 (some 200) (.slice A l.length c) rfl rfl (fun X hX=>Ad 41 isAgg41 rfl rfl (hX.hold 1 rfl) rfl) (hq1) ?_
 refine gq 13 (some 201) (.int .i64 (l.length:Nat)) rfl rfl (fun X hX=>Bi 41 36 underlying41 rfl rfl) (hq1) ?_
 refine gq 14 (some 202) (.pointer (some ⟨g,0+l.length * 5,none⟩)) rfl rfl (fun X hX=>Az 41 5 l.length Mf Mi rfl rfl rfl (Nat.lt_succ_self _)) (hq1) ?_
 refine gp 15 (some 203) (.pointer (some ⟨g,0+l.length * 5+4,none⟩)) rfl rfl (hq1) ?_
 refine gq 16 (some 204) (.int .i64 7) rfl rfl (fun X hX=>Jr 3 4 isAgg3 rfl rfl (Jw (hX.get 4 rfl)) rfl) (hq1) ?_
 refine gq 17 (some 205) (.bool false) rfl rfl (fun X hX=>Eh rfl rfl rfl rfl) (hq1) ?_
 refine gp 18 (some 206) (.bool false) rfl rfl (hq1) ?_
 refine wpAnyH_done (by kernel_rfl) ?_ _
 try simp only[nn]
 have SS:=Ab hq1
 go_wp2_with (first|go_skip|((with_reducible show wpList ..);first|(refine zL (Bl {Ay with y:=y,f:=Bx er}) 45 34 3 rwN szN (by rfl) rfl rfl SS rfl rfl rfl ?_;simp only[nn])|((refine stS (vs:=Bl {Ay with y:=y,f:=Bx er}) 2 45 (by rfl) rfl rfl rfl rfl (Ed _) szN (Aa SS) rfl (by simp[Bw,VV.cs,KK.cs,DD.cs,Ak,Av,Bl,Ay,Dq]) ?_);intro Xz Lz hfz hsz;replace SS:=Ab Lz;clear Lz hfz hsz;simp only[nn])))
 refine Jf rwN szN rfl rfl rfl ((Aa SS).hold 2 rfl) rfl ?_
 exact⟨h1,{Ay with y:=y,f:=Bx er},er,rfl,rfl,hP,fun _=>hQ,HP.To.end H (Aa SS) hb1⟩
theorem ask_10 (h:HP) (o T:Int) (k:KK) (v r:VV) (d:DD) (A:Option Addr) (c:Nat) (l:List VV) (N:Nat) (w:World) (H:h.Is w) (G:h.Gd N) (hN:N<=90000) (hT:Tabs w) (hk:OkK k) (hvx:v.x<2^64) (hFd:FD d) (hz:l.length<=1000000) (hlx: ∀v∈l,v.x<2^64) (hA:A=none->l.length=0/\c=0) (hR: ∀X,Fr w X h.blocks->Gv X A l):Calls prog 41 #[.pointer (some ⟨h.b,0,none⟩), .agg (Je 10 o T k v r d (.slice A l.length c)).toArray] w fun e w'=>Yz h N 10 k v r w e w':=by
 have SS:=Ab H.start
 have HR:=Ab hR
 clear hR
 go_enter func41,ntmps41
 go_wp2_with (first|go_skip|((with_reducible show wpList ..);first|(refine zB 50 (Je 10 o T k v r d (.slice A l.length c)) (by rfl) rfl rfl rfl SS ?_;clear SS;intro Xa Ba SS;simp only[nn])|(refine zA 45 (Bl Ay) (by rfl) rfl (show Hid (Sy _ _ _ [_,_]) from SS) ?_;clear SS;intro Xb Bb SS;simp only[nn])|(refine zA 45 (Bl Ay) (by rfl) rfl (show Hid (Sy _ _ _ [_,_,_]) from SS) ?_;clear SS;intro Xc Bc SS;simp only[nn])|((refine emS (e:=36) (size:=5) w.heap.size (by rfl) rfl (fun w=>by kernel_rfl) (Aa SS) (Aa SS).fr.size ?_);intro Xd Bd Ld;replace SS:=Ab Ld;clear Ld;simp only[nn])|(refine rd rfl (Ad 41 isAgg41 rfl rfl ((Aa SS).hold 1 rfl) rfl) ?_)|((refine Yy (news:=l.flatMap VV.cs) 4 (by rfl) rfl rfl rfl underlying41 Es rfl (by decide) (Aa SS) rfl hA (Ge VV.cs 5 (fun _=>rfl) l) (ReadsG.src (f:=VV.cs) (fun _=>rfl) (by decide) (Aa HR _ (Aa SS).fr)) (Du l) (by omega) (by decide) (Aa SS).fr.size ?_);intro Ae ce Xe Le;replace SS:=Ab Le;clear Le;simp only[nn])|(refine rd rfl (Mu rfl) ?_)|((refine Yv (v:=v7) (by rfl) rfl rfl (Aa SS) ?_);intro Xf Bf Lf;replace SS:=Ab Lf;clear Lf;simp only[nn])|((refine apS 4 5 rfl rfl rfl rfl underlying41 Es rfl (by decide) (Aa SS) rfl rfl rfl (Du [v7]) (by omega) (by decide) (Aa SS).fr.size ?_);intro Ag cg Xg Lg;replace SS:=Ab Lg;clear Lg;simp only[nn])|(refine rd rfl (Ad 3 isAgg3 rfl rfl ((Aa SS).hold 1 rfl) rfl) ?_)|(refine rd rfl (Af (vs:=k.cs) 48 2 rwK szK rfl rfl ((Aa SS).hold 1 rfl) rfl rfl) ?_)|(refine rd rfl (Af (vs:=v.cs) 36 5 rwV szV rfl rfl ((Aa SS).hold 1 rfl) rfl rfl) ?_)|(refine rd rfl (Af (vs:=r.cs) 36 5 rwV szV rfl rfl ((Aa SS).hold 1 rfl) rfl rfl) ?_)|(refine rd rfl (Af (vs:=d.cs) 39 18 rwD szD rfl rfl ((Aa SS).hold 1 rfl) rfl rfl) ?_)))
 have HC:=Zfn h o k N _ ((Aa SS).hp 0 rfl) G hN (hT.fr (Aa SS).fr H.low) hk
 simp only[Ds] at HC
 refine HC.mono ?_
 rintro _ Y ⟨h1,y,er,rfl,hP,T⟩
 replace SS:=Ab ((Aa SS).heap 0 rfl T)
 have hb1:=T.hb
 clear T HC
 go_wp2_with (first|go_skip|((with_reducible show wpList ..);first|((refine stS (vs:= [.bool y]) 3 4 (by rfl) rfl rfl rfl rfl (by simp[Value.oneCell']) (by kernel_rfl) (Aa SS) rfl (by simp[Bw,VV.cs,KK.cs,DD.cs,Ak,Av,Bl,Ay,Dq]) ?_);intro Xh Lh hfh hsh;replace SS:=Ab Lh;clear Lh hfh hsh;simp only[nn])))
 refine(Jq er _ hP.er).mono ?_
 rintro _ Yf ⟨rfl,hYf⟩
 replace SS:=Ab ((Aa SS).on hYf)
 clear hYf
 go_wp2_with (first|go_skip|((with_reducible show wpList ..);first|((refine stS (vs:=Dq (Bx er)) 3 43 (by rfl) rfl rfl rfl rfl (Gf _) (szF) (Aa SS) rfl (by simp[Bw,VV.cs,KK.cs,DD.cs,Ak,Av,Bl,Ay,Dq]) ?_);intro Xj Lj hfj hsj;replace SS:=Ab Lj;clear Lj hfj hsj;simp only[nn])))
 obtain⟨g,rfl,hcg⟩:=Ku (show World.ownsRow _ _ _ 5 (.slice Ag (l.length+1) cg) (l.length+1) _ from (Aa SS).get 4 rfl)
 have hS32:Sy w _ h.blocks [hpO h1,Aq Ba (Je 10 o T k v r d (.slice A l.length c)),Aq Bb (Bl Ay),Aq Bc (Bl {Ay with y:=y,f:=Bx er}),Eg w.heap.size 36 5 (.slice (some ⟨g,0,none⟩) (l.length+1) cg) (l.length+1) (l.flatMap VV.cs++ [v7].flatMap VV.cs),Aq Bf ([v7].flatMap VV.cs)]:=(Aa SS).drew
 clear SS
 refine wp_region_held_drew (P:=prog) (S:=fun X=>Sy w X h.blocks _) (by kernel_rfl) (hS32) (fun hS0=> ?_)
 refine gp 0 (some 188) (.slice (some ⟨g,0,none⟩) (l.length+1) cg) rfl rfl (hS32) ?_
 refine gp 1 (some 189) (.pointer (some ⟨Ba,33,none⟩)) rfl rfl (hS32) ?_
 refine gq 2 (some 190) (.slice A l.length c) rfl rfl (fun X hX=>Ad 41 isAgg41 rfl rfl (hX.hold 1 rfl) rfl) (hS32) ?_
 refine gq 3 (some 191) (.int .i64 (l.length:Nat)) rfl rfl (fun X hX=>Bi 41 36 underlying41 rfl rfl) (hS32) ?_
 refine gq 4 (some 192) (.slice (some ⟨g,0,none⟩) l.length cg) rfl rfl (fun X hX=>Mt rfl rfl rfl (by omega)) (hS32) ?_
 refine gp 5 (some 193) (.pointer (some ⟨Ba,33,none⟩)) rfl rfl (hS32) ?_
 refine gq 6 (some 194) (.slice A l.length c) rfl rfl (fun X hX=>Ad 41 isAgg41 rfl rfl (hX.hold 1 rfl) rfl) (hS32) ?_
 refine gr (rs:= [7]) (gcB 7 (some 195) rfl rfl hS32 (Gh l (some ⟨g,0,none⟩) A cg c _ (by omega) hlx (ReadsG.left (f:=VV.cs) (Mg (hS32.get 4 rfl))) (Aa HR _ hS32.fr)) id ?_ gn)
 intro Y1 hq1
 refine gp 8 (some 196) (.bool false) rfl rfl (hq1) ?_
 refine gp 9 (some 197) (.bool false) rfl rfl (hq1) ?_
 refine gp 10 (some 198) (.slice (some ⟨g,0,none⟩) (l.length+1) cg) rfl rfl (hq1) ?_
 refine gp 11 (some 199) (.pointer (some ⟨Ba,33,none⟩)) rfl rfl (hq1) ?_
 refine gq 12 (some 200) (.slice A l.length c) rfl rfl (fun X hX=>Ad 41 isAgg41 rfl rfl (hX.hold 1 rfl) rfl) (hq1) ?_
 refine gq 13 (some 201) (.int .i64 (l.length:Nat)) rfl rfl (fun X hX=>Bi 41 36 underlying41 rfl rfl) (hq1) ?_
 refine gq 14 (some 202) (.pointer (some ⟨g,0+l.length * 5,none⟩)) rfl rfl (fun X hX=>Az 41 5 l.length Mf Mi rfl rfl rfl (Nat.lt_succ_self _)) (hq1) ?_
 refine gp 15 (some 203) (.pointer (some ⟨g,0+l.length * 5+4,none⟩)) rfl rfl (hq1) ?_
 refine gq 16 (some 204) (.int .i64 7) rfl rfl (fun X hX=>Jr 3 4 isAgg3 rfl rfl (Jw (hX.get 4 rfl)) rfl) (hq1) ?_
 refine gq 17 (some 205) (.bool false) rfl rfl (fun X hX=>Eh rfl rfl rfl rfl) (hq1) ?_
 refine gp 18 (some 206) (.bool false) rfl rfl (hq1) ?_
 refine wpAnyH_done (by kernel_rfl) ?_ _
 try simp only[nn]
 have SS:=Ab hq1
 go_wp2_with (first|go_skip|((with_reducible show wpList ..);first|(refine zL (Bl {Ay with y:=y,f:=Bx er}) 45 34 3 rwN szN (by rfl) rfl rfl SS rfl rfl rfl ?_;simp only[nn])|((refine stS (vs:=Bl {Ay with y:=y,f:=Bx er}) 2 45 (by rfl) rfl rfl rfl rfl (Ed _) szN (Aa SS) rfl (by simp[Bw,VV.cs,KK.cs,DD.cs,Ak,Av,Bl,Ay,Dq]) ?_);intro Xz Lz hfz hsz;replace SS:=Ab Lz;clear Lz hfz hsz;simp only[nn])))
 refine Jf rwN szN rfl rfl rfl ((Aa SS).hold 2 rfl) rfl ?_
 exact⟨h1,{Ay with y:=y,f:=Bx er},er,rfl,rfl,hP,fun h=>absurd h (by decide),HP.To.end H (Aa SS) hb1⟩
theorem ask_11 (h:HP) (o T:Int) (k:KK) (v r:VV) (d:DD) (A:Option Addr) (c:Nat) (l:List VV) (N:Nat) (w:World) (H:h.Is w) (G:h.Gd N) (hN:N<=90000) (hT:Tabs w) (hk:OkK k) (hvx:v.x<2^64) (hFd:FD d) (hz:l.length<=1000000) (hlx: ∀v∈l,v.x<2^64) (hA:A=none->l.length=0/\c=0) (hR: ∀X,Fr w X h.blocks->Gv X A l):Calls prog 41 #[.pointer (some ⟨h.b,0,none⟩), .agg (Je 11 o T k v r d (.slice A l.length c)).toArray] w fun e w'=>Yz h N 11 k v r w e w':=by
 have SS:=Ab H.start
 have HR:=Ab hR
 clear hR
 go_enter func41,ntmps41
 go_wp2_with (first|go_skip|((with_reducible show wpList ..);first|(refine zB 50 (Je 11 o T k v r d (.slice A l.length c)) (by rfl) rfl rfl rfl SS ?_;clear SS;intro Xa Ba SS;simp only[nn])|(refine zA 45 (Bl Ay) (by rfl) rfl (show Hid (Sy _ _ _ [_,_]) from SS) ?_;clear SS;intro Xb Bb SS;simp only[nn])|(refine zA 45 (Bl Ay) (by rfl) rfl (show Hid (Sy _ _ _ [_,_,_]) from SS) ?_;clear SS;intro Xc Bc SS;simp only[nn])|((refine emS (e:=36) (size:=5) w.heap.size (by rfl) rfl (fun w=>by kernel_rfl) (Aa SS) (Aa SS).fr.size ?_);intro Xd Bd Ld;replace SS:=Ab Ld;clear Ld;simp only[nn])|(refine rd rfl (Ad 41 isAgg41 rfl rfl ((Aa SS).hold 1 rfl) rfl) ?_)|((refine Yy (news:=l.flatMap VV.cs) 4 (by rfl) rfl rfl rfl underlying41 Es rfl (by decide) (Aa SS) rfl hA (Ge VV.cs 5 (fun _=>rfl) l) (ReadsG.src (f:=VV.cs) (fun _=>rfl) (by decide) (Aa HR _ (Aa SS).fr)) (Du l) (by omega) (by decide) (Aa SS).fr.size ?_);intro Ae ce Xe Le;replace SS:=Ab Le;clear Le;simp only[nn])|(refine rd rfl (Mu rfl) ?_)|((refine Yv (v:=v7) (by rfl) rfl rfl (Aa SS) ?_);intro Xf Bf Lf;replace SS:=Ab Lf;clear Lf;simp only[nn])|((refine apS 4 5 rfl rfl rfl rfl underlying41 Es rfl (by decide) (Aa SS) rfl rfl rfl (Du [v7]) (by omega) (by decide) (Aa SS).fr.size ?_);intro Ag cg Xg Lg;replace SS:=Ab Lg;clear Lg;simp only[nn])|(refine rd rfl (Ad 3 isAgg3 rfl rfl ((Aa SS).hold 1 rfl) rfl) ?_)|(refine rd rfl (Af (vs:=k.cs) 48 2 rwK szK rfl rfl ((Aa SS).hold 1 rfl) rfl rfl) ?_)|(refine rd rfl (Af (vs:=v.cs) 36 5 rwV szV rfl rfl ((Aa SS).hold 1 rfl) rfl rfl) ?_)|(refine rd rfl (Af (vs:=r.cs) 36 5 rwV szV rfl rfl ((Aa SS).hold 1 rfl) rfl rfl) ?_)|(refine rd rfl (Af (vs:=d.cs) 39 18 rwD szD rfl rfl ((Aa SS).hold 1 rfl) rfl rfl) ?_)))
 have HC:=askKeys h o  N _ ((Aa SS).hp 0 rfl) G hN (hT.fr (Aa SS).fr H.low) 
 refine HC.mono ?_
 rintro _ Y ⟨h1,V,er,rfl,hP,hQ,T⟩
 obtain⟨kA,kn,kc,rfl⟩:=hQ
 replace SS:=Ab ((Aa SS).heap 0 rfl T)
 have hb1:=T.hb
 clear T HC
 go_wp2_with (first|go_skip|((with_reducible show wpList ..);first|((refine stS (vs:= [.slice kA kn kc]) 3 40 (by rfl) rfl rfl rfl rfl (by simp[Value.oneCell']) (by kernel_rfl) (Aa SS) rfl (by simp[Bw,VV.cs,KK.cs,DD.cs,Ak,Av,Bl,Ay,Dq]) ?_);intro Xh Lh hfh hsh;replace SS:=Ab Lh;clear Lh hfh hsh;simp only[nn])))
 refine(Jq er _ hP.er).mono ?_
 rintro _ Yf ⟨rfl,hYf⟩
 replace SS:=Ab ((Aa SS).on hYf)
 clear hYf
 go_wp2_with (first|go_skip|((with_reducible show wpList ..);first|((refine stS (vs:=Dq (Bx er)) 3 43 (by rfl) rfl rfl rfl rfl (Gf _) (szF) (Aa SS) rfl (by simp[Bw,VV.cs,KK.cs,DD.cs,Ak,Av,Bl,Ay,Dq]) ?_);intro Xj Lj hfj hsj;replace SS:=Ab Lj;clear Lj hfj hsj;simp only[nn])))
 obtain⟨g,rfl,hcg⟩:=Ku (show World.ownsRow _ _ _ 5 (.slice Ag (l.length+1) cg) (l.length+1) _ from (Aa SS).get 4 rfl)
 have hS32:Sy w _ h.blocks [hpO h1,Aq Ba (Je 11 o T k v r d (.slice A l.length c)),Aq Bb (Bl Ay),Aq Bc (Bl {Ay with kA:=kA,kn:=kn,kc:=kc,f:=Bx er}),Eg w.heap.size 36 5 (.slice (some ⟨g,0,none⟩) (l.length+1) cg) (l.length+1) (l.flatMap VV.cs++ [v7].flatMap VV.cs),Aq Bf ([v7].flatMap VV.cs)]:=(Aa SS).drew
 clear SS
 refine wp_region_held_drew (P:=prog) (S:=fun X=>Sy w X h.blocks _) (by kernel_rfl) (hS32) (fun hS0=> ?_)
 refine gp 0 (some 188) (.slice (some ⟨g,0,none⟩) (l.length+1) cg) rfl rfl (hS32) ?_
 refine gp 1 (some 189) (.pointer (some ⟨Ba,33,none⟩)) rfl rfl (hS32) ?_
 refine gq 2 (some 190) (.slice A l.length c) rfl rfl (fun X hX=>Ad 41 isAgg41 rfl rfl (hX.hold 1 rfl) rfl) (hS32) ?_
 refine gq 3 (some 191) (.int .i64 (l.length:Nat)) rfl rfl (fun X hX=>Bi 41 36 underlying41 rfl rfl) (hS32) ?_
 refine gq 4 (some 192) (.slice (some ⟨g,0,none⟩) l.length cg) rfl rfl (fun X hX=>Mt rfl rfl rfl (by omega)) (hS32) ?_
 refine gp 5 (some 193) (.pointer (some ⟨Ba,33,none⟩)) rfl rfl (hS32) ?_
 refine gq 6 (some 194) (.slice A l.length c) rfl rfl (fun X hX=>Ad 41 isAgg41 rfl rfl (hX.hold 1 rfl) rfl) (hS32) ?_
 refine gr (rs:= [7]) (gcB 7 (some 195) rfl rfl hS32 (Gh l (some ⟨g,0,none⟩) A cg c _ (by omega) hlx (ReadsG.left (f:=VV.cs) (Mg (hS32.get 4 rfl))) (Aa HR _ hS32.fr)) id ?_ gn)
 intro Y1 hq1
 refine gp 8 (some 196) (.bool false) rfl rfl (hq1) ?_
 refine gp 9 (some 197) (.bool false) rfl rfl (hq1) ?_
 refine gp 10 (some 198) (.slice (some ⟨g,0,none⟩) (l.length+1) cg) rfl rfl (hq1) ?_
 refine gp 11 (some 199) (.pointer (some ⟨Ba,33,none⟩)) rfl rfl (hq1) ?_
 refine gq 12 (some 200) (.slice A l.length c) rfl rfl (fun X hX=>Ad 41 isAgg41 rfl rfl (hX.hold 1 rfl) rfl) (hq1) ?_
 refine gq 13 (some 201) (.int .i64 (l.length:Nat)) rfl rfl (fun X hX=>Bi 41 36 underlying41 rfl rfl) (hq1) ?_
 refine gq 14 (some 202) (.pointer (some ⟨g,0+l.length * 5,none⟩)) rfl rfl (fun X hX=>Az 41 5 l.length Mf Mi rfl rfl rfl (Nat.lt_succ_self _)) (hq1) ?_
 refine gp 15 (some 203) (.pointer (some ⟨g,0+l.length * 5+4,none⟩)) rfl rfl (hq1) ?_
 refine gq 16 (some 204) (.int .i64 7) rfl rfl (fun X hX=>Jr 3 4 isAgg3 rfl rfl (Jw (hX.get 4 rfl)) rfl) (hq1) ?_
 refine gq 17 (some 205) (.bool false) rfl rfl (fun X hX=>Eh rfl rfl rfl rfl) (hq1) ?_
 refine gp 18 (some 206) (.bool false) rfl rfl (hq1) ?_
 refine wpAnyH_done (by kernel_rfl) ?_ _
 try simp only[nn]
 have SS:=Ab hq1
 go_wp2_with (first|go_skip|((with_reducible show wpList ..);first|(refine zL (Bl {Ay with kA:=kA,kn:=kn,kc:=kc,f:=Bx er}) 45 34 3 rwN szN (by rfl) rfl rfl SS rfl rfl rfl ?_;simp only[nn])|((refine stS (vs:=Bl {Ay with kA:=kA,kn:=kn,kc:=kc,f:=Bx er}) 2 45 (by rfl) rfl rfl rfl rfl (Ed _) szN (Aa SS) rfl (by simp[Bw,VV.cs,KK.cs,DD.cs,Ak,Av,Bl,Ay,Dq]) ?_);intro Xz Lz hfz hsz;replace SS:=Ab Lz;clear Lz hfz hsz;simp only[nn])))
 refine Jf rwN szN rfl rfl rfl ((Aa SS).hold 2 rfl) rfl ?_
 exact⟨h1,{Ay with kA:=kA,kn:=kn,kc:=kc,f:=Bx er},er,rfl,rfl,hP,fun h=>absurd h (by decide),HP.To.end H (Aa SS) hb1⟩
