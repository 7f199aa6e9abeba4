import Derived.Test.YtieahhciibdnaaaGreatDoorRd
set_option linter.all false
namespace Go.Proofs.YtieahhciibdnaaaGreatDoor
set_option maxRecDepth 100000
set_option maxHeartbeats 0
section
open Go Go.Proofs Go.Maps Go.RowKit FM Tryz
attribute [local go_sem] Ak Ae Aq Dl Dk Bl Af Aj Ad Bj Et Es
structure NS (h:HP) (j:Nat) (q:OB) (p:EX):Prop where
 hl:h.l.length<=65536
 hj:h.l[j]? =some q
 ow:q.ow=some (88, .pointer (some ⟨p.b,0,none⟩))
 he:h.e=exO p
 W:p.Wf
 hm:q.m=true
def Ro (p:EX) (s:ByteArray):BN:=(p.find s).getD Jb
theorem und_v (w:World):Calls prog 128 #[] w fun e w'=>e= .returned Eh.agg/\Below w.heap.size w w':=Oi w
theorem find_any (p:EX) (s:ByteArray) (w:World) (H:p.Is w) (W:p.Wf) (hs:okN s):Calls prog 237 #[.pointer (some ⟨p.b,0,none⟩), .string s] w fun e w'=>e= .returned (.tuple #[(Ro p s).agg, .bool (p.find s).isSome])/\Below w.heap.size w w':=by
 unfold Ro
 cases hf:p.find s with
 |none=>exact find_no p s w H W hs hf
 |some b=>exact find_yes p s b w H W hs hf
theorem Ja (h:HP) (j:Nat) (q:OB) (p:EX) (k:KK) (w:World) (H:h.Is w) (N:NS h j q p) (hk:OkK k):Calls prog 234 #[.agg #[], .pointer (some ⟨h.b,0,none⟩), .int .i64 ((j:Int)+1),k.agg] w fun e w'=>e= .returned (.tuple #[(Ro p k.s).agg, .bool (p.find k.s).isSome])/\Below w.heap.size w w':=by
 have SS:=Ab (Sy.nil w [])
 rw[Dg,Og]
 go_enter func234,ntmps234
 go_wp2_with (first|go_skip|((with_reducible show wpList ..);first|((refine Kk (by rfl) rfl rfl (Aa SS) ?_);intro X0 B0 S0;replace SS:=Ab S0;clear S0;simp only[nn])|(refine zB 45 (k.cs) (by rfl) rfl rfl rfl SS ?_;clear SS;intro Xa Ba SS;simp only[nn])|(refine zA 130 (Jb.cs) (by rfl) rfl SS ?_;clear SS;intro Xb Bb SS;simp only[nn])))
 refine(Zcz h j q p _ (H.on ((Aa SS).fr.below)) N.hl N.hj N.ow).mono ?_
 rintro _ _ ⟨rfl,rfl⟩
 go_wp2_with (first|go_skip|((with_reducible show wpList ..);first|(refine z1 9 isAgg9 1 (by rfl) rfl rfl SS rfl rfl ?_;simp only[nn])))
 have HC:=find_any p k.s _ (HP.Is.exs (H.on ((Aa SS).fr.below)) N.he) N.W hk.1
 rw[Og] at HC
 refine HC.mono ?_
 clear HC
 rintro _ Y ⟨rfl,hb⟩
 replace SS:=Ab ((Aa SS).on hb)
 clear hb
 go_wp2_with (first|go_skip|((with_reducible show wpList ..);first|(refine zS (hp:=(show 0+6<=6 by decide)) ((Ro p k.s).cs) 2 130 (by rfl) rfl rfl rfl rfl (Ey _) szB SS rfl ?_;clear SS;intro Xz SS;simp only[nn])))
 refine bodyPost_ret (Jt rwB szB rfl rfl rfl ((Aa SS).hold 2 rfl) rfl) rfl ?_
 exact⟨rfl,(Aa SS).fr.below⟩
theorem has_n (h:HP) (j:Nat) (q:OB) (p:EX) (k:KK) (w:World) (H:h.Is w) (N:NS h j q p) (hk:OkK k) (hs:k.n=0):Calls prog 228 #[.agg #[], .pointer (some ⟨h.b,0,none⟩), .int .i64 ((j:Int)+1),k.agg] w fun e w'=>e= .returned (.tuple #[.bool (p.find k.s).isSome, .nilIface])/\Below w.heap.size w w':=by
 have SS:=Ab (Sy.nil w [])
 rw[Dg]
 go_enter func228,ntmps228
 go_wp2_with (first|go_skip|((with_reducible show wpList ..);first|((refine Kk (by rfl) rfl rfl (Aa SS) ?_);intro X0 B0 S0;replace SS:=Ab S0;clear S0;simp only[nn])|(refine zB 45 (k.cs) (by rfl) rfl rfl rfl SS ?_;clear SS;intro Xa Ba SS;simp only[nn])|(refine zL (k.cs) 45 2 1 rwK szK (by rfl) rfl rfl SS rfl rfl rfl ?_;simp only[nn])))
 have HC:=fun X=>En k X
 simp only[Dg] at HC
 refine(HC _).mono ?_
 clear HC
 rintro _ Y ⟨rfl,hb⟩
 replace SS:=Ab ((Aa SS).on hb)
 clear hb
 rw[show (k.n !=0)=false by simp[hs]]
 go_wp2_with (first|go_skip|((with_reducible show wpList ..);first|(refine rd rfl (ldA rfl rfl) ?_)|(refine zL (k.cs) 45 2 1 rwK szK (by rfl) rfl rfl SS rfl rfl rfl ?_;simp only[nn])))
 have HC:=Ja h j q p k _ (H.on ((Aa SS).fr.below)) N hk
 rw[Dg,Og] at HC
 refine HC.mono ?_
 clear HC
 rintro _ Y ⟨rfl,hb⟩
 replace SS:=Ab ((Aa SS).on hb)
 clear hb
 go_wp2_with (first|go_skip|((with_reducible show wpList ..);first|(refine zA 130 (Jb.cs) (by rfl) rfl SS ?_;clear SS;intro Xb Bb SS;simp only[nn])|(refine zS (hp:=(show 0+6<=6 by decide)) ((Ro p k.s).cs) 2 130 (by rfl) rfl rfl rfl rfl (Ey _) szB SS rfl ?_;clear SS;intro Xz SS;simp only[nn])))
 go_ret2
 exact⟨rfl,(Aa SS).fr.below⟩
theorem del_n (h:HP) (j:Nat) (q:OB) (p:EX) (k:KK) (w:World) (H:h.Is w) (N:NS h j q p) (hk:OkK k) (hs:k.n=0):Calls prog 225 #[.agg #[], .pointer (some ⟨h.b,0,none⟩), .int .i64 ((j:Int)+1),k.agg] w fun e w'=>e= .returned (.tuple #[.bool (p.find k.s).isNone, .nilIface])/\Below w.heap.size w w':=by
 have SS:=Ab (Sy.nil w [])
 rw[Dg]
 go_enter func225,ntmps225
 go_wp2_with (first|go_skip|((with_reducible show wpList ..);first|((refine Kk (by rfl) rfl rfl (Aa SS) ?_);intro X0 B0 S0;replace SS:=Ab S0;clear S0;simp only[nn])|(refine zB 45 (k.cs) (by rfl) rfl rfl rfl SS ?_;clear SS;intro Xa Ba SS;simp only[nn])|(refine zL (k.cs) 45 2 1 rwK szK (by rfl) rfl rfl SS rfl rfl rfl ?_;simp only[nn])))
 have HC:=fun X=>En k X
 simp only[Dg] at HC
 refine(HC _).mono ?_
 clear HC
 rintro _ Y ⟨rfl,hb⟩
 replace SS:=Ab ((Aa SS).on hb)
 clear hb
 rw[show (k.n !=0)=false by simp[hs]]
 go_wp2_with (first|go_skip|((with_reducible show wpList ..);first|(refine rd rfl (ldA rfl rfl) ?_)|(refine zL (k.cs) 45 2 1 rwK szK (by rfl) rfl rfl SS rfl rfl rfl ?_;simp only[nn])))
 have HC:=Ja h j q p k _ (H.on ((Aa SS).fr.below)) N hk
 rw[Dg,Og] at HC
 refine HC.mono ?_
 clear HC
 rintro _ Y ⟨rfl,hb⟩
 replace SS:=Ab ((Aa SS).on hb)
 clear hb
 go_wp2_with (first|go_skip|((with_reducible show wpList ..);first|(refine zA 130 (Jb.cs) (by rfl) rfl SS ?_;clear SS;intro Xb Bb SS;simp only[nn])|(refine zS (hp:=(show 0+6<=6 by decide)) ((Ro p k.s).cs) 2 130 (by rfl) rfl rfl rfl rfl (Ey _) szB SS rfl ?_;clear SS;intro Xz SS;simp only[nn])))
 go_ret2
 exact⟨rfl,(Aa SS).fr.below⟩
theorem set_n (h:HP) (j:Nat) (k:KK) (v r:VV) (w:World):Calls prog 230 #[.agg #[], .pointer (some ⟨h.b,0,none⟩), .int .i64 ((j:Int)+1),k.agg,v.agg,r.agg] w fun e w'=>e= .returned (.tuple #[.bool false, .nilIface])/\Below w.heap.size w w':=by
 have SS:=Ab (Sy.nil w [])
 rw[Dg,Db,Db]
 go_enter func230,ntmps230
 go_wp2_with (first|go_skip|((with_reducible show wpList ..);first|((refine Kk (by rfl) rfl rfl (Aa SS) ?_);intro X0 B0 S0;replace SS:=Ab S0;clear S0;simp only[nn])|(refine zB 45 (k.cs) (by rfl) rfl rfl rfl SS ?_;clear SS;intro Xa Ba SS;simp only[nn])|(refine zB 26 (v.cs) (by rfl) rfl rfl rfl SS ?_;clear SS;intro Xb Bb SS;simp only[nn])|(refine zB 26 (r.cs) (by rfl) rfl rfl rfl SS ?_;clear SS;intro Xc Bc SS;simp only[nn])))
 go_ret2
 exact⟨rfl,(Aa SS).fr.below⟩
theorem read_no (b:BN) (w:World) (hk:b.v.k=0):Calls prog 235 #[b.agg] w fun e w'=> ∃B,e= .returned (.tuple #[zeroV.agg,Uk B])/\Sy w w' [] [Ao B Gz]:=by
 have SS:=Ab (Sy.nil w [])
 rw[Og,Db]
 go_enter func235,ntmps235
 go_wp2_with (first|go_skip|((with_reducible show wpList ..);first|(refine zB 130 (b.cs) (by rfl) rfl rfl rfl SS ?_;clear SS;intro Xa Ba SS;simp only[nn])|(refine zA 26 (zeroV.cs) (by rfl) rfl SS ?_;clear SS;intro Xb Bb SS;simp only[nn])|(refine z1 3 isAgg3 0 (by rfl) rfl rfl SS rfl rfl ?_;simp only[nn])|(refine rd rfl (Kg rfl rfl rfl hk) ?_)|(refine rd rfl (ZbO rfl) ?_)))
 refine(Zck _).mono ?_
 rintro _ Y ⟨B,rfl,S1⟩
 replace SS:=Ab ((Aa SS).add (Jo _ _) (S1.get 0 rfl) S1.fr.below (fun b hb=>(S1.lo _ (List.mem_cons_self ..) b hb).elim (fun h=>by cases h) id))
 clear S1
 go_wp2_with (first|go_skip|((with_reducible show wpList ..);first|(refine zS (zeroV.cs) 1 26 (by rfl) rfl rfl rfl rfl (Ex _) szV SS rfl ?_;clear SS;intro Xz SS;simp only[nn])))
 refine bodyPost_ret (Jt rwV szV rfl rfl rfl ((Aa SS).hold 1 rfl) rfl) rfl ?_
 exact⟨B,rfl,Sy.tail (Sy.tail (Aa SS))⟩
theorem get_no (h:HP) (j:Nat) (q:OB) (p:EX) (k:KK) (r:VV) (w:World) (H:h.Is w) (N:NS h j q p) (hk:OkK k) (hs:k.n=0) (hf:p.find k.s=none):Calls prog 226 #[.agg #[], .pointer (some ⟨h.b,0,none⟩), .int .i64 ((j:Int)+1),k.agg,r.agg] w fun e w'=>e= .returned (.tuple #[Eh.agg, .nilIface])/\Below w.heap.size w w':=by
 have SS:=Ab (Sy.nil w [])
 rw[Dg,Db,Db]
 go_enter func226,ntmps226
 go_wp2_with (first|go_skip|((with_reducible show wpList ..);first|((refine Kk (by rfl) rfl rfl (Aa SS) ?_);intro X0 B0 S0;replace SS:=Ab S0;clear S0;simp only[nn])|(refine zB 45 (k.cs) (by rfl) rfl rfl rfl SS ?_;clear SS;intro Xa Ba SS;simp only[nn])|(refine zB 26 (r.cs) (by rfl) rfl rfl rfl SS ?_;clear SS;intro Xc Bc SS;simp only[nn])|(refine zA 26 (zeroV.cs) (by rfl) rfl SS ?_;clear SS;intro Xd Bd SS;simp only[nn])|(refine zL (k.cs) 45 2 1 rwK szK (by rfl) rfl rfl SS rfl rfl rfl ?_;simp only[nn])))
 have HC:=fun X=>En k X
 simp only[Dg] at HC
 refine(HC _).mono ?_
 clear HC
 rintro _ Y ⟨rfl,hb⟩
 replace SS:=Ab ((Aa SS).on hb)
 clear hb
 rw[show (k.n !=0)=false by simp[hs]]
 go_wp2_with (first|go_skip|((with_reducible show wpList ..);first|(refine rd rfl (ldA rfl rfl) ?_)|(refine zL (k.cs) 45 2 1 rwK szK (by rfl) rfl rfl SS rfl rfl rfl ?_;simp only[nn])))
 have HC:=Ja h j q p k _ (H.on ((Aa SS).fr.below)) N hk
 rw[Dg,Og] at HC
 refine HC.mono ?_
 clear HC
 rintro _ Y ⟨rfl,hb⟩
 replace SS:=Ab ((Aa SS).on hb)
 clear hb
 rw[hf]
 go_wp2_with (first|go_skip|((with_reducible show wpList ..);first|(refine zA 130 (Jb.cs) (by rfl) rfl SS ?_;clear SS;intro Xb Bb SS;simp only[nn])|(refine zS (hp:=(show 0+6<=6 by decide)) ((Ro p k.s).cs) 4 130 (by rfl) rfl rfl rfl rfl (Ey _) szB SS rfl ?_;clear SS;intro Xz SS;simp only[nn])))
 have HC:=fun X=>und_v X
 simp only[Db] at HC
 refine(HC _).mono ?_
 clear HC
 rintro _ Y ⟨rfl,hb⟩
 replace SS:=Ab ((Aa SS).on hb)
 clear hb
 go_wp2_with (first|go_skip|((with_reducible show wpList ..);first|(refine zS (Eh.cs) 3 26 (by rfl) rfl rfl rfl rfl (Ex _) szV SS rfl ?_;clear SS;intro Xz2 SS;simp only[nn])))
 refine bodyPost_ret (Jt rwV szV rfl rfl rfl ((Aa SS).hold 3 rfl) rfl) rfl ?_
 exact⟨rfl,(Aa SS).fr.below⟩
theorem Zdb (h:HP) (j:Nat) (q:OB) (p:EX) (k:KK) (r:VV) (b:BN) (w:World) (H:h.Is w) (N:NS h j q p) (hk:OkK k) (hs:k.n=0) (hf:p.find k.s=some b) (hz:b.v.s.size<=1048576) (h0:b.v.k≠0):Calls prog 226 #[.agg #[], .pointer (some ⟨h.b,0,none⟩), .int .i64 ((j:Int)+1),k.agg,r.agg] w fun e w'=>e= .returned (.tuple #[b.v.agg, .nilIface])/\Below w.heap.size w w':=by
 have SS:=Ab (Sy.nil w [])
 rw[Dg,Db,Db]
 go_enter func226,ntmps226
 go_wp2_with (first|go_skip|((with_reducible show wpList ..);first|((refine Kk (by rfl) rfl rfl (Aa SS) ?_);intro X0 B0 S0;replace SS:=Ab S0;clear S0;simp only[nn])|(refine zB 45 (k.cs) (by rfl) rfl rfl rfl SS ?_;clear SS;intro Xa Ba SS;simp only[nn])|(refine zB 26 (r.cs) (by rfl) rfl rfl rfl SS ?_;clear SS;intro Xc Bc SS;simp only[nn])|(refine zA 26 (zeroV.cs) (by rfl) rfl SS ?_;clear SS;intro Xd Bd SS;simp only[nn])|(refine zL (k.cs) 45 2 1 rwK szK (by rfl) rfl rfl SS rfl rfl rfl ?_;simp only[nn])))
 have HC:=fun X=>En k X
 simp only[Dg] at HC
 refine(HC _).mono ?_
 clear HC
 rintro _ Y ⟨rfl,hb⟩
 replace SS:=Ab ((Aa SS).on hb)
 clear hb
 rw[show (k.n !=0)=false by simp[hs]]
 go_wp2_with (first|go_skip|((with_reducible show wpList ..);first|(refine rd rfl (ldA rfl rfl) ?_)|(refine zL (k.cs) 45 2 1 rwK szK (by rfl) rfl rfl SS rfl rfl rfl ?_;simp only[nn])))
 have HC:=Ja h j q p k _ (H.on ((Aa SS).fr.below)) N hk
 rw[Dg,Og] at HC
 refine HC.mono ?_
 clear HC
 rintro _ Y ⟨rfl,hb⟩
 replace SS:=Ab ((Aa SS).on hb)
 clear hb
 have hfb:Ro p k.s=b:=by unfold Ro;rw[hf];rfl
 rw[hf,hfb]
 go_wp2_with (first|go_skip|((with_reducible show wpList ..);first|(refine zA 130 (Jb.cs) (by rfl) rfl SS ?_;clear SS;intro Xb Bb SS;simp only[nn])|(refine zS (hp:=(show 0+6<=6 by decide)) (b.cs) 4 130 (by rfl) rfl rfl rfl rfl (Ey _) szB SS rfl ?_;clear SS;intro Xz SS;simp only[nn])|(refine zL (b.cs) 130 6 4 rwB szB (by rfl) rfl rfl SS rfl rfl rfl ?_;simp only[nn])))
 have HC:=fun X=>read_yes b X hz h0
 simp only[Db,Og] at HC
 refine(HC _).mono ?_
 clear HC
 rintro _ Y ⟨rfl,hb⟩
 replace SS:=Ab ((Aa SS).on hb)
 clear hb
 go_wp2_with (first|go_skip|((with_reducible show wpList ..);first|(refine zS (b.v.cs) 3 26 (by rfl) rfl rfl rfl rfl (Ex _) szV SS rfl ?_;clear SS;intro Xz2 SS;simp only[nn])))
 refine bodyPost_ret (Jt rwV szV rfl rfl rfl ((Aa SS).hold 3 rfl) rfl) rfl ?_
 exact⟨rfl,(Aa SS).fr.below⟩
theorem Zdc (h:HP) (j:Nat) (q:OB) (p:EX) (k:KK) (r:VV) (b:BN) (w:World) (H:h.Is w) (N:NS h j q p) (hk:OkK k) (hs:k.n=0) (hf:p.find k.s=some b) (h0:b.v.k=0):Calls prog 226 #[.agg #[], .pointer (some ⟨h.b,0,none⟩), .int .i64 ((j:Int)+1),k.agg,r.agg] w fun e w'=> ∃B,e= .returned (.tuple #[zeroV.agg,Uk B])/\Sy w w' [] [Ao B Gz]:=by
 have SS:=Ab (Sy.nil w [])
 simp only[Dg,Db]
 go_enter func226,ntmps226
 go_wp2_with (first|go_skip|((with_reducible show wpList ..);first|((refine Kk (by rfl) rfl rfl (Aa SS) ?_);intro X0 B0 S0;replace SS:=Ab S0;clear S0;simp only[nn])|(refine zB 45 (k.cs) (by rfl) rfl rfl rfl SS ?_;clear SS;intro Xa Ba SS;simp only[nn])|(refine zB 26 (r.cs) (by rfl) rfl rfl rfl SS ?_;clear SS;intro Xc Bc SS;simp only[nn])|(refine zA 26 (zeroV.cs) (by rfl) rfl SS ?_;clear SS;intro Xd Bd SS;simp only[nn])|(refine zL (k.cs) 45 2 1 rwK szK (by rfl) rfl rfl SS rfl rfl rfl ?_;simp only[nn])))
 have HC:=fun X=>En k X
 simp only[Dg] at HC
 refine(HC _).mono ?_
 clear HC
 rintro _ Y ⟨rfl,hb⟩
 replace SS:=Ab ((Aa SS).on hb)
 clear hb
 rw[show (k.n !=0)=false by simp[hs]]
 go_wp2_with (first|go_skip|((with_reducible show wpList ..);first|(refine rd rfl (ldA rfl rfl) ?_)|(refine zL (k.cs) 45 2 1 rwK szK (by rfl) rfl rfl SS rfl rfl rfl ?_;simp only[nn])))
 have HC:=Ja h j q p k _ (H.on ((Aa SS).fr.below)) N hk
 rw[Dg,Og] at HC
 refine HC.mono ?_
 clear HC
 rintro _ Y ⟨rfl,hb⟩
 replace SS:=Ab ((Aa SS).on hb)
 clear hb
 have hfb:Ro p k.s=b:=by unfold Ro;rw[hf];rfl
 rw[hf,hfb]
 go_wp2_with (first|go_skip|((with_reducible show wpList ..);first|(refine zA 130 (Jb.cs) (by rfl) rfl SS ?_;clear SS;intro Xb Bb SS;simp only[nn])|(refine zS (hp:=(show 0+6<=6 by decide)) (b.cs) 4 130 (by rfl) rfl rfl rfl rfl (Ey _) szB SS rfl ?_;clear SS;intro Xz SS;simp only[nn])|(refine zL (b.cs) 130 6 4 rwB szB (by rfl) rfl rfl SS rfl rfl rfl ?_;simp only[nn])))
 have HC:=fun X=>read_no b X h0
 simp only[Db,Og] at HC
 refine(HC _).mono ?_
 clear HC
 rintro _ Y ⟨B,rfl,S1⟩
 replace SS:=Ab ((Aa SS).add (Jo _ _) (S1.get 0 rfl) S1.fr.below (fun b hb=>(S1.lo _ (List.mem_cons_self ..) b hb).elim (fun h=>by cases h) id))
 clear S1
 go_wp2_with (first|go_skip|((with_reducible show wpList ..);first|(refine zS (zeroV.cs) 3 26 (by rfl) rfl rfl rfl rfl (Ex _) szV SS rfl ?_;clear SS;intro Xz2 SS;simp only[nn])))
 refine bodyPost_ret (Jt rwV szV rfl rfl rfl ((Aa SS).hold 3 rfl) rfl) rfl ?_
 exact⟨B,rfl,Sy.tail (Sy.tail (Sy.tail (Sy.tail (Sy.tail (Aa SS)))))⟩
