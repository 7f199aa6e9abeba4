import Derived.Test.YtfefpbjkbmaicaaGreatDoorRu
set_option linter.all false
namespace Go.Proofs.YtfefpbjkbmaicaaGreatDoor
set_option maxRecDepth 100000
set_option maxHeartbeats 0
section
open Go Go.Proofs Go.Maps Go.RowKit FM Tryz
attribute [local go_sem] Av Ap Dv Du De Au Ao Az Dd Gu Gt
theorem slot_h (h:HP) (j:Nat) (q:OB) (p:PM) (s:ByteArray) (m:Nat) (w:World) (H:h.Is w) (hl:h.l.length<=65536) (hj:h.l[j]? =some q) (ho:q.ow=some (75, .pointer (some ⟨p.b,0,none⟩))) (he:h.e=pmO p) (hs:s.size<=1048576) (hF:p.pF s=some m):Calls prog 35 #[.pointer (some ⟨h.b,0,none⟩), .int .i64 ((j:Int)+1), .string s] w fun e w'=>e= .returned (.tuple #[.pointer (some ⟨p.b,0,none⟩), .int .i64 (m:Nat), .int .i64 0])/\w'=w:=by
 have HP_:=Ac (H.pms he)
 have HA:=Pj h j q p w H hl hj ho
 have hs2:s.size<=maxLen:=Nat.le_trans hs (by decide)
 have r2:=rY hF
 clear H
 go_enter func35,ntmps35
 go_wp2_with fail
 refine HA.mono ?_
 rintro _ _ ⟨rfl,rfl⟩
 go_wp2_with (first|go_skip|((with_reducible show wpList ..);first|(refine rd rfl (Aj 83 isAgg83 rfl rfl ((Aa HP_).blk) rfl) ?_)|(refine rd rfl (lookS rfl rfl rfl (Aa HP_).pl hs2 r2) ?_)))
 go_ret3
 exact⟨rfl,rfl⟩
theorem sz_st:(prog.info? 9).map (·.size)=some 1:=by kernel_rfl
theorem Ju (h:HP) (j:Nat) (q:OB) (p:PM) (s:ByteArray) (m:Nat) (a:PA) (w:World) (H:h.Is w) (hl:h.l.length<=65536) (hj:h.l[j]? =some q) (ho:q.ow=some (75, .pointer (some ⟨p.b,0,none⟩))) (he:h.e=pmO p) (hs:s.size<=1048576) (hF:p.pF s=some m) (ha:p.l[m]? =some a) (hg:a.v.s.size<=1048576):Calls prog 9 #[.pointer (some ⟨h.b,0,none⟩), .int .i64 ((j:Int)+1), .string s] w fun e w'=>e= .returned (.tuple #[a.v.agg, .int .i64 0])/\Below w.heap.size w w':=by
 have HP_:=Ac (H.pms he)
 obtain⟨g,c0,hlv⟩:=(H.pms he).at ha
 have HLV:=Ac hlv
 clear hlv
 have hjl:=(List.getElem?_eq_some_iff.1 ha).1
 obtain⟨q0,hq⟩: ∃q0,q0=0+m * 7:=⟨_,rfl⟩
 have HQ:=Ac hq
 clear hq
 have HA:=fun (X:World) (k:Below w.heap.size w X)=>slot_h h j q p s m X (H.on k) hl hj ho he hs hF
 have HC:=Lt a.v.s
 clear H
 have SS:=Ac (Sy.nil w [])
 rw[Dk]
 go_enter func9,ntmps9
 go_wp2_with (first|go_skip|((with_reducible show wpList ..);first|(refine zA 26 (Bz.cs) (by rfl) rfl SS ?_;clear SS;intro Xr Br SS;simp only[nn])))
 refine(HA _ (Aa SS).fr.below).mono ?_
 rintro _ _ ⟨rfl,rfl⟩
 go_wp2_with (first|go_skip|((with_reducible show wpList ..);first|(refine rd rfl (Aj 82 isAgg82 rfl rfl (((Aa HP_).on (Aa SS).fr.below).blk) rfl) ?_)|(refine rd rfl (Km q0 m rfl rfl (Aa HLV) rfl hjl (Aa HQ)) ?_)|(refine rd rfl (ex_ldV (p:=a) rfl rfl (Dy (Aa HQ) (Dp ((Aa HP_).on (Aa SS).fr.below).ro (Aa HLV) rfl ha))) ?_)|(refine zA 26 (Bz.cs) (by rfl) rfl (show Hid (Sy _ _ _ [_]) from SS) ?_;clear SS;intro Xv Bv SS;simp only[nn])|(refine zS (a.v.cs) 1 26 (by rfl) rfl rfl rfl rfl (Eb _) szV SS rfl ?_;clear SS;intro X4 SS;simp only[nn])|(refine rd rfl (Aj 9 isAgg9 rfl rfl ((Aa SS).hold 1 rfl) rfl) ?_)))
 refine(HC _ hg).mono ?_
 rintro _ Y2 ⟨rfl,hb2⟩
 replace SS:=Ac ((Aa SS).on hb2)
 clear hb2
 go_wp2_with (first|go_skip|((with_reducible show wpList ..);first|(refine zS ([.string a.v.s]) 1 9 (by rfl) rfl rfl rfl rfl (by simp[Value.oneCell']) sz_st SS rfl ?_;clear SS;intro X5 SS;simp only[nn])|(refine zL (a.v.cs) 26 5 1 rwV szV (by rfl) rfl rfl SS rfl rfl rfl ?_;simp only[nn])|(refine zS (a.v.cs) 0 26 (by rfl) rfl rfl rfl rfl (Eb _) szV SS rfl ?_;clear SS;intro X6 SS;simp only[nn])))
 refine bodyPost_ret (Mo rwV szV rfl rfl rfl ((Aa SS).hold 0 rfl) rfl) rfl ?_
 exact⟨rfl,(Aa SS).fr.below⟩
theorem Kd (h:HP) (j:Nat) (q:OB) (p:PM) (i:Int) (w:World) (H:h.Is w) (hl:h.l.length<=65536) (hj:h.l[j]? =some q) (ho:q.ow=some (75, .pointer (some ⟨p.b,0,none⟩))) (he:h.e=pmO p) (hwf:(Lit.int .i64 i).wf=true) (hF:p.tF i=none):Calls prog 7 #[.pointer (some ⟨h.b,0,none⟩), .int .i64 ((j:Int)+1), .int .i64 i] w fun e w'=>e= .returned (.tuple #[.string ByteArray.empty, .bool false, .int .i64 0])/\Below w.heap.size w w':=by
 have HP_:=Ac (H.pms he)
 have HA:=Pj h j q p w H hl hj ho
 have r2:=iN hF
 have SS:=Ac (Sy.nil w [])
 clear H
 go_enter func7,ntmps7
 go_wp2_with fail
 refine HA.mono ?_
 rintro _ _ ⟨rfl,rfl⟩
 go_wp2_with (first|go_skip|((with_reducible show wpList ..);first|(refine rd rfl (Aj 84 isAgg84 rfl rfl ((Aa HP_).blk) rfl) ?_)|(refine rd rfl (Zx rfl rfl rfl (Aa HP_).ti hwf r2) ?_)))
 go_ret3
 exact⟨rfl,(Aa SS).fr.below⟩
theorem Lv (h:HP) (j:Nat) (q:OB) (p:PM) (i:Int) (m:Nat) (a:PA) (w:World) (H:h.Is w) (hl:h.l.length<=65536) (hj:h.l[j]? =some q) (ho:q.ow=some (75, .pointer (some ⟨p.b,0,none⟩))) (he:h.e=pmO p) (hwf:(Lit.int .i64 i).wf=true) (hF:p.tF i=some m) (ha:p.l[m]? =some a) (hn:a.n.size<=1048576):Calls prog 7 #[.pointer (some ⟨h.b,0,none⟩), .int .i64 ((j:Int)+1), .int .i64 i] w fun e w'=>e= .returned (.tuple #[.string a.n, .bool true, .int .i64 0])/\Below w.heap.size w w':=by
 obtain⟨g,c0,hlv⟩:=(H.pms he).at ha
 have HLV:=Ac hlv
 clear hlv
 have hjl:=(List.getElem?_eq_some_iff.1 ha).1
 obtain⟨q0,hq⟩: ∃q0,q0=0+m * 7:=⟨_,rfl⟩
 have HQ:=Ac hq
 clear hq
 have HC:=Lt a.n
 have HP_:=Ac (H.pms he)
 have HA:=Pj h j q p w H hl hj ho
 have r2:=iY hF
 have SS:=Ac (Sy.nil w [])
 clear H
 go_enter func7,ntmps7
 go_wp2_with fail
 refine HA.mono ?_
 rintro _ _ ⟨rfl,rfl⟩
 go_wp2_with (first|go_skip|((with_reducible show wpList ..);first|(refine rd rfl (Aj 84 isAgg84 rfl rfl ((Aa HP_).blk) rfl) ?_)|(refine rd rfl (Zx rfl rfl rfl (Aa HP_).ti hwf r2) ?_)|(refine rd rfl (Aj 82 isAgg82 rfl rfl ((Aa HP_).blk) rfl) ?_)|(refine rd rfl (Km q0 m rfl rfl (Aa HLV) rfl hjl (Aa HQ)) ?_)|(refine rd rfl (ex_ldS (p:=a) rfl rfl (Dy (Aa HQ) (Dp ((Aa HP_).on (Aa SS).fr.below).ro (Aa HLV) rfl ha))) ?_)))
 refine(HC _ hn).mono ?_
 rintro _ Y2 ⟨rfl,hb2⟩
 replace SS:=Ac ((Aa SS).on hb2)
 clear hb2
 go_wp2
 go_ret3
 exact⟨rfl,(Aa SS).fr.below⟩
theorem Yg (d:DD) (w:World) (hg:d.g.k=0):Calls prog 160 #[d.agg] w fun e w'=>e= .returned (.bool false)/\Below w.heap.size w w':=by
 have SS:=Ac (Sy.nil w [])
 rw[Em]
 go_enter func160,ntmps160
 go_wp2_with (first|go_skip|((with_reducible show wpList ..);first|(refine zB 29 (d.cs) (by rfl) rfl rfl rfl SS ?_;clear SS;intro Xa Ba SS;simp only[nn])|(refine rd rfl (Aj 3 isAgg3 rfl rfl ((Aa SS).hold 0 rfl) rfl) ?_)|(refine rd rfl (Ex rfl rfl rfl hg) ?_)))
 go_ret
 exact⟨rfl,(Aa SS).fr.below⟩
theorem open_h (v:VV) (w:World):Calls prog 159 #[v.agg] w fun e w'=>e= .returned ((opnD v).agg)/\Below w.heap.size w w':=by
 have SS:=Ac (Sy.nil w [])
 rw[Dk,Em]
 go_enter func159,ntmps159
 go_wp2_with (first|go_skip|((with_reducible show wpList ..);first|(refine zB 26 (v.cs) (by rfl) rfl rfl rfl SS ?_;clear SS;intro Xa Ba SS;simp only[nn])|(refine zA 29 (Bx.cs) (by rfl) rfl SS ?_;clear SS;intro Xb Bb SS;simp only[nn])|(refine zL (v.cs) 26 5 0 rwV szV (by rfl) rfl rfl SS rfl rfl rfl ?_;simp only[nn])|(refine rd rfl (ex_opn v rfl rfl rfl rfl rfl) ?_)|(refine zS ((opnD v).cs) 1 29 (by rfl) rfl rfl rfl rfl (Jg _) szD SS rfl ?_;clear SS;intro Xz SS;simp only[nn])))
 refine Vi rwD szD rfl rfl rfl ((Aa SS).hold 1 rfl) rfl ?_
 exact⟨rfl,(Aa SS).fr.below⟩
theorem Zb4 (h:HP) (d:DD) (r:VV) (w:World) (hg:d.g.k=0):Calls prog 158 #[.pointer (some ⟨h.b,0,none⟩),d.agg,r.agg] w fun e w'=>e= .returned (.tuple #[d.v.agg, .nilIface])/\Below w.heap.size w w':=by
 have SS:=Ac (Sy.nil w [])
 have HA:=fun X=>Yg d X hg
 simp only[Em] at HA
 rw[Dk,Dk,Em]
 go_enter func158,ntmps158
 go_wp2_with (first|go_skip|((with_reducible show wpList ..);first|(refine zB 29 (d.cs) (by rfl) rfl rfl rfl SS ?_;clear SS;intro Xa Ba SS;simp only[nn])|(refine zB 26 (r.cs) (by rfl) rfl rfl rfl SS ?_;clear SS;intro Xb Bb SS;simp only[nn])|(refine zA 26 (Bz.cs) (by rfl) rfl SS ?_;clear SS;intro Xc Bc SS;simp only[nn])|(refine zL (d.cs) 29 18 0 rwD szD (by rfl) rfl rfl SS rfl rfl rfl ?_;simp only[nn])))
 refine(HA _).mono ?_
 rintro _ Y1 ⟨rfl,hb1⟩
 replace SS:=Ac ((Aa SS).on hb1)
 clear hb1
 go_wp2_with (first|go_skip|((with_reducible show wpList ..);first|(refine zL (d.v.cs) 26 5 0 rwV szV (by rfl) rfl rfl SS rfl rfl rfl ?_;simp only[nn])|(refine zS (d.v.cs) 2 26 (by rfl) rfl rfl rfl rfl (Eb _) szV SS rfl ?_;clear SS;intro Xz SS;simp only[nn])))
 refine bodyPost_ret (Mo rwV szV rfl rfl rfl ((Aa SS).hold 2 rfl) rfl) rfl ?_
 exact⟨rfl,(Aa SS).fr.below⟩
theorem ordget_f (h:HP) (j:Nat) (q:OB) (k:KK) (r:VV) (w:World) (H:h.Is w) (hl:h.l.length<=65536) (hj:h.l[j]? =some q) (hk:OkK k) (hf:(q.T.find k).isSome=true) (hg:(getD q.T k).g.k=0):Calls prog 153 #[.agg #[], .pointer (some ⟨h.b,0,none⟩), .int .i64 ((j:Int)+1),k.agg,r.agg] w fun e w'=>e= .returned (.tuple #[(getD q.T k).v.agg, .nilIface])/\Below w.heap.size w w':=by
 have SS:=Ac (Sy.nil w [])
 have HO:=fun (X:World) (kx:Below w.heap.size w X)=>Zo h j q k X (H.on kx) hl hj hk
 rw[hf] at HO
 have HR:=fun X=>Zb4 h (getD q.T k) r X hg
 simp only[Ec,Em,Dk] at HO HR
 rw[Dk,Dk,Ec]
 clear H
 generalize getD q.T k=D at *
 go_enter func153,ntmps153
 go_wp2_with (first|go_skip|((with_reducible show wpList ..);first|((refine bx0 70 (by rfl) rfl rfl (Aa SS) ?_);intro X0 B0 S0;replace SS:=Ac S0;clear S0;simp only[nn])|(refine zB 42 (k.cs) (by rfl) rfl rfl rfl SS ?_;clear SS;intro Xa Ba SS;simp only[nn])|(refine zB 26 (r.cs) (by rfl) rfl rfl rfl SS ?_;clear SS;intro Xb Bb SS;simp only[nn])|(refine zA 26 (Bz.cs) (by rfl) rfl SS ?_;clear SS;intro Xc Bc SS;simp only[nn])|(refine zL (k.cs) 42 2 0 rwK szK (by rfl) rfl rfl SS rfl rfl rfl ?_;simp only[nn])))
 refine(HO _ (Aa SS).fr.below).mono ?_
 rintro _ Y1 ⟨rfl,hb1⟩
 replace SS:=Ac ((Aa SS).on hb1)
 clear hb1
 go_wp2_with (first|go_skip|((with_reducible show wpList ..);first|(refine zA 29 (Bx.cs) (by rfl) rfl SS ?_;clear SS;intro Xd Bd SS;simp only[nn])|(refine zS (D.cs) 3 29 (by rfl) rfl rfl rfl rfl (Jg _) szD SS rfl ?_;clear SS;intro Xy SS;simp only[nn])|(refine zL (D.cs) 29 18 3 rwD szD (by rfl) rfl rfl SS rfl rfl rfl ?_;simp only[nn])|(refine zL (r.cs) 26 5 1 rwV szV (by rfl) rfl rfl SS rfl rfl rfl ?_;simp only[nn])))
 refine(HR _).mono ?_
 rintro _ Y2 ⟨rfl,hb2⟩
 replace SS:=Ac ((Aa SS).on hb2)
 clear hb2
 go_wp2_with (first|go_skip|((with_reducible show wpList ..);first|(refine zS (D.v.cs) 2 26 (by rfl) rfl rfl rfl rfl (Eb _) szV SS rfl ?_;clear SS;intro Xz SS;simp only[nn])))
 refine bodyPost_ret (Mo rwV szV rfl rfl rfl ((Aa SS).hold 2 rfl) rfl) rfl ?_
 exact⟨rfl,(Aa SS).fr.below⟩
structure MO (h:HP) (j:Nat) (q:OB) (p:PM):Prop where
 hj:h.l[j]? =some q
 mm:q.m=true
 ow:q.ow=some (75, .pointer (some ⟨p.b,0,none⟩))
 e:h.e=pmO p
 x:q.x=true
 len:h.l.length<=65536
 la:q.T.last<=2000
structure MS (h:HP) (j:Nat) (q:OB) (p:PM) (i m:Nat) (a:PA) (u:VV):Prop where
 o:MO h j q p
 F:p.tF (i:Int)=some m
 pl:p.l[m]? =some a
 t:a.t=i
 i1:i<=1024
 el:lkP (pr q.T) (idxK i)=some (opnD u)
 ug:u.good=true
 u64:u.x<2^64
theorem MO.inn {h:HP} {j:Nat} {q:OB} {p:PM} (M:MO h j q p):MO h.inn j q p:=⟨M.hj,M.mm,M.ow,M.e,M.x,M.len,M.la⟩
theorem MS.inn {h:HP} {j:Nat} {q:OB} {p:PM} {i m:Nat} {a:PA} {u:VV} (M:MS h j q p i m a u):MS h.inn j q p i m a u:=⟨M.o.inn,M.F,M.pl,M.t,M.i1,M.el,M.ug,M.u64⟩
theorem MS.getD {h:HP} {j:Nat} {q:OB} {p:PM} {i m:Nat} {a:PA} {u:VV} (M:MS h j q p i m a u):getD q.T (idxK i)=opnD u/\(q.T.find (idxK i)).isSome=true:=Zbr M.el
theorem ZaR {v:VV} (h:v.x<2^64):FD (opnD v):=⟨h,show 0<2^64 by decide,show 0<2^64 by decide⟩
theorem mget_y (h:HP) (j:Nat) (q:OB) (p:PM) (i m:Nat) (a:PA) (r:VV) (w:World) (H:h.Is w) (M:MO h j q p) (hF:p.tF (i:Int)=some m) (ha:p.l[m]? =some a) (hi:i<=1000000):Calls prog 173 #[.agg #[], .pointer (some ⟨h.b,0,none⟩), .int .i64 ((j:Int)+1),(idxK i).agg,r.agg] w fun e w'=>e= .returned (.tuple #[a.v.agg, .nilIface])/\Below w.heap.size w w':=by
 have HP_:=Ac (H.pms M.e)
 obtain⟨g,c0,hlv⟩:=(H.pms M.e).at ha
 have HLV:=Ac hlv
 clear hlv
 have hjl:=(List.getElem?_eq_some_iff.1 ha).1
 obtain⟨q0,hq⟩: ∃q0,q0=0+m * 7:=⟨_,rfl⟩
 have HQ:=Ac hq
 clear hq
 have SS:=Ac (Sy.nil w [])
 have HT:=fun (X:World) (kx:Below w.heap.size w X)=>Yr h j q p (idxK i) i m X (H.on kx) M.len M.hj M.ow M.e (Lr hi) (Qg hi) hi hF
 simp only[Ec] at HT
 clear H M
 generalize idxK i=k at *
 rw[Dk,Dk,Ec]
 go_enter func173,ntmps173
 go_wp2_with (first|go_skip|((with_reducible show wpList ..);first|((refine Vw (by rfl) rfl rfl (Aa SS) ?_);intro X0 B0 S0;replace SS:=Ac S0;clear S0;simp only[nn])|(refine zB 42 (k.cs) (by rfl) rfl rfl rfl SS ?_;clear SS;intro Xa Ba SS;simp only[nn])|(refine zB 26 (r.cs) (by rfl) rfl rfl rfl SS ?_;clear SS;intro Xb Bb SS;simp only[nn])|(refine zA 26 (Bz.cs) (by rfl) rfl SS ?_;clear SS;intro Xc Bc SS;simp only[nn])|(refine rd rfl (ldA rfl rfl) ?_)|(refine zL (k.cs) 42 2 1 rwK szK (by rfl) rfl rfl SS rfl rfl rfl ?_;simp only[nn])))
 refine(HT _ (Aa SS).fr.below).mono ?_
 rintro _ Y1 ⟨rfl,hb1⟩
 replace SS:=Ac ((Aa SS).on hb1)
 clear hb1
 go_wp2_with (first|go_skip|((with_reducible show wpList ..);first|(refine rd rfl (Aj 82 isAgg82 rfl rfl (((Aa HP_).on (Aa SS).fr.below).blk) rfl) ?_)|(refine rd rfl (Km q0 m rfl rfl (Aa HLV) rfl hjl (Aa HQ)) ?_)|(refine rd rfl (ex_ldV (p:=a) rfl rfl (Dy (Aa HQ) (Dp ((Aa HP_).on (Aa SS).fr.below).ro (Aa HLV) rfl ha))) ?_)|(refine zS (a.v.cs) 3 26 (by rfl) rfl rfl rfl rfl (Eb _) szV SS rfl ?_;clear SS;intro Xz SS;simp only[nn])))
 refine bodyPost_ret (Mo rwV szV rfl rfl rfl ((Aa SS).hold 3 rfl) rfl) rfl ?_
 exact⟨rfl,(Aa SS).fr.below⟩
theorem mget_n (h:HP) (j:Nat) (q:OB) (p:PM) (i:Nat) (r:VV) (w:World) (H:h.Is w) (M:MO h j q p) (hF:p.tF (i:Int)=none) (hi:i<=1000000) (hf:(q.T.find (idxK i)).isSome=true) (hg:(getD q.T (idxK i)).g.k=0):Calls prog 173 #[.agg #[], .pointer (some ⟨h.b,0,none⟩), .int .i64 ((j:Int)+1),(idxK i).agg,r.agg] w fun e w'=>e= .returned (.tuple #[(getD q.T (idxK i)).v.agg, .nilIface])/\Below w.heap.size w w':=by
 have SS:=Ac (Sy.nil w [])
 have HT:=fun (X:World) (kx:Below w.heap.size w X)=>tie_n h j q p (idxK i) i X (H.on kx) M.len M.hj M.ow M.e (Lr hi) (Qg hi) hi hF
 have HG:=fun (X:World) (kx:Below w.heap.size w X)=>ordget_f h j q (idxK i) r X (H.on kx) M.len M.hj (Lf hi) hf hg
 simp only[Ec,Dk] at HT HG
 clear H M
 rw[Dk,Dk,Ec]
 generalize getD q.T (idxK i)=D at *
 generalize idxK i=k at *
 go_enter func173,ntmps173
 go_wp2_with (first|go_skip|((with_reducible show wpList ..);first|((refine Vw (by rfl) rfl rfl (Aa SS) ?_);intro X0 B0 S0;replace SS:=Ac S0;clear S0;simp only[nn])|(refine zB 42 (k.cs) (by rfl) rfl rfl rfl SS ?_;clear SS;intro Xa Ba SS;simp only[nn])|(refine zB 26 (r.cs) (by rfl) rfl rfl rfl SS ?_;clear SS;intro Xb Bb SS;simp only[nn])|(refine zA 26 (Bz.cs) (by rfl) rfl SS ?_;clear SS;intro Xc Bc SS;simp only[nn])|(refine rd rfl (ldA rfl rfl) ?_)|(refine zL (k.cs) 42 2 1 rwK szK (by rfl) rfl rfl SS rfl rfl rfl ?_;simp only[nn])))
 refine(HT _ (Aa SS).fr.below).mono ?_
 rintro _ Y1 ⟨rfl,hb1⟩
 replace SS:=Ac ((Aa SS).on hb1)
 clear hb1
 go_wp2_with (first|go_skip|((with_reducible show wpList ..);first|(refine rd rfl (Pu rfl rfl ((Aa SS).emp 0 rfl)) ?_)|(refine rd rfl (Pv rfl rfl ((Aa SS).emp 0 rfl)) ?_)|(refine rd rfl (ldE rfl rfl) ?_)|(refine zL (k.cs) 42 2 1 rwK szK (by rfl) rfl rfl SS rfl rfl rfl ?_;simp only[nn])|(refine zL (r.cs) 26 5 2 rwV szV (by rfl) rfl rfl SS rfl rfl rfl ?_;simp only[nn])))
 refine(HG _ (Aa SS).fr.below).mono ?_
 rintro _ Y2 ⟨rfl,hb2⟩
 replace SS:=Ac ((Aa SS).on hb2)
 clear hb2
 go_wp2_with (first|go_skip|((with_reducible show wpList ..);first|(refine zS (D.v.cs) 3 26 (by rfl) rfl rfl rfl rfl (Eb _) szV SS rfl ?_;clear SS;intro Xz SS;simp only[nn])))
 refine bodyPost_ret (Mo rwV szV rfl rfl rfl ((Aa SS).hold 3 rfl) rfl) rfl ?_
 exact⟨rfl,(Aa SS).fr.below⟩
theorem Vq {h:HP} {j:Nat} {q:OB} {p:PM} {i m:Nat} {a:PA} {u:VV} {d:DD} {h1:HP} {y:Bool} (M:MS h j q p i m a u) (hc:Eh d=0) (hP:Vc h j q (idxK i) d h1 y):y=true/\ ∃T':TT,h1=h.tab j q T'/\T'.last<=q.T.last+1/\pr T'=Mt (pr q.T) (idxK i) (Mj (opnD u) d):=by
 unfold Vc at hP
 rw[M.getD.1,(app_on M.ug hc).1,(app_on M.ug hc).2] at hP
 obtain⟨rfl,hP⟩:=hP
 rcases hP with ⟨h0,_⟩|⟨_,h2⟩
 ·cases h0
 ·exact⟨rfl,h2⟩
theorem mdef_y (h:HP) (j:Nat) (q:OB) (p:PM) (i m:Nat) (a:PA) (u:VV) (d:DD) (w:World) (H:h.Is w) (hT:Tabs w) (M:MS h j q p i m a u) (hc:Eh d=0) (hFd:FD d):Calls prog 171 #[.agg #[], .pointer (some ⟨h.b,0,none⟩), .int .i64 ((j:Int)+1),(idxK i).agg,d.agg] w fun e w'=> ∃T':TT,e= .returned (.tuple #[.bool true, .nilIface])/\T'.last<=q.T.last+1/\pr T'=Mt (pr q.T) (idxK i) (Mj (opnD u) d)/\h.To ((h.tab j q T').pm (p.follow m a d)) w w':=by
 have hi:i<=1000000:=Nat.le_trans M.i1 (by decide)
 have SS:=Ac H.start
 have HT:=fun (X:World) (kx:h.Is X)=>Yr h j q p (idxK i) i m X kx M.o.len M.o.hj M.o.ow M.o.e (Lr hi) (Qg hi) hi M.F
 have HD:=fun (X:World) (kx:h.To h w X)=>Oi h j q (idxK i) d X kx.is M.o.len M.o.hj (kx.tabs H hT) (Lf hi) (Kl hi) (by rw[M.getD.1];exact ZaR M.u64) hFd (by have:=M.o.la;omega)
 simp only[Ec,Em] at HT HD
 rw[Ec,Em]
 go_enter func171,ntmps171
 go_wp2_with (first|go_skip|((with_reducible show wpList ..);first|((refine Vw (by rfl) rfl rfl (Aa SS) ?_);intro X0 B0 S0;replace SS:=Ac S0;clear S0;simp only[nn])|(refine zB 42 ((idxK i).cs) (by rfl) rfl rfl rfl SS ?_;clear SS;intro Xa Ba SS;simp only[nn])|(refine zB 29 (d.cs) (by rfl) rfl rfl rfl SS ?_;clear SS;intro Xb Bb SS;simp only[nn])|(refine rd rfl (ldA rfl rfl) ?_)|(refine zL ((idxK i).cs) 42 2 2 rwK szK (by rfl) rfl rfl SS rfl rfl rfl ?_;simp only[nn])))
 refine(HT _ ((Aa SS).hp 0 rfl)).mono ?_
 rintro _ Y1 ⟨rfl,hb1⟩
 replace SS:=Ac ((Aa SS).on hb1)
 clear hb1
 go_wp2_with (first|go_skip|((with_reducible show wpList ..);first|(refine rd rfl (Pu rfl rfl ((Aa SS).emp 1 rfl)) ?_)|(refine rd rfl (Pv rfl rfl ((Aa SS).emp 1 rfl)) ?_)|(refine rd rfl (ldE rfl rfl) ?_)|(refine zL ((idxK i).cs) 42 2 2 rwK szK (by rfl) rfl rfl SS rfl rfl rfl ?_;simp only[nn])|(refine zL (d.cs) 29 18 3 rwD szD (by rfl) rfl rfl SS rfl rfl rfl ?_;simp only[nn])))
 refine(HD _ (HP.To.end H (Aa SS) rfl)).mono ?_
 rintro _ Y2 ⟨h1,y,rfl,hP,T1⟩
 obtain⟨rfl,T',rfl,hla,hpr⟩:=Vq M hc hP
 replace SS:=Ac ((Aa SS).heap 0 rfl T1)
 have HR:=Ac (And.intro hla hpr)
 clear T1 hla hpr hP
 go_wp2_with (first|go_skip|((with_reducible show wpList ..);first|(refine zL (d.cs) 29 18 3 rwD szD (by rfl) rfl rfl SS rfl rfl rfl ?_;simp only[nn])))
 have HF:=follow_h p m a d _ (((Aa SS).hp 0 rfl).pms M.o.e) M.pl (by rw[M.t];exact hi)
 rw[Em] at HF
 refine HF.mono ?_
 clear HF
 rintro _ Y3 ⟨rfl,A3⟩
 replace SS:=Ac ((Aa SS).heap 0 rfl (((Aa SS).hp 0 rfl).pto M.o.e A3))
 clear A3
 go_wp2
 go_ret2
 exact⟨T',rfl,(Aa HR).1,(Aa HR).2,HP.To.end H (Aa SS) rfl⟩
theorem mdel_y (h:HP) (j:Nat) (q:OB) (p:PM) (i m:Nat) (a:PA) (u:VV) (w:World) (H:h.Is w) (M:MS h j q p i m a u):Calls prog 172 #[.agg #[], .pointer (some ⟨h.b,0,none⟩), .int .i64 ((j:Int)+1),(idxK i).agg] w fun e w'=> ∃T':TT,e= .returned (.tuple #[.bool true, .nilIface])/\T'.last=q.T.last/\pr T'=delP (pr q.T) (idxK i)/\h.To ((h.tab j q T').pm (p.loose a.t)) w w':=by
 have hi:i<=1000000:=Nat.le_trans M.i1 (by decide)
 have SS:=Ac H.start
 have HT:=fun (X:World) (kx:h.Is X)=>Yr h j q p (idxK i) i m X kx M.o.len M.o.hj M.o.ow M.o.e (Lr hi) (Qg hi) hi M.F
 have HD:=fun (X:World) (kx:h.Is X)=>ZaQ h j q (idxK i) X kx M.o.len M.o.hj (Lf hi) (by have:=M.o.la;omega)
 simp only[Ec] at HT HD
 rw[Ec]
 go_enter func172,ntmps172
 go_wp2_with (first|go_skip|((with_reducible show wpList ..);first|((refine Vw (by rfl) rfl rfl (Aa SS) ?_);intro X0 B0 S0;replace SS:=Ac S0;clear S0;simp only[nn])|(refine zB 42 ((idxK i).cs) (by rfl) rfl rfl rfl SS ?_;clear SS;intro Xa Ba SS;simp only[nn])|(refine rd rfl (ldA rfl rfl) ?_)|(refine zL ((idxK i).cs) 42 2 2 rwK szK (by rfl) rfl rfl SS rfl rfl rfl ?_;simp only[nn])))
 refine(HT _ ((Aa SS).hp 0 rfl)).mono ?_
 rintro _ Y1 ⟨rfl,hb1⟩
 replace SS:=Ac ((Aa SS).on hb1)
 clear hb1
 go_wp2_with (first|go_skip|((with_reducible show wpList ..);first|(refine rd rfl (Pu rfl rfl ((Aa SS).emp 1 rfl)) ?_)|(refine rd rfl (Pv rfl rfl ((Aa SS).emp 1 rfl)) ?_)|(refine rd rfl (ldE rfl rfl) ?_)|(refine zL ((idxK i).cs) 42 2 2 rwK szK (by rfl) rfl rfl SS rfl rfl rfl ?_;simp only[nn])))
 refine(HD _ ((Aa SS).hp 0 rfl)).mono ?_
 rintro _ Y2 ⟨h1,y,rfl,hP,T1⟩
 obtain⟨rfl,T',rfl,hla,hpr⟩:y=true/\ ∃T':TT,h1=h.tab j q T'/\T'.last=q.T.last/\pr T'=delP (pr q.T) (idxK i):=by
  have hs:=M.getD
  rcases hP with ⟨h0,_⟩|⟨_,h0,_⟩|⟨_,_,h0,h2⟩
  ·rw[h0] at hs;cases hs.2
  ·rw[hs.1] at h0;cases h0
  ·exact⟨h0,h2⟩
 replace SS:=Ac ((Aa SS).heap 0 rfl T1)
 have HR:=Ac (And.intro hla hpr)
 clear T1 hla hpr hP
 go_wp2_with fail
 refine(Mx p m a _ (((Aa SS).hp 0 rfl).pms M.o.e) M.pl (by rw[M.t];exact hi)).mono ?_
 rintro _ Y3 ⟨rfl,A3⟩
 replace SS:=Ac ((Aa SS).heap 0 rfl (((Aa SS).hp 0 rfl).pto M.o.e A3))
 clear A3
 go_wp2
 go_ret2
 exact⟨T',rfl,(Aa HR).1,(Aa HR).2,HP.To.end H (Aa SS) rfl⟩
theorem ex_bUn {o:Oper} {a:Act} {w:World} (ho:o.op= .build 72 #[]):(execOp a.eval o).run prog w= .ok (.value (.agg #[])) w:=by
 have e:(Instr.build 72 #[]).run prog w= .ok (.agg #[]) w:=by kernel_rfl
 unfold execOp
 simp only[ho]
 simp[e]
theorem ZbB {o:Oper} {a:Act} {w:World} {x:Operand} (v:VV) (ho:o.op= .build 29 #[(0,x)]) (hx:a.eval x= .agg v.cs.toArray):(execOp a.eval o).run prog w= .ok (.value (.agg (Mm v).cs.toArray)) w:=by
 have e:(Instr.build 29 #[(0, .agg v.cs.toArray)]).run prog w= .ok (.agg (Mm v).cs.toArray) w:=by kernel_rfl
 unfold execOp
 simp only[ho,List.map_toArray,List.map_cons,List.map_nil,hx]
 simp[e]
section
variable {ops : Array Oper} {rest : List Oper} {Q : Exit → Act → World → Prop} {w w0 : World} {a : Act} {o : Oper} {E : List Nat} {L : List Ob}
theorem stHP {h:HP} {p:PM} {g c n q:Nat} {a0:PA} {v:VV} {x y:Operand} (i:Nat) (hw:Region.wanted o (yielded ops a.tmps)=true) (ho:o.op= .store 26 x y) (hx:a.eval x= .pointer (some ⟨g,q+1,none⟩)) (hy:a.eval y= .agg v.cs.toArray) (hL:Sy w0 w E L) (hg:L[i]? =some (hpO h)) (he:h.e=pmO p) (hlv:p.lv= .slice (some ⟨g,0,none⟩) p.l.length c) (hj:p.l[n]? =some a0) (hq:q=0+n * 7)
  (hh: ∀X,Sy w0 X E (L.set i (hpO (h.pm (p.val n ⟨a0.n,v,a0.t⟩))))->wpList prog ops Q rest (a.put o.dst undef) X):wpList prog ops Q (o::rest) a w:=by
 refine BigFrame.wpList_want hw fun K hK=> ?_
 have H:=hL.hp i hg
 have P:=H.pms he
 obtain⟨X,hS,hrun⟩:=Sy.cellX (x':=⟨a0.n,v,a0.t⟩) (vs:=v.cs) (pp:=1) (q:=q+1) P.sy 1 hlv rfl rfl hj (by simp[VV.cs]) (by simp[Dq,PA.cs,VV.cs]) (by rw[hq])
 have hP:=hK _ _ (hh _ (hL.heap i hg (H.pto he (Ox (M:= []) hS))))
 unfold Oper.wp
 rw[hrun ho hx hy rfl (Eb _) szV]
 exact hP
theorem bsE2 {x0 x1:Operand} {e0 e1:Int} (hw:Region.wanted o (yielded ops a.tmps)=true) (ho:o.op= .buildSlice 100 2 #[(0,x0),(1,x1)]) (h0:a.eval x0= .int .i64 e0) (h1:a.eval x1= .int .i64 e1) (hL:Sy w0 w E L)
  (h: ∀X B,Sy w0 X E (L++ [Al B (Lq [e0,e1])])->wpList prog ops Q rest (a.put o.dst (.slice (some ⟨B,0,none⟩) 2 2)) X):wpList prog ops Q (o::rest) a w:=by
 refine BigFrame.wpList_want hw fun K hK=> ?_
 have hP:=hK _ _ (h _ _ (hL.box (Lq [e0,e1]) 32 (Nat.succ_pos _)))
 unfold Oper.wp
 rw[ZbD ho h0 h1]
 exact hP
end
theorem MS.val {h:HP} {j:Nat} {q:OB} {p:PM} {i m:Nat} {a:PA} {u:VV} (M:MS h j q p i m a u) (v:VV):MS (h.pm (p.val m ⟨a.n,v,a.t⟩)) j q (p.val m ⟨a.n,v,a.t⟩) i m ⟨a.n,v,a.t⟩ u:=
 ⟨⟨M.o.hj,M.o.mm,M.o.ow,rfl,M.o.x,M.o.len,M.o.la⟩,M.F,List.getElem?_set_self (List.getElem?_eq_some_iff.1 M.pl).1,M.t,M.i1,M.el,M.ug,M.u64⟩
theorem MS.tabs {h:HP} {j:Nat} {q:OB} {p:PM} {i m:Nat} {a:PA} {u v:VV} {T':TT} (M:MS h j q p i m a u) (hv:v.good=true) (hx:v.x<2^64) (hla:T'.last<=2000) (hp:pr T'=Mt (pr q.T) (idxK i) (opnD v)):MS (h.tab j q T') j {q with T:=T'} p i m a v:=
 ⟨⟨Mn M.o.hj T',M.o.mm,M.o.ow,M.o.e,M.o.x,by rw[Jh];exact M.o.len,hla⟩,M.F,M.pl,M.t,M.i1,by rw[hp,Qd,if_pos rfl],hv,hx⟩
theorem val_FD {v:VV} (h:v.x<2^64):FD (Mm v):=⟨h,show 0<2^64 by decide,show 0<2^64 by decide⟩
theorem give_h (h:HP) (j:Nat) (q:OB) (p:PM) (i m:Nat) (a:PA) (u:VV) (v:VV) (w:World) (H:h.Is w) (hT:Tabs w) (M:MS h j q p i m a u) (hv:v.good=true) (hx:v.x<2^64):Calls prog 49 #[.pointer (some ⟨p.b,0,none⟩), .pointer (some ⟨h.b,0,none⟩), .int .i64 ((j:Int)+1), .int .i64 (m:Nat),v.agg] w fun e w'=> ∃T':TT,e= .returned (.tuple #[])/\T'.last<=q.T.last+1/\pr T'=Mt (pr q.T) (idxK i) (opnD v)/\h.To ((h.pm (p.val m ⟨a.n,v,a.t⟩)).tab j q T') w w':=by
 have hi:i<=1000000:=Nat.le_trans M.i1 (by decide)
 obtain⟨g,c0,hlv⟩:=(H.pms M.o.e).at M.pl
 have HLV:=Ac hlv
 have HLV1:Hid ((p.val m ⟨a.n,v,a.t⟩).lv= .slice (some ⟨g,0,none⟩) (p.val m ⟨a.n,v,a.t⟩).l.length c0):=Ac (by show p.lv= .slice _ (p.l.set m _).length c0;rw[List.length_set];exact hlv)
 clear hlv
 have hjl:=(List.getElem?_eq_some_iff.1 M.pl).1
 obtain⟨q0,hq⟩: ∃q0,q0=0+m * 7:=⟨_,rfl⟩
 have HQ:=Ac hq
 clear hq
 have hj1:(p.val m ⟨a.n,v,a.t⟩).l[m]? =some ⟨a.n,v,a.t⟩:=List.getElem?_set_self hjl
 have hwf:(Lit.int .i64 (a.t:Int)).wf=true:=Rk (by rw[M.t];exact hi)
 have r2:=iY (F:=(p.val m ⟨a.n,v,a.t⟩).tF) (s:=(a.t:Int)) (n:=m) (by rw[M.t];exact M.F)
 have hi32:a.t<=4294967295:=by rw[M.t];omega
 have HFI:=Nc a.t hi32
 rw[show (⟨Ou a.t,0⟩:KK)=idxK i by rw[M.t];rfl] at HFI
 have hFn:FD (getD q.T (idxK i)):=by rw[M.getD.1];exact ZaR M.u64
 have hFd:=val_FD hx
 have SS:=Ac H.start
 rw[Dk]
 go_enter func49,ntmps49
 go_wp2_with (first|go_skip|((with_reducible show wpList ..);first|(refine zB 26 (v.cs) (by rfl) rfl rfl rfl SS ?_;clear SS;intro Xv Bv SS;simp only[nn])|(refine rd rfl (Aj 82 isAgg82 rfl rfl ((((Aa SS).hp 0 rfl).pms M.o.e).blk) rfl) ?_)|(refine rd rfl (Km q0 m rfl rfl (Aa HLV) rfl hjl (Aa HQ)) ?_)|(refine zL (v.cs) 26 5 1 rwV szV (by rfl) rfl rfl SS rfl rfl rfl ?_;simp only[nn])|((refine stHP (v:=v) (a0:=a) 0 (by rfl) rfl rfl rfl (Aa SS) rfl M.o.e (Aa HLV) M.pl (Aa HQ) ?_);intro X5 S5;replace SS:=Ac S5;clear S5;simp only[nn])))
 have hS3:Sy w _ h.blocks [hpO (h.pm (p.val m ⟨a.n,v,a.t⟩)),Al Bv v.cs]:=(Aa SS).drew
 clear SS
 refine wp_region_held_drew (P:=prog) (S:=fun X=>Sy w X h.blocks _) (by kernel_rfl) (hS3) (fun hS0=> ?_)
 refine gp 0 (some 24) (.pointer (some ⟨p.b,0,none⟩)) rfl rfl (hS3) ?_
 refine gp 1 (some 25) (.pointer (some ⟨p.b,0,none⟩)) rfl rfl (hS3) ?_
 refine gp 2 (some 26) (.pointer (some ⟨p.b,2,none⟩)) rfl rfl (hS3) ?_
 refine gq 3 (some 27) (.map (some p.tb)) rfl rfl (fun X hX=>Aj 84 isAgg84 rfl rfl ((hX.hp 0 rfl).pms (p:=p.val m ⟨a.n,v,a.t⟩) rfl).blk rfl) (hS3) ?_
 refine gp 4 (some 28) (.pointer (some ⟨g,q0,none⟩)) rfl rfl (hS3) ?_
 refine gp 5 (some 29) (.pointer (some ⟨g,q0,none⟩)) rfl rfl (hS3) ?_
 refine gp 6 (some 30) (.pointer (some ⟨g,q0+6,none⟩)) rfl rfl (hS3) ?_
 refine gq 7 (some 31) (.int .i64 (a.t:Nat)) rfl rfl (fun X hX=>Qj (p:=⟨a.n,v,a.t⟩) rfl rfl (Dy (Aa HQ) (Dp ((hX.hp 0 rfl).pms (p:=p.val m ⟨a.n,v,a.t⟩) rfl).ro (Aa HLV1) rfl hj1))) (hS3) ?_
 refine gq 8 (some 32) (.tuple #[.int .i64 (m:Nat), .bool true]) rfl rfl (fun X hX=>Zx rfl rfl rfl ((hX.hp 0 rfl).pms (p:=p.val m ⟨a.n,v,a.t⟩) rfl).ti hwf r2) (hS3) ?_
 refine gp 9 (some 23) (.tuple #[.int .i64 (m:Nat), .bool true]) rfl rfl (hS3) ?_
 refine gp 10 (some 33) (.int .i64 (m:Nat)) rfl rfl (hS3) ?_
 refine gp 11 (some 34) (.bool true) rfl rfl (hS3) ?_
 refine gp 12 (some 11) (.int .i64 (m:Nat)) rfl rfl (hS3) ?_
 refine gp 13 (some 12) (.bool true) rfl rfl (hS3) ?_
 refine wpAnyH_done (by kernel_rfl) ?_ _
 try simp only[nn]
 have SS:=Ac hS3
 go_wp2
 have hS5:Sy w _ h.blocks [hpO (h.pm (p.val m ⟨a.n,v,a.t⟩)),Al Bv v.cs]:=(Aa SS).drew
 clear SS
 refine wp_region_held_drew (P:=prog) (S:=fun X=>Holds X Bv v.cs/\X.rangeAt g q0 (PA.cs ⟨a.n,v,a.t⟩)) (by kernel_rfl) (⟨hS5.hold 1 rfl,Dy (Aa HQ) (Dp ((hS5.hp 0 rfl).pms (p:=p.val m ⟨a.n,v,a.t⟩) rfl).ro (Aa HLV1) rfl hj1)⟩) (fun hS0=> ?_)
 refine gq 0 (some 36) (.agg #[]) rfl rfl (fun X hX=>ex_bUn rfl) (⟨hS5.hold 1 rfl,Dy (Aa HQ) (Dp ((hS5.hp 0 rfl).pms (p:=p.val m ⟨a.n,v,a.t⟩) rfl).ro (Aa HLV1) rfl hj1)⟩) ?_
 refine gp 1 (some 37) (.pointer (some ⟨h.b,0,none⟩)) rfl rfl (⟨hS5.hold 1 rfl,Dy (Aa HQ) (Dp ((hS5.hp 0 rfl).pms (p:=p.val m ⟨a.n,v,a.t⟩) rfl).ro (Aa HLV1) rfl hj1)⟩) ?_
 refine gp 2 (some 38) (.int .i64 ((j:Int)+1)) rfl rfl (⟨hS5.hold 1 rfl,Dy (Aa HQ) (Dp ((hS5.hp 0 rfl).pms (p:=p.val m ⟨a.n,v,a.t⟩) rfl).ro (Aa HLV1) rfl hj1)⟩) ?_
 refine gp 3 (some 39) (.pointer (some ⟨g,q0,none⟩)) rfl rfl (⟨hS5.hold 1 rfl,Dy (Aa HQ) (Dp ((hS5.hp 0 rfl).pms (p:=p.val m ⟨a.n,v,a.t⟩) rfl).ro (Aa HLV1) rfl hj1)⟩) ?_
 refine gp 4 (some 40) (.pointer (some ⟨g,q0,none⟩)) rfl rfl (⟨hS5.hold 1 rfl,Dy (Aa HQ) (Dp ((hS5.hp 0 rfl).pms (p:=p.val m ⟨a.n,v,a.t⟩) rfl).ro (Aa HLV1) rfl hj1)⟩) ?_
 refine gp 5 (some 41) (.pointer (some ⟨g,q0+6,none⟩)) rfl rfl (⟨hS5.hold 1 rfl,Dy (Aa HQ) (Dp ((hS5.hp 0 rfl).pms (p:=p.val m ⟨a.n,v,a.t⟩) rfl).ro (Aa HLV1) rfl hj1)⟩) ?_
 refine gq 6 (some 42) (.int .i64 (a.t:Nat)) rfl rfl (fun X hX=>Qj (p:=⟨a.n,v,a.t⟩) rfl rfl hX.2) (⟨hS5.hold 1 rfl,Dy (Aa HQ) (Dp ((hS5.hp 0 rfl).pms (p:=p.val m ⟨a.n,v,a.t⟩) rfl).ro (Aa HLV1) rfl hj1)⟩) ?_
 refine gq 7 (some 43) (.int .u32 (a.t:Nat)) rfl rfl (fun X hX=>Za0 rfl rfl hi32) (⟨hS5.hold 1 rfl,Dy (Aa HQ) (Dp ((hS5.hp 0 rfl).pms (p:=p.val m ⟨a.n,v,a.t⟩) rfl).ro (Aa HLV1) rfl hj1)⟩) ?_
 refine gq 9 (some 45) (.agg v.cs.toArray) rfl rfl (fun X hX=>Ax (vs:=v.cs) 26 5 rwV szV rfl rfl hX.1 rfl rfl) (⟨hS5.hold 1 rfl,Dy (Aa HQ) (Dp ((hS5.hp 0 rfl).pms (p:=p.val m ⟨a.n,v,a.t⟩) rfl).ro (Aa HLV1) rfl hj1)⟩) ?_
 refine gq 10 (some 46) (.agg (Mm v).cs.toArray) rfl rfl (fun X hX=>ZbB v rfl rfl) (⟨hS5.hold 1 rfl,Dy (Aa HQ) (Dp ((hS5.hp 0 rfl).pms (p:=p.val m ⟨a.n,v,a.t⟩) rfl).ro (Aa HLV1) rfl hj1)⟩) ?_
 refine gr (rs:= [8]) (gc 8 (some 44) rfl rfl (HFI _ (hT.fr hS5.fr H.low).2) ?_ gn)
 rintro e Yu1 ⟨rfl,hYu1⟩
 have hqu1:=Sy.on hS5 hYu1
 refine⟨_,rfl,⟨hqu1.hold 1 rfl,Dy (Aa HQ) (Dp ((hqu1.hp 0 rfl).pms (p:=p.val m ⟨a.n,v,a.t⟩) rfl).ro (Aa HLV1) rfl hj1)⟩, ?_⟩
 simp only[nn]
 refine gr (rs:= [11]) (gc 11 (some 47) rfl rfl (Zbs (h.pm (p.val m ⟨a.n,v,a.t⟩)) j q (idxK i) (Mm v) _ (hqu1.hp 0 rfl) M.o.len M.o.hj (hT.fr hqu1.fr H.low) (Lf hi) (Kl hi) hFn hFd (by have:=M.o.la;omega)) ?_ gn)
 rintro e Yu2 ⟨h1,y,rfl,hP,T3⟩
 obtain⟨rfl,T',rfl,hla,hpr⟩:=Vq (M.val v) (Zbj hv) hP
 have hqp:=Sy.heap hqu1 0 rfl T3
 refine⟨_,rfl,⟨hqp.hold 1 rfl,Dy (Aa HQ) (Dp ((hqp.hp 0 rfl).pms (p:=p.val m ⟨a.n,v,a.t⟩) rfl).ro (Aa HLV1) rfl hj1)⟩, ?_⟩
 refine wpAnyH_done (by kernel_rfl) ?_ _
 try simp only[nn]
 have SS:=Ac hqp
 rw[ZbN M.ug hv] at hpr
 have HR:=Ac (And.intro hla hpr)
 clear hqp T3 hla hpr
 go_wp2
 refine bodyPost_end (results_none rfl _ _ _) rfl ?_
 exact⟨T',rfl,(Aa HR).1,(Aa HR).2,HP.To.end H (Aa SS) rfl⟩
theorem ZbZ (h:HP) (j:Nat) (q:OB) (p:PM) (i m:Nat) (a:PA) (u:VV) (s:ByteArray) (v:VV) (w:World) (H:h.Is w) (hT:Tabs w) (M:MS h j q p i m a u) (hs:s.size<=1048576) (hF:p.pF s=some m) (hv:v.good=true) (hx:v.x<2^64) (hc:Aq h.l.length v=0):Calls prog 19 #[.pointer (some ⟨h.b,0,none⟩), .int .i64 ((j:Int)+1), .string s,v.agg] w fun e w'=> ∃T':TT,e= .returned (.int .i64 0)/\T'.last<=q.T.last+1/\pr T'=Mt (pr q.T) (idxK i) (opnD v)/\h.To ((h.pm (p.val m ⟨a.n,v,a.t⟩)).tab j q T') w w':=by
 have SS:=Ac H.start
 have HA:=fun (X:World) (kx:h.Is X)=>slot_h h j q p s m X kx M.o.len M.o.hj M.o.ow M.o.e hs hF
 have HC:=fun (X:World) (kx:h.To h w X)=>Jy h v X kx.is (kx.tabs H hT).1
 rw[hc] at HC
 have HG:=fun (X:World) (kx:h.To h w X)=>give_h h j q p i m a u v X kx.is (kx.tabs H hT) M hv hx
 simp only[Dk] at HC HG
 rw[Dk]
 go_enter func19,ntmps19
 go_wp2_with (first|go_skip|((with_reducible show wpList ..);first|(refine zB 26 (v.cs) (by rfl) rfl rfl rfl SS ?_;clear SS;intro Xv Bv SS;simp only[nn])))
 refine(HA _ ((Aa SS).hp 0 rfl)).mono ?_
 rintro _ _ ⟨rfl,rfl⟩
 go_wp2_with (first|go_skip|((with_reducible show wpList ..);first|(refine zL (v.cs) 26 5 1 rwV szV (by rfl) rfl rfl SS rfl rfl rfl ?_;simp only[nn])))
 refine(HC _ (HP.To.end H (Aa SS) rfl)).mono ?_
 rintro _ Y2 ⟨rfl,hb2⟩
 replace SS:=Ac ((Aa SS).on hb2)
 clear hb2
 go_wp2_with (first|go_skip|((with_reducible show wpList ..);first|((refine bsE2 (by rfl) rfl rfl rfl (Aa SS) ?_);intro X5 B5 S5;replace SS:=Ac S5;clear S5;simp only[nn])))
 refine(Dc B5 2 [0,0] _ ((Aa SS).hold 2 rfl) (by simp)).mono ?_
 rintro _ _ ⟨rfl,rfl⟩
 rw[show orE [0,0]=0 from rfl]
 go_wp2_with (first|go_skip|((with_reducible show wpList ..);first|(refine zL (v.cs) 26 5 1 rwV szV (by rfl) rfl rfl SS rfl rfl rfl ?_;simp only[nn])))
 refine(HG _ (HP.To.end H (Aa SS) rfl)).mono ?_
 rintro _ Y3 ⟨T',rfl,hla,hpr,T3⟩
 replace SS:=Ac ((Aa SS).heap 0 rfl T3)
 have HR:=Ac (And.intro hla hpr)
 clear T3 hla hpr
 go_wp2
 go_ret
 exact⟨T',rfl,(Aa HR).1,(Aa HR).2,HP.To.end H (Aa SS) rfl⟩
def Yo (a b:VV):Bool:=decide (a.k=b.k) && (decide (a.b=b.b) && ((FloatKind.f64.format.order a.x b.x==some .eq) && (decide (a.s.toList=b.s.toList) && decide (a.i=b.i))))
theorem eqlV (a b:VV) (w:World):(binOp .eql 26 a.agg b.agg).run prog w= .ok (.bool (Yo a b)) w:=by
 unfold VV.agg Yo
 have ht:prog.underlying 26=some (.struct (prog.fieldsOf 26)):=by kernel_rfl
 have hf:prog.fieldsOf 26=(match prog.underlying 26 with|some (.struct f)=>f|_=> #[]):=by kernel_rfl
 rw[run_eql_struct,show (10000:Nat)=9998+1+1 from rfl,run_equalIn_struct _ _ _ _ _ ht (by kernel_rfl)]
 rw[hf,underlying26]
 have hc:=Ji (P:=prog) 9998 24 a.x b.x w underlying24
 generalize (FloatKind.f64.format.order a.x b.x==some .eq)=c at *
 simp[Op.eqFields,go_sem,part,hc]
 by_cases h1:a.k=b.k<;>by_cases h2:a.b=b.b<;>cases c<;>by_cases h3:a.s.toList=b.s.toList<;>by_cases h4:a.i=b.i<;>simp[h1,h2,h3,h4]
theorem ex_eqV {o:Oper} {a:Act} {w:World} {x y:Operand} {p q:VV} (ho:o.op= .binOp .eql 26 x y 26) (hx:a.eval x= .agg p.cs.toArray) (hc:a.eval y= .agg q.cs.toArray):(execOp a.eval o).run prog w= .ok (.value (.bool (Yo p q))) w:=by
 have h2:=eqlV p q w
 rw[Dk,Dk] at h2
 unfold execOp
 simp only[ho,hx,hc]
 simp[eqGuard,h2]
theorem good_k {v:VV} (h:v.good=true):v.k≠0:=fun hk=>by
 unfold VV.good Ef inG at h
 simp[hk] at h
theorem ZaX {p:PM} {m:Nat} {a:PA} {v:VV} (h:v.good=true):p.follow m a (Mm v)=p.val m ⟨a.n,v,a.t⟩:=by
 unfold PM.follow
 rw[if_neg (by simp[Qo,Mm,Bz]),if_neg (show ¬(Mm v).v.k=0 from good_k h)]
 rfl
theorem HP.Ok.less {h:HP} (K:h.Ok) (hf:1<=h.fuel):h.less.Ok:=⟨K.len,show 0<=h.fuel - 1 by omega,show h.fuel - 1<=_ by have:=K.f1;omega,K.e0,K.e1,K.d1⟩
theorem HP.Ok.inn {h:HP} (K:h.Ok) (hf:1<=h.fuel) (hd:h.ent≠h.depth):h.inn.Ok:=⟨K.len,show 0<=h.fuel - 1 by omega,show h.fuel - 1<=_ by have:=K.f1;omega,show 0<=h.ent+1 by have:=K.e0;omega,show h.ent+1<=h.depth by have:=K.e1;omega,K.d1⟩
theorem MS.less {h:HP} {j:Nat} {q:OB} {p:PM} {i m:Nat} {a:PA} {u:VV} (M:MS h j q p i m a u):MS h.less j q p i m a u:=⟨⟨M.o.hj,M.o.mm,M.o.ow,M.o.e,M.o.x,M.o.len,M.o.la⟩,M.F,M.pl,M.t,M.i1,M.el,M.ug,M.u64⟩
theorem out_tp (h:HP) (j:Nat) (q:OB) (T':TT) (p:PM):((h.inn.tab j q T').pm p).out=(h.less.tab j q T').pm p:=by
 unfold HP.inn HP.out HP.less HP.tab HP.pm
 simp
theorem out_t (h:HP) (j:Nat) (q:OB) (T':TT):(h.inn.tab j q T').out=h.less.tab j q T':=by
 unfold HP.inn HP.out HP.less HP.tab
 simp
def Zbg (h:HP) (j:Nat) (q:OB) (p:PM) (i m:Nat) (a:PA) (v:VV) (h1:HP):Prop:= ∃T':TT,T'.last<=q.T.last+1/\pr T'=Mt (pr q.T) (idxK i) (opnD v)/\h1=(h.less.less.tab j q T').pm (p.val m ⟨a.n,v,a.t⟩)
theorem Za3 (h:HP) (j:Nat) (q:OB) (p:PM) (i m:Nat) (a:PA) (u:VV) (v:VV) (w:World) (H:h.Is w) (hT:Tabs w) (K:h.Ok) (M:MS h j q p i m a u) (hf:h.fuel≠0) (hd:h.ent≠h.depth) (hv:v.good=true) (hx:v.x<2^64):Calls prog 41 #[.pointer (some ⟨h.b,0,none⟩), .int .i64 ((j:Int)+1),(idxK i).agg,(Mm v).agg] w fun e w'=> ∃T':TT,e= .returned (.tuple #[.bool true, .nilIface])/\T'.last<=q.T.last+1/\pr T'=Mt (pr q.T) (idxK i) (opnD v)/\h.To ((h.less.tab j q T').pm (p.val m ⟨a.n,v,a.t⟩)) w w':=by
 refine(Jp h j q (idxK i) (Mm v) (fun h1 y er=>y=true/\er= .nilIface/\ ∃T':TT,T'.last<=q.T.last+1/\pr T'=Mt (pr q.T) (idxK i) (opnD v)/\h1=(h.inn.tab j q T').pm (p.val m ⟨a.n,v,a.t⟩)) w H K M.o.hj M.o.mm hf hd (fun X TX=> ?_)).mono ?_
 ·refine(mdef_y h.inn j q p i m a u (Mm v) X TX.is (TX.tabs H hT) M.inn (Zbj hv) (val_FD hx)).mono ?_
  rintro e Y ⟨T',rfl,h1,h2,h3⟩
  rw[ZbN M.ug hv] at h2
  rw[ZaX hv] at h3
  exact⟨_,true, .nilIface,rfl,⟨rfl,rfl,T',h1,h2,rfl⟩,rfl,h3⟩
 ·rintro e Y ⟨h1,y,er,rfl,⟨rfl,rfl,T',h2,h3,rfl⟩,h4⟩
  rw[out_tp] at h4
  exact⟨T',rfl,h2,h3,h4⟩
theorem ZbF (h:HP) (j:Nat) (q:OB) (k:KK) (w:World) (H:h.Is w) (K:h.Ok) (hj:h.l[j]? =some q) (hk:OkK k) (hf:h.fuel≠0) (hd:h.ent≠h.depth):Calls prog 168 #[.pointer (some ⟨h.b,0,none⟩), .int .i64 ((j:Int)+1),k.agg] w fun e w'=>e= .returned (.tuple #[(getD q.T k).agg, .bool (q.T.find k).isSome, .nilIface])/\h.To h.less w w':=by
 refine(Oq h j q k (fun h1 V y er=>h1=h.inn/\V=getD q.T k/\y=(q.T.find k).isSome/\er= .nilIface) w H K hj hf hd (fun X TX=> ?_)).mono ?_
 ·refine(Yb h.inn j q k X TX.is K.len hj hk).mono ?_
  rintro e Y ⟨rfl,hb⟩
  exact⟨h.inn,_,_,_,rfl,⟨rfl,rfl,rfl,rfl⟩,rfl,HP.To.refl TX.is hb⟩
 ·rintro e Y ⟨h1,V,y,er,rfl,⟨rfl,rfl,rfl,rfl⟩,h4⟩
  rw[Yd] at h4
  exact⟨rfl,h4⟩
theorem ZaD (h:HP) (j:Nat) (q:OB) (p:PM) (i m:Nat) (a:PA) (u:VV) (v:VV) (w:World) (H:h.Is w) (hT:Tabs w) (K:h.Ok) (M:MS h j q p i m a u) (hf:2<=h.fuel) (hd:h.ent≠h.depth) (hv:v.good=true) (hx:v.x<2^64):Calls prog 162 #[.pointer (some ⟨h.b,0,none⟩), .int .i64 ((j:Int)+1),(idxK i).agg,v.agg] w fun e w'=> ∃h1:HP,e= .returned (.tuple #[.bool true, .nilIface])/\Zbg h j q p i m a v h1/\h.To h1 w w':=by
 have hi:i<=1000000:=Nat.le_trans M.i1 (by decide)
 have SS:=Ac H.start
 have HO:=fun (X:World) (kx:h.Is X)=>ZbF h j q (idxK i) X kx K M.o.hj (Lf hi) (by omega) hd
 rw[M.getD.1,M.getD.2] at HO
 have HA:=fun X=>Yg (opnD u) X rfl
 have HD:=fun (X:World) (kx:h.To h.less w X)=>Za3 h.less j q p i m a u v X kx.is (kx.tabs H hT) (K.less (by omega)) M.less (show h.fuel - 1≠0 by omega) hd hv hx
 rw[show h.less.b=h.b from rfl] at HD
 simp only[Ec,Em] at HO HA HD
 rw[Ec,Dk]
 go_enter func162,ntmps162
 go_wp2_with (first|go_skip|((with_reducible show wpList ..);first|(refine zB 42 ((idxK i).cs) (by rfl) rfl rfl rfl SS ?_;clear SS;intro Xa Ba SS;simp only[nn])|(refine zB 26 (v.cs) (by rfl) rfl rfl rfl SS ?_;clear SS;intro Xb Bb SS;simp only[nn])|(refine zL ((idxK i).cs) 42 2 1 rwK szK (by rfl) rfl rfl SS rfl rfl rfl ?_;simp only[nn])))
 refine(HO _ ((Aa SS).hp 0 rfl)).mono ?_
 rintro _ Y1 ⟨rfl,T1⟩
 replace SS:=Ac ((Aa SS).heap 0 rfl T1)
 clear T1
 go_wp2_with (first|go_skip|((with_reducible show wpList ..);first|(refine zA 29 (Bx.cs) (by rfl) rfl SS ?_;clear SS;intro Xd Bd SS;simp only[nn])|(refine zS ((opnD u).cs) 3 29 (by rfl) rfl rfl rfl rfl (Jg _) szD SS rfl ?_;clear SS;intro Xy SS;simp only[nn])|(refine zL ((opnD u).cs) 29 18 3 rwD szD (by rfl) rfl rfl SS rfl rfl rfl ?_;simp only[nn])))
 refine(HA _).mono ?_
 rintro _ Y2 ⟨rfl,hb2⟩
 replace SS:=Ac ((Aa SS).on hb2)
 clear hb2
 go_wp2_with (first|go_skip|((with_reducible show wpList ..);first|(refine rd rfl (Aj 27 isAgg27 rfl rfl ((Aa SS).hold 3 rfl) rfl) ?_)|(refine rd rfl (Ge (r:=false) rfl rfl rfl rfl) ?_)|(refine zL ((idxK i).cs) 42 2 1 rwK szK (by rfl) rfl rfl SS rfl rfl rfl ?_;simp only[nn])|(refine zL (v.cs) 26 5 2 rwV szV (by rfl) rfl rfl SS rfl rfl rfl ?_;simp only[nn])|(refine rd rfl (ZbB v rfl rfl) ?_)))
 refine(HD _ (HP.To.end H (Aa SS) rfl)).mono ?_
 rintro _ Y3 ⟨T',rfl,hla,hpr,T3⟩
 replace SS:=Ac ((Aa SS).heap 0 rfl T3)
 have HR:=Ac (And.intro hla hpr)
 clear T3 hla hpr
 go_wp2
 go_ret2
 exact⟨_,rfl,⟨T',(Aa HR).1,(Aa HR).2,rfl⟩,HP.To.end H (Aa SS) rfl⟩
structure NB (h:HP) (j:Nat) (q:OB):Prop where
 hj:h.l[j]? =some q
 mm:q.m=false
 x:q.x=true
 ps:pr q.T= []
 la:q.T.last=0
theorem Zcc {h:HP} {j:Nat} {q:OB} {k:KK} {v:VV} {h1:HP} {y:Bool} (B:NB h j q) (hv:v.good=true) (hP:Vc h j q k (opnD v) h1 y):y=true/\ ∃T':TT,h1=h.tab j q T':=by
 have hz:getD q.T k=Bx:=My (by rw[B.ps];rfl)
 unfold Vc at hP
 rw[hz,B.x,(Rj hv).1,(Rj hv).2] at hP
 obtain⟨rfl,hP⟩:=hP
 rcases hP with ⟨h0,_⟩|⟨_,T',h2,_⟩
 ·cases h0
 ·exact⟨rfl,T',h2⟩
def WriteO (h:HP) (j:Nat) (q:OB) (h1:HP):Prop:= ∃T':TT,h1=h.less.less.tab j q T'
theorem Zcm (h:HP) (j:Nat) (q:OB) (i:Nat) (v:VV) (w:World) (H:h.Is w) (hT:Tabs w) (K:h.Ok) (B:NB h j q) (hi:i<=1000000) (hf:h.fuel≠0) (hd:h.ent≠h.depth) (hv:v.good=true) (hx:v.x<2^64):Calls prog 41 #[.pointer (some ⟨h.b,0,none⟩), .int .i64 ((j:Int)+1),(idxK i).agg,(opnD v).agg] w fun e w'=> ∃T':TT,e= .returned (.tuple #[.bool true, .nilIface])/\h.To (h.less.tab j q T') w w':=by
 refine(Mh h j q (idxK i) (opnD v) (fun h1 y er=>y=true/\er= .nilIface/\ ∃T':TT,h1=h.inn.tab j q T') w H K B.hj B.mm hf hd (fun X TX=> ?_)).mono ?_
 ·refine(Oi h.inn j q (idxK i) (opnD v) X TX.is K.len B.hj (TX.tabs H hT) (Lf hi) (Kl hi) (by rw[My (by rw[B.ps];rfl)];exact Qy) (ZaR hx) (by rw[B.la];decide)).mono ?_
  rintro e Y ⟨h1,y,rfl,hP,h3⟩
  obtain⟨rfl,T',rfl⟩:=Zcc (h:=h.inn) ⟨B.hj,B.mm,B.x,B.ps,B.la⟩ hv hP
  exact⟨_,true, .nilIface,rfl,⟨rfl,rfl,T',rfl⟩,rfl,h3⟩
 ·rintro e Y ⟨h1,y,er,rfl,⟨rfl,rfl,T',rfl⟩,h4⟩
  rw[out_t] at h4
  exact⟨T',rfl,h4⟩
theorem ZbQ (h:HP) (j:Nat) (q:OB) (i:Nat) (v:VV) (w:World) (H:h.Is w) (hT:Tabs w) (K:h.Ok) (B:NB h j q) (hi:i<=1000000) (hf:2<=h.fuel) (hd:h.ent≠h.depth) (hv:v.good=true) (hx:v.x<2^64):Calls prog 162 #[.pointer (some ⟨h.b,0,none⟩), .int .i64 ((j:Int)+1),(idxK i).agg,v.agg] w fun e w'=> ∃h1:HP,e= .returned (.tuple #[.bool true, .nilIface])/\WriteO h j q h1/\h.To h1 w w':=by
 have SS:=Ac H.start
 have HO:=fun (X:World) (kx:h.Is X)=>ZbF h j q (idxK i) X kx K B.hj (Lf hi) (by omega) hd
 have hlk:lkP (pr q.T) (idxK i)=none:=by rw[B.ps];rfl
 rw[My hlk,show (q.T.find (idxK i)).isSome=false by rw[←ZaO,←lk_has,hlk];rfl] at HO
 have HD:=fun (X:World) (kx:h.To h.less w X)=>Zcm h.less j q i v X kx.is (kx.tabs H hT) (K.less (by omega)) ⟨B.hj,B.mm,B.x,B.ps,B.la⟩ hi (show h.fuel - 1≠0 by omega) hd hv hx
 rw[show h.less.b=h.b from rfl] at HD
 simp only[Ec] at HO HD
 rw[Ec,Dk]
 go_enter func162,ntmps162
 go_wp2_with (first|go_skip|((with_reducible show wpList ..);first|(refine zB 42 ((idxK i).cs) (by rfl) rfl rfl rfl SS ?_;clear SS;intro Xa Ba SS;simp only[nn])|(refine zB 26 (v.cs) (by rfl) rfl rfl rfl SS ?_;clear SS;intro Xb Bb SS;simp only[nn])|(refine zL ((idxK i).cs) 42 2 1 rwK szK (by rfl) rfl rfl SS rfl rfl rfl ?_;simp only[nn])))
 refine(HO _ ((Aa SS).hp 0 rfl)).mono ?_
 rintro _ Y1 ⟨rfl,T1⟩
 replace SS:=Ac ((Aa SS).heap 0 rfl T1)
 clear T1
 rw[Em]
 go_wp2_with (first|go_skip|((with_reducible show wpList ..);first|(refine zA 29 (Bx.cs) (by rfl) rfl SS ?_;clear SS;intro Xd Bd SS;simp only[nn])|(refine zS (Bx.cs) 3 29 (by rfl) rfl rfl rfl rfl (Jg _) szD SS rfl ?_;clear SS;intro Xy SS;simp only[nn])))
 have hS5:Sy w _ h.blocks [hpO h.less,Al Ba (idxK i).cs,Al Bb v.cs,Al Bd Bx.cs]:=(Aa SS).drew
 clear SS
 refine wp_region_held_drew (P:=prog) (S:=fun X=>Holds X Ba (idxK i).cs/\Holds X Bb v.cs) (by kernel_rfl) (⟨hS5.hold 1 rfl,hS5.hold 2 rfl⟩) (fun hS0=> ?_)
 refine gp 0 (some 26) (.pointer (some ⟨h.b,0,none⟩)) rfl rfl (⟨hS5.hold 1 rfl,hS5.hold 2 rfl⟩) ?_
 refine gp 1 (some 27) (.int .i64 ((j:Int)+1)) rfl rfl (⟨hS5.hold 1 rfl,hS5.hold 2 rfl⟩) ?_
 refine gq 2 (some 28) (.agg (idxK i).cs.toArray) rfl rfl (fun X hX=>Ax (vs:=(idxK i).cs) 42 2 rwK szK rfl rfl hX.1 rfl rfl) (⟨hS5.hold 1 rfl,hS5.hold 2 rfl⟩) ?_
 refine gq 3 (some 29) (.agg v.cs.toArray) rfl rfl (fun X hX=>Ax (vs:=v.cs) 26 5 rwV szV rfl rfl hX.2 rfl rfl) (⟨hS5.hold 1 rfl,hS5.hold 2 rfl⟩) ?_
 refine gr (rs:= [4]) (gc 4 (some 30) rfl rfl (open_h v _) ?_ gn)
 rintro e Yt1 ⟨rfl,hYt1⟩
 have hqt1:=Sy.on hS5 hYt1
 refine⟨_,rfl,⟨hqt1.hold 1 rfl,hqt1.hold 2 rfl⟩, ?_⟩
 simp only[nn]
 refine gr (rs:= [5]) (gc 5 (some 31) rfl rfl (HD _ (HP.To.end H hqt1 rfl)) ?_ gn)
 rintro e Yt2 ⟨T',rfl,T3⟩
 have hqp:=Sy.heap hqt1 0 rfl T3
 refine⟨_,rfl,⟨hqp.hold 1 rfl,hqp.hold 2 rfl⟩, ?_⟩
 refine gp 6 (some 32) (.bool true) rfl rfl (⟨hqp.hold 1 rfl,hqp.hold 2 rfl⟩) ?_
 refine gp 7 (some 33) (.nilIface) rfl rfl (⟨hqp.hold 1 rfl,hqp.hold 2 rfl⟩) ?_
 refine gp 8 (some 8) (.bool true) rfl rfl (⟨hqp.hold 1 rfl,hqp.hold 2 rfl⟩) ?_
 refine gp 9 (some 9) (.nilIface) rfl rfl (⟨hqp.hold 1 rfl,hqp.hold 2 rfl⟩) ?_
 refine wpAnyH_done (by kernel_rfl) ?_ _
 try simp only[nn]
 have SS:=Ac hqp
 clear hqp T3
 go_wp2
 go_ret2
 exact⟨_,rfl,⟨T',rfl⟩,HP.To.end H (Aa SS) rfl⟩
theorem Zs (h:HP) (j:Nat) (q:OB) (k:KK) (u v r:VV) (P:HP->Prop) (w:World) (H:h.Is w) (hl:h.l.length<=65536) (hj:h.l[j]? =some q) (hk:OkK k) (hD:getD q.T k=opnD u) (hf:(q.T.find k).isSome=true) (hr:r.k=7) (hW: ∀X,h.To h w X->Calls prog 162 #[.pointer (some ⟨h.b,0,none⟩), .int .i64 r.i,k.agg,v.agg] X fun e w'=> ∃h1:HP,e= .returned (.tuple #[.bool true, .nilIface])/\P h1/\h.To h1 X w'):Calls prog 155 #[.agg #[], .pointer (some ⟨h.b,0,none⟩), .int .i64 ((j:Int)+1),k.agg,v.agg,r.agg] w fun e w'=> ∃h1:HP,e= .returned (.tuple #[.bool true, .nilIface])/\P h1/\h.To h1 w w':=by
 have SS:=Ac H.start
 have HO:=fun (X:World) (kx:h.Is X)=>Zo h j q k X kx hl hj hk
 rw[hf,hD] at HO
 have HT:=fun (X:World) (kx:h.Is X)=>Qn h j q X kx hj hl
 have HA:=fun X=>Yg (opnD u) X rfl
 simp only[Ec,Em,Dk] at HO HA hW
 rw[Ec,Dk,Dk]
 go_enter func155,ntmps155
 go_wp2_with (first|go_skip|((with_reducible show wpList ..);first|((refine bx0 70 (by rfl) rfl rfl (Aa SS) ?_);intro X0 B0 S0;replace SS:=Ac S0;clear S0;simp only[nn])|(refine zB 42 (k.cs) (by rfl) rfl rfl rfl SS ?_;clear SS;intro Xa Ba SS;simp only[nn])|(refine zB 26 (v.cs) (by rfl) rfl rfl rfl (show Hid (Sy _ _ _ [_,_]) from SS) ?_;clear SS;intro Xb Bb SS;simp only[nn])|(refine zB 26 (r.cs) (by rfl) rfl rfl rfl (show Hid (Sy _ _ _ [_,_,_]) from SS) ?_;clear SS;intro Xc Bc SS;simp only[nn])|(refine zL (k.cs) 42 2 1 rwK szK (by rfl) rfl rfl SS rfl rfl rfl ?_;simp only[nn])))
 refine(HO _ ((Aa SS).hp 0 rfl)).mono ?_
 rintro _ Y1 ⟨rfl,hb1⟩
 replace SS:=Ac ((Aa SS).on hb1)
 clear hb1
 go_wp2_with (first|go_skip|((with_reducible show wpList ..);first|(refine zA 29 (Bx.cs) (by rfl) rfl SS ?_;clear SS;intro Xd Bd SS;simp only[nn])|(refine zS ((opnD u).cs) 4 29 (by rfl) rfl rfl rfl rfl (Jg _) szD SS rfl ?_;clear SS;intro Xy SS;simp only[nn])))
 refine(HT _ ((Aa SS).hp 0 rfl)).mono ?_
 rintro _ _ ⟨rfl,rfl⟩
 have HOB:=Ac (((Aa SS).hp 0 rfl).ob hj).1
 go_wp2_with (first|go_skip|((with_reducible show wpList ..);first|(refine rd rfl (Ax (vs:=q.p.cs) 26 5 rwV szV rfl rfl (Aa HOB) rfl rfl) ?_)|(refine zA 26 (Bz.cs) (by rfl) rfl SS ?_;clear SS;intro Xe Be SS;simp only[nn])|(refine zS (q.p.cs) 5 26 (by rfl) rfl rfl rfl rfl (Eb _) szV SS rfl ?_;clear SS;intro Xz SS;simp only[nn])|(refine zL ((opnD u).cs) 29 18 4 rwD szD (by rfl) rfl rfl SS rfl rfl rfl ?_;simp only[nn])))
 refine(HA _).mono ?_
 rintro _ Y2 ⟨rfl,hb2⟩
 replace SS:=Ac ((Aa SS).on hb2)
 clear hb2
 go_wp2_with (first|go_skip|((with_reducible show wpList ..);first|(refine rd rfl (Aj 27 isAgg27 rfl rfl ((Aa SS).hold 4 rfl) rfl) ?_)|(refine rd rfl (Ge (r:=false) rfl rfl rfl rfl) ?_)|(refine rd rfl (Aj 3 isAgg3 rfl rfl ((Aa SS).hold 3 rfl) rfl) ?_)|(refine rd rfl (Ex rfl rfl rfl hr) ?_)|(refine zL (k.cs) 42 2 1 rwK szK (by rfl) rfl rfl SS rfl rfl rfl ?_;simp only[nn])|(refine zL (v.cs) 26 5 2 rwV szV (by rfl) rfl rfl SS rfl rfl rfl ?_;simp only[nn])))
 refine(hW _ (HP.To.end H (Aa SS) rfl)).mono ?_
 rintro _ Y3 ⟨h1,rfl,hP,T3⟩
 replace SS:=Ac ((Aa SS).heap 0 rfl T3)
 have HB:=Ac (And.intro hP T3.hb)
 clear T3 hP
 go_wp2
 go_ret2
 exact⟨h1,rfl,(Aa HB).1,HP.To.end H (Aa SS) (Aa HB).2⟩
theorem Za7 (v:VV) (hg:v.good=true) (w:World) (hT:Lib.Utf8Tabs 4 5 w):Calls prog 181 #[v.agg] w fun e w'=>e= .returned (v.agg)/\Below w.heap.size w w':=by
 have SS:=Ac (Sy.nil w [])
 have HT:=Ac hT
 clear hT
 have HI:=fun X h=>Zac v hg X h
 have HO:=fun X=>Zp v hg X
 clear hg
 generalize v.ifc=f at HI HO
 simp only[Dk] at HI HO ⊢
 go_enter func181,ntmps181
 go_wp2_with (first|go_skip|((with_reducible show wpList ..);first|(refine zB 26 (v.cs) (by rfl) rfl rfl rfl SS ?_;clear SS;intro Xa Ba SS;simp only[nn])|(refine zA 26 (Bz.cs) (by rfl) rfl SS ?_;clear SS;intro Xb Bb SS;simp only[nn])|(refine zL (v.cs) 26 5 0 rwV szV (by rfl) rfl rfl SS rfl rfl rfl ?_;simp only[nn])))
 refine(HI _ (Bf (Aa HT) (Aa SS).fr.below)).mono ?_
 rintro _ Y1 ⟨rfl,hb1⟩
 replace SS:=Ac ((Aa SS).on hb1)
 clear hb1
 go_wp2_with fail
 refine(HO _).mono ?_
 rintro _ Y2 ⟨rfl,hb2⟩
 replace SS:=Ac ((Aa SS).on hb2)
 clear hb2
 go_wp2_with (first|go_skip|((with_reducible show wpList ..);first|(refine zS (v.cs) 1 26 (by rfl) rfl rfl rfl rfl (Eb _) szV SS rfl ?_;clear SS;intro Xz SS;simp only[nn])))
 refine Vi rwV szV rfl rfl rfl ((Aa SS).hold 1 rfl) rfl ?_
 exact⟨rfl,(Aa SS).fr.below⟩
def Ep (i:Int):VV:=⟨7,false,0,ByteArray.empty,i⟩
theorem Rh {o:Oper} {a:Act} {w:World} {x:Operand} {i:Int} (ho:o.op= .build 26 #[(0, .const (.int .i64 7)),(4,x)]) (hx:a.eval x= .int .i64 i):(execOp a.eval o).run prog w= .ok (.value (.agg (Ep i).cs.toArray)) w:=by
 have e:(Instr.build 26 #[(0, .int .i64 7),(4, .int .i64 i)]).run prog w= .ok (.agg (Ep i).cs.toArray) w:=by kernel_rfl
 unfold execOp
 simp only[ho,List.map_toArray,List.map_cons,List.map_nil,hx]
 simp[e,Act.eval]
theorem Ph {i:Int} (h1:1<=i) (h2:i<=65536):(Ep i).good=true:=by
 simp[VV.good,Ef,Lx,Ep,inG,h1,h2]
theorem Zbi (i j:Int):Yo (Ep i) (Ep j)=decide (i=j):=by
 unfold Yo Ep
 have e:(FloatKind.f64.format.order 0 0==some .eq)=true:=by kernel_rfl
 simp[e]
theorem ZbA {o:Oper} {a:Act} {w:World} {x y:Operand} {p q:VV} {r:Bool} (ho:o.op= .binOp .eql 26 x y 26) (hx:a.eval x= .agg p.cs.toArray) (hc:a.eval y= .agg q.cs.toArray) (hr:Yo p q=r):(execOp a.eval o).run prog w= .ok (.value (.bool r)) w:=hr▸ex_eqV ho hx hc
theorem ref_h (i:Int) (h1:1<=i) (h2:i<=65536) (w:World) (hT:Lib.Utf8Tabs 4 5 w):Calls prog 178 #[.int .i64 i] w fun e w'=>e= .returned ((Ep i).agg)/\Below w.heap.size w w':=by
 have SS:=Ac (Sy.nil w [])
 have HT:=Ac hT
 clear hT
 have HC:=fun X h=>Za7 (Ep i) (Ph h1 h2) X h
 simp only[Dk] at HC ⊢
 go_enter func178,ntmps178
 go_wp2_with (first|go_skip|((with_reducible show wpList ..);first|(refine zA 26 (Bz.cs) (by rfl) rfl SS ?_;clear SS;intro Xa Ba SS;simp only[nn])|(refine rd rfl (Rh rfl rfl) ?_)))
 refine(HC _ (Bf (Aa HT) (Aa SS).fr.below)).mono ?_
 rintro _ Y1 ⟨rfl,hb1⟩
 replace SS:=Ac ((Aa SS).on hb1)
 clear hb1
 go_wp2_with (first|go_skip|((with_reducible show wpList ..);first|(refine zS ((Ep i).cs) 0 26 (by rfl) rfl rfl rfl rfl (Eb _) szV SS rfl ?_;clear SS;intro Xz SS;simp only[nn])))
 refine Vi rwV szV rfl rfl rfl ((Aa SS).hold 0 rfl) rfl ?_
 exact⟨rfl,(Aa SS).fr.below⟩
theorem HP.Ok.tp {h:HP} (K:h.Ok) (j:Nat) (q:OB) (T':TT) (p:PM):((h.pm p).tab j q T').Ok:=⟨by rw[Jh];exact K.len,K.f0,K.f1,K.e0,K.e1,K.d1⟩
def SetS (h:HP) (j:Nat) (p:PM) (i m:Nat) (a:PA) (v:VV) (h1:HP):Prop:= ∃(q':OB) (p':PM),MS h1 j q' p' i m ⟨a.n,v,a.t⟩ v/\p'.pF=p.pF/\p'.tF=p.tF/\h1.ent=h.ent/\h1.l.length=h.l.length
theorem set_end {h:HP} {j:Nat} {q:OB} {p:PM} {i m:Nat} {a:PA} {u v:VV} {T1:TT} {h1:HP} (M:MS h j q p i m a u) (hv:v.good=true) (hx:v.x<2^64) (hla:q.T.last<=1900) (h1a:T1.last<=q.T.last+1) (h1b:pr T1=Mt (pr q.T) (idxK i) (opnD v)) (hW:Zbg ((h.pm (p.val m ⟨a.n,v,a.t⟩)).tab j q T1) j {q with T:=T1} (p.val m ⟨a.n,v,a.t⟩) i m ⟨a.n,v,a.t⟩ v h1):SetS h j p i m a v h1:=by
 obtain⟨T2,h2a,h2b,rfl⟩:=hW
 have M1:=(M.val v).tabs hv hx (T':=T1) (by omega) h1b
 have M2:=M1.less.less.val v
 have h2a:T2.last<=T1.last+1:=h2a
 have M3:=M2.tabs hv hx (T':=T2) (by omega) h2b
 exact⟨_,_,M3,rfl,rfl,rfl,by
  show ((((h.l.set j _)).set j _)).length=_
  rw[List.length_set,List.length_set]⟩
theorem Zcd (h:HP) (j:Nat) (q:OB) (p:PM) (i m:Nat) (a:PA) (u:VV) (v:VV) (w:World) (H:h.Is w) (hT:Tabs w) (K:h.Ok) (M:MS h j q p i m a u) (hf:2<=h.fuel) (hd:h.ent≠h.depth) (hv:v.good=true) (hx:v.x<2^64) (hla:q.T.last<=1900):Calls prog 174 #[.agg #[], .pointer (some ⟨h.b,0,none⟩), .int .i64 ((j:Int)+1),(idxK i).agg,v.agg,(Ep ((j:Int)+1)).agg] w fun e w'=> ∃h1:HP,e= .returned (.tuple #[.bool true, .nilIface])/\SetS h j p i m a v h1/\h.To h1 w w':=by
 have hi:i<=1000000:=Nat.le_trans M.i1 (by decide)
 have hlj:j<h.l.length:=(List.getElem?_eq_some_iff.1 M.o.hj).1
 have SS:=Ac H.start
 have HT:=fun (X:World) (kx:h.Is X)=>Yr h j q p (idxK i) i m X kx M.o.len M.o.hj M.o.ow M.o.e (Lr hi) (Qg hi) hi M.F
 have HRF:=ref_h ((j:Int)+1) (by omega) (by have:=M.o.len;omega)
 simp only[Ec] at HT
 rw[Ec,Dk,Dk]
 go_enter func174,ntmps174
 go_wp2_with (first|go_skip|((with_reducible show wpList ..);first|((refine Vw (by rfl) rfl rfl (Aa SS) ?_);intro X0 B0 S0;replace SS:=Ac S0;clear S0;simp only[nn])|(refine zB 42 ((idxK i).cs) (by rfl) rfl rfl rfl SS ?_;clear SS;intro Xa Ba SS;simp only[nn])|(refine zB 26 (v.cs) (by rfl) rfl rfl rfl (show Hid (Sy _ _ _ [_,_,_]) from SS) ?_;clear SS;intro Xb Bb SS;simp only[nn])|(refine zB 26 ((Ep ((j:Int)+1)).cs) (by rfl) rfl rfl rfl (show Hid (Sy _ _ _ [_,_,_,_]) from SS) ?_;clear SS;intro Xc Bc SS;simp only[nn])|(refine rd rfl (ldA rfl rfl) ?_)|(refine zL ((idxK i).cs) 42 2 2 rwK szK (by rfl) rfl rfl SS rfl rfl rfl ?_;simp only[nn])))
 refine(HT _ ((Aa SS).hp 0 rfl)).mono ?_
 rintro _ Y1 ⟨rfl,hb1⟩
 replace SS:=Ac ((Aa SS).on hb1)
 clear hb1
 go_wp2
 have hS2:Sy w _ h.blocks [hpO h,Yj 74 B0,Al Ba (idxK i).cs,Al Bb v.cs,Al Bc (Ep ((j:Int)+1)).cs]:=(Aa SS).drew
 clear SS
 have hve:Yo (Ep ((j:Int)+1)) (Ep ((j:Int)+1))=true:=by rw[Zbi];simp
 refine wp_region_held_drew (P:=prog) (S:=fun X=>Sy w X h.blocks _) (by kernel_rfl) (hS2) (fun hS0=> ?_)
 refine gp 0 (some 26) (.bool true) rfl rfl (hS2) ?_
 refine gp 1 (some 27) (.bool true) rfl rfl (hS2) ?_
 refine gq 2 (some 28) (.agg (Ep ((j:Int)+1)).cs.toArray) rfl rfl (fun X hX=>Ax (vs:=(Ep ((j:Int)+1)).cs) 26 5 rwV szV rfl rfl (hX.hold 4 rfl) rfl rfl) (hS2) ?_
 refine gp 3 (some 29) (.int .i64 ((j:Int)+1)) rfl rfl (hS2) ?_
 refine gr (rs:= [4]) (gcB 4 (some 30) rfl rfl hS2 (HRF _ (hT.fr hS2.fr H.low).1) id ?_ gn)
 intro Yt1 hqt1
 refine gq 5 (some 31) (.bool true) rfl rfl (fun X hX=>ZbA rfl rfl rfl hve) (hqt1) ?_
 refine gp 6 (some 32) (.bool true) rfl rfl (hqt1) ?_
 refine wpAnyH_done (by kernel_rfl) ?_ _
 try simp only[nn]
 have SS:=Ac hqt1
 go_wp2_with (first|go_skip|((with_reducible show wpList ..);first|(refine zL (v.cs) 26 5 3 rwV szV (by rfl) rfl rfl SS rfl rfl rfl ?_;simp only[nn])))
 have HG:=fun (X:World) (kx:h.To h w X)=>give_h h j q p i m a u v X kx.is (kx.tabs H hT) M hv hx
 simp only[Dk] at HG
 refine(HG _ (HP.To.end H (Aa SS) rfl)).mono ?_
 clear HG
 rintro _ Y3 ⟨T1,rfl,h1a,h1b,T3⟩
 replace SS:=Ac ((Aa SS).heap 0 rfl T3)
 clear T3
 have M1:=(M.val v).tabs hv hx (T':=T1) (by have:=hla;omega) h1b
 have HS:=fun (X:World) (kx:h.To ((h.pm (p.val m ⟨a.n,v,a.t⟩)).tab j q T1) w X)=>Zs ((h.pm (p.val m ⟨a.n,v,a.t⟩)).tab j q T1) j {q with T:=T1} (idxK i) v v (Ep ((j:Int)+1)) (Zbg ((h.pm (p.val m ⟨a.n,v,a.t⟩)).tab j q T1) j {q with T:=T1} (p.val m ⟨a.n,v,a.t⟩) i m ⟨a.n,v,a.t⟩ v) X kx.is M1.o.len M1.o.hj (Lf hi) M1.getD.1 M1.getD.2 rfl (fun Z TZ=>ZaD ((h.pm (p.val m ⟨a.n,v,a.t⟩)).tab j q T1) j {q with T:=T1} (p.val m ⟨a.n,v,a.t⟩) i m ⟨a.n,v,a.t⟩ v v Z TZ.is ((kx.trans TZ).tabs H hT) (K.tp j q T1 _) M1 hf hd hv hx)
 rw[show ((h.pm (p.val m ⟨a.n,v,a.t⟩)).tab j q T1).b=h.b from rfl] at HS
 simp only[Ec,Dk] at HS
 go_wp2_with (first|go_skip|((with_reducible show wpList ..);first|(refine rd rfl (Pu rfl rfl ((Aa SS).emp 1 rfl)) ?_)|(refine rd rfl (Pv rfl rfl ((Aa SS).emp 1 rfl)) ?_)|(refine rd rfl (ldE rfl rfl) ?_)|(refine zL ((idxK i).cs) 42 2 2 rwK szK (by rfl) rfl rfl SS rfl rfl rfl ?_;simp only[nn])|(refine zL (v.cs) 26 5 3 rwV szV (by rfl) rfl rfl SS rfl rfl rfl ?_;simp only[nn])|(refine zL ((Ep ((j:Int)+1)).cs) 26 5 4 rwV szV (by rfl) rfl rfl SS rfl rfl rfl ?_;simp only[nn])))
 refine(HS _ (HP.To.end H (Aa SS) rfl)).mono ?_
 clear HS
 rintro _ Y4 ⟨h1,rfl,hW,T4⟩
 replace SS:=Ac ((Aa SS).heap 0 rfl T4)
 have HB:=Ac (And.intro hW T4.hb)
 clear T4 hW
 go_wp2
 go_ret2
 exact⟨h1,rfl,set_end M hv hx hla h1a h1b (Aa HB).1,HP.To.end H (Aa SS) (Aa HB).2⟩
theorem mset_oth (h:HP) (j:Nat) (q:OB) (p:PM) (i m:Nat) (a:PA) (u:VV) (j2:Nat) (q2:OB) (v:VV) (w:World) (H:h.Is w) (hT:Tabs w) (K:h.Ok) (M:MS h j q p i m a u) (B:NB h j2 q2) (hne:j2≠j) (hf:2<=h.fuel) (hd:h.ent≠h.depth) (hv:v.good=true) (hx:v.x<2^64):Calls prog 174 #[.agg #[], .pointer (some ⟨h.b,0,none⟩), .int .i64 ((j:Int)+1),(idxK i).agg,v.agg,(Ep ((j2:Int)+1)).agg] w fun e w'=> ∃h1:HP,e= .returned (.tuple #[.bool true, .nilIface])/\WriteO h j2 q2 h1/\h.To h1 w w':=by
 have hi:i<=1000000:=Nat.le_trans M.i1 (by decide)
 have hlj:j<h.l.length:=(List.getElem?_eq_some_iff.1 M.o.hj).1
 have SS:=Ac H.start
 have HT:=fun (X:World) (kx:h.Is X)=>Yr h j q p (idxK i) i m X kx M.o.len M.o.hj M.o.ow M.o.e (Lr hi) (Qg hi) hi M.F
 have HRF:=ref_h ((j:Int)+1) (by omega) (by have:=M.o.len;omega)
 simp only[Ec] at HT
 rw[Ec,Dk,Dk]
 go_enter func174,ntmps174
 go_wp2_with (first|go_skip|((with_reducible show wpList ..);first|((refine Vw (by rfl) rfl rfl (Aa SS) ?_);intro X0 B0 S0;replace SS:=Ac S0;clear S0;simp only[nn])|(refine zB 42 ((idxK i).cs) (by rfl) rfl rfl rfl SS ?_;clear SS;intro Xa Ba SS;simp only[nn])|(refine zB 26 (v.cs) (by rfl) rfl rfl rfl (show Hid (Sy _ _ _ [_,_,_]) from SS) ?_;clear SS;intro Xb Bb SS;simp only[nn])|(refine zB 26 ((Ep ((j2:Int)+1)).cs) (by rfl) rfl rfl rfl (show Hid (Sy _ _ _ [_,_,_,_]) from SS) ?_;clear SS;intro Xc Bc SS;simp only[nn])|(refine rd rfl (ldA rfl rfl) ?_)|(refine zL ((idxK i).cs) 42 2 2 rwK szK (by rfl) rfl rfl SS rfl rfl rfl ?_;simp only[nn])))
 refine(HT _ ((Aa SS).hp 0 rfl)).mono ?_
 rintro _ Y1 ⟨rfl,hb1⟩
 replace SS:=Ac ((Aa SS).on hb1)
 clear hb1
 go_wp2
 have hS2:Sy w _ h.blocks [hpO h,Yj 74 B0,Al Ba (idxK i).cs,Al Bb v.cs,Al Bc (Ep ((j2:Int)+1)).cs]:=(Aa SS).drew
 clear SS
 have hve:Yo (Ep ((j2:Int)+1)) (Ep ((j:Int)+1))=false:=by rw[Zbi];exact decide_eq_false (by omega)
 refine wp_region_held_drew (P:=prog) (S:=fun X=>Sy w X h.blocks _) (by kernel_rfl) (hS2) (fun hS0=> ?_)
 refine gp 0 (some 26) (.bool true) rfl rfl (hS2) ?_
 refine gp 1 (some 27) (.bool true) rfl rfl (hS2) ?_
 refine gq 2 (some 28) (.agg (Ep ((j2:Int)+1)).cs.toArray) rfl rfl (fun X hX=>Ax (vs:=(Ep ((j2:Int)+1)).cs) 26 5 rwV szV rfl rfl (hX.hold 4 rfl) rfl rfl) (hS2) ?_
 refine gp 3 (some 29) (.int .i64 ((j:Int)+1)) rfl rfl (hS2) ?_
 refine gr (rs:= [4]) (gcB 4 (some 30) rfl rfl hS2 (HRF _ (hT.fr hS2.fr H.low).1) id ?_ gn)
 intro Yt1 hqt1
 refine gq 5 (some 31) (.bool false) rfl rfl (fun X hX=>ZbA rfl rfl rfl hve) (hqt1) ?_
 refine gp 6 (some 32) (.bool false) rfl rfl (hqt1) ?_
 refine wpAnyH_done (by kernel_rfl) ?_ _
 try simp only[nn]
 have SS:=Ac hqt1
 have HS:=fun (X:World) (kx:h.To h w X)=>Zs h j q (idxK i) u v (Ep ((j2:Int)+1)) (WriteO h j2 q2) X kx.is M.o.len M.o.hj (Lf hi) M.getD.1 M.getD.2 rfl (fun Z TZ=>ZbQ h j2 q2 i v Z TZ.is ((kx.trans TZ).tabs H hT) K B hi hf hd hv hx)
 simp only[Ec,Dk] at HS
 go_wp2_with (first|go_skip|((with_reducible show wpList ..);first|(refine rd rfl (Pu rfl rfl ((Aa SS).emp 1 rfl)) ?_)|(refine rd rfl (Pv rfl rfl ((Aa SS).emp 1 rfl)) ?_)|(refine rd rfl (ldE rfl rfl) ?_)|(refine zL ((idxK i).cs) 42 2 2 rwK szK (by rfl) rfl rfl SS rfl rfl rfl ?_;simp only[nn])|(refine zL (v.cs) 26 5 3 rwV szV (by rfl) rfl rfl SS rfl rfl rfl ?_;simp only[nn])|(refine zL ((Ep ((j2:Int)+1)).cs) 26 5 4 rwV szV (by rfl) rfl rfl SS rfl rfl rfl ?_;simp only[nn])))
 refine(HS _ (HP.To.end H (Aa SS) rfl)).mono ?_
 clear HS
 rintro _ Y4 ⟨h1,rfl,hW,T4⟩
 replace SS:=Ac ((Aa SS).heap 0 rfl T4)
 have HB:=Ac (And.intro hW T4.hb)
 clear T4 hW
 go_wp2
 go_ret2
 exact⟨h1,rfl,(Aa HB).1,HP.To.end H (Aa SS) (Aa HB).2⟩
theorem ZaJ {v:VV} (h:v.good=true):v.s.size<=1048576:=by
 have h1:=Ek h
 have h0:ByteArray.empty.size=0:=rfl
 rcases h1 with h1|h1|h1|h1|h1|h1|h1
 ·rw[h1.2.2.2.1];decide
 ·rw[h1.2.2.2.1];decide
 ·rw[h1.2.2.1];decide
 ·rw[h1.2.2.1];decide
 ·have:=h1.2.2.2.2
  unfold Nf at this
  simp only[Bool.and_eq_true,decide_eq_true_eq] at this
  exact this.1
 ·rw[h1.2.2.2.1];decide
 ·rw[h1.2.2.2.1];decide
theorem Px {d:DD} (h:Eh d=0):Lz d=true/\Gf d=true/\Df d≠0:=by
 unfold Eh Gv at h
 have hs:Gf d=true:=by
  cases h1:Gf d with
  |true=>rfl
  |false=>rw[h1] at h;simp at h
 rw[hs] at h
 have hz:Df d≠0:=fun e=>by rw[e] at h;simp at h
 refine⟨?_,hs,hz⟩
 rw[Zd,hs]
 unfold Df at hz
 cases h2:((thV d.v||d.w !=0) && (thV d.g||thV d.s)) with
 |false=>rfl
 |true=>rw[h2] at hz;simp at hz
theorem Jm {d:DD} (h:Eh d=0):Rq d=Qo d:=by
 unfold Rq Qo
 rw[(Px h).1]
 by_cases h1:d.g.k=0<;>by_cases h2:d.s.k=0<;>simp[h1,h2]
theorem Qb {v:VV} (h:v.k≠0):thV v=true:=by
 unfold thV
 simp[h]
theorem Uo {d:DD} (h:Eh d=0) (hk:d.v.k≠0):Df d=2:=by
 have hz:=(Px h).2.2
 unfold Df at hz ⊢
 rw[Qb hk] at hz ⊢
 simp at hz ⊢
 exact hz
def Fin (h1:HP) (s:ByteArray) (i m:Nat) (x:VV) (tie:Bool) (F0:Int->Option Nat):Prop:= ∃(q:OB) (p:PM) (a:PA),MO h1 0 q p/\p.pF s=some m/\p.l[m]? =some a/\a.v=x/\a.n=s/\(p.tF (i:Int)=if tie then some m else none)/\ ∀k:Int,k≠(i:Int)->p.tF k=F0 k
def DefF (h:HP) (q:OB) (p:PM) (i m:Nat) (a:PA) (u:VV) (d:DD) (h1:HP):Prop:= ∃T':TT,T'.last<=q.T.last+1/\pr T'=Mt (pr q.T) (idxK i) (Mj (opnD u) d)/\h1=(h.less.tab 0 q T').pm (p.follow m a d)
theorem Zcn (h:HP) (j:Nat) (q:OB) (p:PM) (i m:Nat) (a:PA) (u:VV) (d:DD) (w:World) (H:h.Is w) (hT:Tabs w) (K:h.Ok) (M:MS h j q p i m a u) (hf:h.fuel≠0) (hd:h.ent≠h.depth) (hc:Eh d=0) (hFd:FD d):Calls prog 41 #[.pointer (some ⟨h.b,0,none⟩), .int .i64 ((j:Int)+1),(idxK i).agg,d.agg] w fun e w'=> ∃T':TT,e= .returned (.tuple #[.bool true, .nilIface])/\T'.last<=q.T.last+1/\pr T'=Mt (pr q.T) (idxK i) (Mj (opnD u) d)/\h.To ((h.less.tab j q T').pm (p.follow m a d)) w w':=by
 refine(Jp h j q (idxK i) d (fun h1 y er=>y=true/\er= .nilIface/\ ∃T':TT,T'.last<=q.T.last+1/\pr T'=Mt (pr q.T) (idxK i) (Mj (opnD u) d)/\h1=(h.inn.tab j q T').pm (p.follow m a d)) w H K M.o.hj M.o.mm hf hd (fun X TX=> ?_)).mono ?_
 ·refine(mdef_y h.inn j q p i m a u d X TX.is (TX.tabs H hT) M.inn hc hFd).mono ?_
  rintro e Y ⟨T',rfl,h1,h2,h3⟩
  exact⟨_,true, .nilIface,rfl,⟨rfl,rfl,T',h1,h2,rfl⟩,rfl,h3⟩
 ·rintro e Y ⟨h1,y,er,rfl,⟨rfl,rfl,T',h2,h3,rfl⟩,h4⟩
  rw[out_tp] at h4
  exact⟨T',rfl,h2,h3,h4⟩
theorem ddef (h:HP) (q:OB) (p:PM) (i m:Nat) (a:PA) (u:VV) (d:DD) (w:World) (H:h.Is w) (hT:Tabs w) (K:h.Ok) (M:MS h 0 q p i m a u) (hf:5<=h.fuel) (hd:h.ent≠h.depth) (hd2:h.ent+1≠h.depth) (hFd:FD d):Calls prog 10 #[.pointer (some ⟨h.b,0,none⟩), .int .i64 1,(idxK i).agg,d.agg] w fun e w'=> ∃(h1:HP) (y:Bool) (er:Value),e= .returned (.tuple #[.bool y,er])/\((∃c,er=La c/\c=orE [thE 1 h.l.length,Dh (idxK i),Eh d,By h.l.length [d.v,d.g,d.s],Gq [d.g,d.s]]/\c≠0/\h1=h)∨(er= .nilIface/\y=true/\Eh d=0/\DefF h q p i m a u d h1))/\h.To h1 w w':=by
 refine(Nj h 1 (idxK i) d w H M.o.len hT hFd (fun h1 y er=>er= .nilIface/\y=true/\Eh d=0/\DefF h q p i m a u d h1) (fun jj qq X ho hjj hc TX=> ?_)).mono ?_
 ·obtain⟨rfl,rfl⟩:jj=0/\qq=q:=⟨(by omega),(by obtain rfl:jj=0:=(by omega);exact Option.some.inj (hjj.symm.trans M.o.hj))⟩
  have hc3:Eh d=0:=En hc _ (by simp)
  refine(Zcn h 0 qq p i m a u d X TX.is (TX.tabs H hT) K M (by omega) hd hc3 hFd).mono ?_
  rintro e Y ⟨T',rfl,h1,h2,h3⟩
  exact⟨_,true, .nilIface,rfl,⟨rfl,rfl,hc3,T',h1,h2,rfl⟩,h3⟩
 ·rintro e Y ⟨h1,y,er,rfl,hh,h4⟩
  refine⟨h1,y,er,rfl, ?_,h4⟩
  rcases hh with ⟨h9,h5,h6,_⟩|⟨_,h5⟩
  ·exact .inl ⟨_,h5,rfl,h9,h6⟩
  ·exact .inr h5
theorem SetS.fin {h h1:HP} {p:PM} {i m:Nat} {a:PA} {v:VV} (hS:SetS h 0 p i m a v h1) (hp:p.pF a.n=some m):Fin h1.out a.n i m v true p.tF:=by
 obtain⟨q',p',M,hF,hF2,_,_⟩:=hS
 exact⟨q',p',_,⟨M.o.hj,M.o.mm,M.o.ow,M.o.e,M.o.x,M.o.len,M.o.la⟩,by rw[hF];exact hp,M.pl,rfl,rfl,M.F,fun k _=>by rw[hF2]⟩
theorem dset (h:HP) (q:OB) (p:PM) (i m:Nat) (a:PA) (u:VV) (v:VV) (w:World) (H:h.Is w) (hT:Tabs w) (K:h.Ok) (M:MS h 0 q p i m a u) (hf:5<=h.fuel) (hd:h.ent≠h.depth) (hd2:h.ent+1≠h.depth) (hx:v.x<2^64) (hla:q.T.last<=1900) (hp:p.pF a.n=some m):Calls prog 12 #[.pointer (some ⟨h.b,0,none⟩), .int .i64 1,(idxK i).agg,v.agg,(Ep 1).agg] w fun e w'=> ∃(h1:HP) (y:Bool) (er:Value),e= .returned (.tuple #[.bool y,er])/\((∃c,er=La c/\c=orE [thE 1 h.l.length,Dh (idxK i),Af [v,(Ep 1)],By h.l.length [v,(Ep 1)]]/\c≠0/\h1=h)∨(er= .nilIface/\y=true/\(v.good=true/\Fin h1 a.n i m v true p.tF)))/\h.To h1 w w':=by
 refine(dorSet h 1 (idxK i) v (Ep 1) w H M.o.len hT (fun h1 y er=>er= .nilIface/\y=true/\(v.good=true/\Fin h1 a.n i m v true p.tF)) (fun jj qq X ho hjj hc TX=> ?_)).mono ?_
 ·obtain⟨rfl,rfl⟩:jj=0/\qq=q:=⟨(by omega),(by obtain rfl:jj=0:=(by omega);exact Option.some.inj (hjj.symm.trans M.o.hj))⟩
  have hv:v.good=true:=Ly (En hc _ (by simp):Af [v,(Ep 1)]=0) v (by simp)
  refine(ZbG h 0 qq (idxK i) v (Ep 1) (fun h1 y er=>er= .nilIface/\y=true/\v.good=true/\SetS h.inn 0 p i m a v h1) X TX.is K M.o.hj M.o.mm (by omega) hd (fun Z TZ=> ?_)).mono ?_
  ·have HM:=Zcd h.inn 0 qq p i m a u v Z TZ.is ((TX.trans TZ).tabs H hT) (K.inn (by omega) hd) M.inn (show 2<=h.fuel - 1 by omega) hd2 hv hx hla
   rw[show ((0:Nat):Int)+1=1 from rfl] at HM
   refine HM.mono ?_
   rintro e Y ⟨h1,rfl,hS,h3⟩
   exact⟨h1,true, .nilIface,rfl,⟨rfl,rfl,hv,hS⟩,(by obtain⟨q9,p9,m9,a9,d9,b9,c9⟩:=hS;exact b9),h3⟩
  ·rintro e Y ⟨h1,y,er,rfl,⟨rfl,rfl,hv2,hS⟩,h4⟩
   exact⟨h1.out,true, .nilIface,rfl,⟨rfl,rfl,hv2,hS.fin hp⟩,h4⟩
 ·rintro e Y ⟨h1,y,er,rfl,hh,h4⟩
  refine⟨h1,y,er,rfl, ?_,h4⟩
  rcases hh with ⟨h9,h5,h6,_⟩|⟨_,h5⟩
  ·exact .inl ⟨_,h5,rfl,h9,h6⟩
  ·exact .inr h5
theorem WriteO.fin {h h1:HP} {q q2:OB} {p:PM} {i m:Nat} {a:PA} {u:VV} (M:MS h 0 q p i m a u) (hW:WriteO h 1 q2 h1) (hp:p.pF a.n=some m):Fin h1.out a.n i m a.v true p.tF:=by
 obtain⟨T',rfl⟩:=hW
 refine⟨q,p,a,⟨?_,M.o.mm,M.o.ow,M.o.e,M.o.x, ?_,M.o.la⟩,hp,M.pl,rfl,rfl,M.F,fun _ _=>rfl⟩
 ·show (h.l.set 1 _)[0]? =some q
  rw[List.getElem?_set_ne (by decide)]
  exact M.o.hj
 ·show (h.l.set 1 _).length<=_
  rw[List.length_set]
  exact M.o.len
theorem dseto (h:HP) (q:OB) (p:PM) (i m:Nat) (a:PA) (u:VV) (q2:OB) (v:VV) (w:World) (H:h.Is w) (hT:Tabs w) (K:h.Ok) (M:MS h 0 q p i m a u) (hf:5<=h.fuel) (hd:h.ent≠h.depth) (hd2:h.ent+1≠h.depth) (hx:v.x<2^64) (B:NB h 1 q2) (hp:p.pF a.n=some m):Calls prog 12 #[.pointer (some ⟨h.b,0,none⟩), .int .i64 1,(idxK i).agg,v.agg,(Ep 2).agg] w fun e w'=> ∃(h1:HP) (y:Bool) (er:Value),e= .returned (.tuple #[.bool y,er])/\((∃c,er=La c/\c=orE [thE 1 h.l.length,Dh (idxK i),Af [v,(Ep 2)],By h.l.length [v,(Ep 2)]]/\c≠0/\h1=h)∨(er= .nilIface/\y=true/\(v.good=true/\Fin h1 a.n i m a.v true p.tF)))/\h.To h1 w w':=by
 refine(dorSet h 1 (idxK i) v (Ep 2) w H M.o.len hT (fun h1 y er=>er= .nilIface/\y=true/\(v.good=true/\Fin h1 a.n i m a.v true p.tF)) (fun jj qq X ho hjj hc TX=> ?_)).mono ?_
 ·obtain⟨rfl,rfl⟩:jj=0/\qq=q:=⟨(by omega),(by obtain rfl:jj=0:=(by omega);exact Option.some.inj (hjj.symm.trans M.o.hj))⟩
  have hv:v.good=true:=Ly (En hc _ (by simp):Af [v,(Ep 2)]=0) v (by simp)
  refine(ZbG h 0 qq (idxK i) v (Ep 2) (fun h1 y er=>er= .nilIface/\y=true/\v.good=true/\WriteO h.inn 1 q2 h1) X TX.is K M.o.hj M.o.mm (by omega) hd (fun Z TZ=> ?_)).mono ?_
  ·have HM:=mset_oth h.inn 0 qq p i m a u 1 q2 v Z TZ.is ((TX.trans TZ).tabs H hT) (K.inn (by omega) hd) M.inn ⟨B.hj,B.mm,B.x,B.ps,B.la⟩ (by decide) (show 2<=h.fuel - 1 by omega) hd2 hv hx
   rw[show ((0:Nat):Int)+1=1 from rfl,show ((1:Nat):Int)+1=2 from rfl] at HM
   refine HM.mono ?_
   rintro e Y ⟨h1,rfl,hS,h3⟩
   exact⟨h1,true, .nilIface,rfl,⟨rfl,rfl,hv,hS⟩,(by obtain⟨T9,rfl⟩:=hS;rfl),h3⟩
  ·rintro e Y ⟨h1,y,er,rfl,⟨rfl,rfl,hv2,hS⟩,h4⟩
   exact⟨h1.out,true, .nilIface,rfl,⟨rfl,rfl,hv2,WriteO.fin M.inn hS hp⟩,h4⟩
 ·rintro e Y ⟨h1,y,er,rfl,hh,h4⟩
  refine⟨h1,y,er,rfl, ?_,h4⟩
  rcases hh with ⟨h9,h5,h6,_⟩|⟨_,h5⟩
  ·exact .inl ⟨_,h5,rfl,h9,h6⟩
  ·exact .inr h5
theorem ddel (h:HP) (q:OB) (p:PM) (i m:Nat) (a:PA) (u:VV) (w:World) (H:h.Is w) (hT:Tabs w) (K:h.Ok) (M:MS h 0 q p i m a u) (hf:5<=h.fuel) (hd:h.ent≠h.depth) (hd2:h.ent+1≠h.depth) (hp:p.pF a.n=some m):Calls prog 13 #[.pointer (some ⟨h.b,0,none⟩), .int .i64 1,(idxK i).agg] w fun e w'=> ∃(h1:HP) (y:Bool) (er:Value),e= .returned (.tuple #[.bool y,er])/\((∃c,er=La c/\c=orE [thE 1 h.l.length,Dh (idxK i)]/\c≠0/\h1=h)∨(er= .nilIface/\y=true/\Fin h1 a.n i m a.v false p.tF))/\h.To h1 w w':=by
 refine(Zco h 1 (idxK i) w H M.o.len hT (fun h1 y er=>er= .nilIface/\y=true/\Fin h1 a.n i m a.v false p.tF) (fun jj qq X ho hjj hc TX=> ?_)).mono ?_
 ·obtain⟨rfl,rfl⟩:jj=0/\qq=q:=⟨(by omega),(by obtain rfl:jj=0:=(by omega);exact Option.some.inj (hjj.symm.trans M.o.hj))⟩
  refine(Za4 h 0 qq (idxK i) (fun h1 y er=>er= .nilIface/\y=true/\ ∃T':TT,T'.last=qq.T.last/\h1=(h.inn.tab 0 qq T').pm (p.loose a.t)) X TX.is K M.o.hj M.o.mm (by omega) hd (fun Z TZ=> ?_)).mono ?_
  ·refine(mdel_y h.inn 0 qq p i m a u Z TZ.is M.inn).mono ?_
   rintro e Y ⟨T',rfl,h1,h2,h3⟩
   exact⟨_,true, .nilIface,rfl,⟨rfl,rfl,T',h1,rfl⟩,rfl,h3⟩
  ·rintro e Y ⟨h1,y,er,rfl,⟨rfl,rfl,T',h2,rfl⟩,h4⟩
   refine⟨_,true, .nilIface,rfl,⟨rfl,rfl,{qq with T:=T'},p.loose a.t,a,⟨?_,M.o.mm,M.o.ow,rfl,M.o.x, ?_,by show T'.last<=2000;rw[h2];exact M.o.la⟩,hp,M.pl,rfl,rfl, ?_,fun k hk=> ?_⟩,h4⟩
   ·exact Mn (h:=h) M.o.hj T'
   ·show (h.l.set 0 _).length<=_
    rw[List.length_set]
    exact M.o.len
   ·show putK p.tF (a.t:Int) none (i:Int)=none
    rw[M.t]
    exact Gs _ _ _
   ·show putK p.tF (a.t:Int) none k=p.tF k
    rw[M.t]
    exact Gl _ _ hk
 ·rintro e Y ⟨h1,y,er,rfl,hh,h4⟩
  refine⟨h1,y,er,rfl, ?_,h4⟩
  rcases hh with ⟨h9,h5,h6,_⟩|⟨_,h5⟩
  ·exact .inl ⟨_,h5,rfl,h9,h6⟩
  ·exact .inr h5
theorem Uf {n i:Nat} {r:VV} (hn:1<=n) (hi:i<=1000000) (hg:r.good=true) (hk:Gz n r=true):orE [thE 1 n,Dh (idxK i),Af [r],By n [r]]=0:=by
 have h1:thE 1 n=0:=by
  unfold thE Qw
  rw[decide_eq_true (show (1:Int)<=1 by omega),decide_eq_true (show (1:Int)<=(n:Int) by omega)]
  rfl
 have h2:Dh (idxK i)=0:=by
  unfold Dh
  rw[Kl hi]
  rfl
 have h3:Af [r]=0:=by
  unfold Af
  rw[List.all_cons,hg]
  rfl
 have h4:By n [r]=0:=by
  unfold By
  rw[List.all_cons,hk]
  rfl
 rw[h1,h2,h3,h4]
 rfl
theorem Za5 (h:HP) (q:OB) (p:PM) (i m:Nat) (a:PA) (r:VV) (w:World) (H:h.Is w) (hT:Tabs w) (K:h.Ok) (M:MO h 0 q p) (hf:1<=h.fuel) (hd:h.ent≠h.depth) (hi:i<=1000000) (hg:r.good=true) (hk:Gz h.l.length r=true) (hF:p.tF (i:Int)=some m) (ha:p.l[m]? =some a):Calls prog 16 #[.pointer (some ⟨h.b,0,none⟩), .int .i64 1,(idxK i).agg,r.agg] w fun e w'=>e= .returned (.tuple #[a.v.agg, .nilIface])/\h.To h.less w w':=by
 have hlj:0<h.l.length:=(List.getElem?_eq_some_iff.1 M.hj).1
 refine(dorGet h 1 (idxK i) r w H M.len hT (fun h1 V er=>er= .nilIface/\V=a.v/\h1=h.less) (fun jj qq X ho hjj hc TX=> ?_)).mono ?_
 ·obtain⟨rfl,rfl⟩:jj=0/\qq=q:=⟨(by omega),(by obtain rfl:jj=0:=(by omega);exact Option.some.inj (hjj.symm.trans M.hj))⟩
  refine(ZbH h 0 qq (idxK i) r (fun h1 V er=>er= .nilIface/\V=a.v/\h1=h.inn) X TX.is K M.hj M.mm (by omega) hd (fun Z TZ=> ?_)).mono ?_
  ·refine(mget_y h.inn 0 qq p i m a r Z TZ.is M.inn hF ha hi).mono ?_
   rintro e Y ⟨rfl,hb⟩
   exact⟨h.inn,_, .nilIface,rfl,⟨rfl,rfl,rfl⟩,rfl,HP.To.refl TZ.is hb⟩
  ·rintro e Y ⟨h1,V,er,rfl,⟨rfl,rfl,rfl⟩,h4⟩
   rw[Yd] at h4
   exact⟨h.less,_, .nilIface,rfl,⟨rfl,rfl,rfl⟩,h4⟩
 ·rintro e Y ⟨h1,V,er,rfl,hh,h4⟩
  rcases hh with ⟨h5,_⟩|⟨_,rfl,rfl,rfl⟩
  ·exact absurd (Uf (by omega) hi hg hk) h5
  ·exact⟨rfl,h4⟩
theorem dget_n (h:HP) (q:OB) (p:PM) (i m:Nat) (a:PA) (r:VV) (w:World) (H:h.Is w) (hT:Tabs w) (K:h.Ok) (M:MO h 0 q p) (hf:1<=h.fuel) (hd:h.ent≠h.depth) (hi:i<=1000000) (hg:r.good=true) (hk:Gz h.l.length r=true) (hF:p.tF (i:Int)=none) (hfi:(q.T.find (idxK i)).isSome=true) (hgk:(getD q.T (idxK i)).g.k=0):Calls prog 16 #[.pointer (some ⟨h.b,0,none⟩), .int .i64 1,(idxK i).agg,r.agg] w fun e w'=>e= .returned (.tuple #[(getD q.T (idxK i)).v.agg, .nilIface])/\h.To h.less w w':=by
 have hlj:0<h.l.length:=(List.getElem?_eq_some_iff.1 M.hj).1
 refine(dorGet h 1 (idxK i) r w H M.len hT (fun h1 V er=>er= .nilIface/\V=(getD q.T (idxK i)).v/\h1=h.less) (fun jj qq X ho hjj hc TX=> ?_)).mono ?_
 ·obtain⟨rfl,rfl⟩:jj=0/\qq=q:=⟨(by omega),(by obtain rfl:jj=0:=(by omega);exact Option.some.inj (hjj.symm.trans M.hj))⟩
  refine(ZbH h 0 qq (idxK i) r (fun h1 V er=>er= .nilIface/\V=(getD qq.T (idxK i)).v/\h1=h.inn) X TX.is K M.hj M.mm (by omega) hd (fun Z TZ=> ?_)).mono ?_
  ·refine(mget_n h.inn 0 qq p i r Z TZ.is M.inn hF hi hfi hgk).mono ?_
   rintro e Y ⟨rfl,hb⟩
   exact⟨h.inn,_, .nilIface,rfl,⟨rfl,rfl,rfl⟩,rfl,HP.To.refl TZ.is hb⟩
  ·rintro e Y ⟨h1,V,er,rfl,⟨rfl,rfl,rfl⟩,h4⟩
   rw[Yd] at h4
   exact⟨h.less,_, .nilIface,rfl,⟨rfl,rfl,rfl⟩,h4⟩
 ·rintro e Y ⟨h1,V,er,rfl,hh,h4⟩
  rcases hh with ⟨h5,_⟩|⟨_,rfl,rfl,rfl⟩
  ·exact absurd (Uf (by omega) hi hg hk) h5
  ·exact⟨rfl,h4⟩
theorem ex_bO {o:Oper} {a:Act} {w:World} (ho:o.op= .build 70 #[]):(execOp a.eval o).run prog w= .ok (.value (.agg #[])) w:=by
 have e:(Instr.build 70 #[]).run prog w= .ok (.agg #[]) w:=by kernel_rfl
 unfold execOp
 simp only[ho]
 simp[e]
theorem ZaT (n:Nat):Aq n Ag=0:=by
 unfold Aq
 rw[Mv]
 rfl
theorem make_h (h:HP) (w:World) (H:h.Is w) (hT:Tabs w) (hl:h.l.length<=65535) (hr:Jk h=0):Calls prog 14 #[.pointer (some ⟨h.b,0,none⟩),Ag.agg] w fun e w'=> ∃(gv:Value) (q:OB),e= .returned (.tuple #[.int .i64 ((h.l.length:Int)+1), .nilIface])/\q.m=false/\q.x=true/\pr q.T= []/\q.T.last=0/\h.To (h.more gv q) w w':=by
 have SS:=Ac H.start
 have HA:=fun (X:World) (kx:h.To h w X)=>add_h h Ag 1 false none X kx.is (kx.tabs H hT) (by omega)
 simp only[Dk] at HA
 rw[Dk]
 go_enter func14,ntmps14
 go_wp2_with (first|go_skip|((with_reducible show wpList ..);first|(refine zB 26 (Ag.cs) (by rfl) rfl rfl rfl SS ?_;clear SS;intro Xa Ba SS;simp only[nn])|(refine zL (Ag.cs) 26 5 1 rwV szV (by rfl) rfl rfl SS rfl rfl rfl ?_;simp only[nn])|(refine rd rfl (ex_bO rfl) ?_)))
 refine(HA _ (HP.To.end H (Aa SS) rfl)).mono ?_
 clear HA
 rintro _ Y1 (⟨rfl,hc1,T1⟩|⟨hc1,gv,q,rfl,a1,a2,a3,a4,a5,a6,a7,T1⟩)
 ·refine absurd ?_ hc1
  rw[ZaT,hr]
  rfl
 ·replace SS:=Ac ((Aa SS).heap 0 rfl T1)
  have hb1:(h.more gv q).b=h.b:=T1.hb
  clear T1
  go_wp2
  go_ret2
  exact⟨gv,q,rfl,a4,a3,a6,a7,HP.To.end H (Aa SS) hb1⟩
