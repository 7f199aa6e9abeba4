import Derived.Test.YthjnflilfjcgiaaGreatFmtRv
set_option linter.all false
namespace Go.Proofs.YthjnflilfjcgiaaGreatFmt
set_option maxRecDepth 100000
set_option maxHeartbeats 0
section
open Go Go.Proofs Go.Maps Go.RowKit FM Tryz
attribute [local go_sem] mm_DefineOwnProperty mm_GetOwnProperty mm_HasProperty mm_Get mm_Delete mm_OwnPropertyKeys ta_caller
theorem ex_notT {o:Oper} {a:Act} {w:World} {x:Operand} {b:Bool} (hb:b=true) (ho:o.op= .unOp .not 4 x) (hx:a.eval x= .bool b):(execOp a.eval o).run prog w= .ok (.value (.bool false)) w:=by
 subst hb
 unfold execOp
 simp only[ho,hx]
 simp[go_sem]
theorem tells_long (B:Option Addr) (cp:Nat) (vs:List VV) (n:Int) (w:World) (h6:6<=w.heap.size) (hT:Tabs w) (hR:ReadsV w B vs) (hX64: ∀(i:Nat) (v:VV),vs[i]? =some v->v.x<2^64) (hz:300<vs.length):Calls prog 3 #[.slice B vs.length cp, .int .i64 n] w fun e w'=>e= .returned (.bool true)/\Below w.heap.size w w':=by
 have hgt:decide ((300:Int)<(vs.length:Int))=true:=decide_eq_true (by omega)
 have SS:=hide (Sy.nil w [])
 have HR:=hide hR
 have HT:=hide hT
 have HX:=hide hX64
 clear hR hX64
 go_enter func3,ntmps3
 go_wp2_with fail
 refine(works_h _ h6 hT).mono ?_
 rintro _ X0 ⟨rfl,hb⟩
 clear hT
 have h60:6<=X0.heap.size:=Nat.le_trans h6 hb.size
 replace SS:=hide ((uh SS).on hb)
 clear hb
 go_wp2_with (first|go_skip|((with_reducible show wpList ..);first|(refine rd rfl (ex_lenG 22 35 underlying22 rfl rfl) ?_;simp only[nn])|(refine rd rfl (ex_gtI rfl rfl rfl hgt) ?_;simp only[nn])))
 go_ret
 exact⟨rfl,(uh SS).fr.below⟩
theorem tells_bad (B:Option Addr) (cp:Nat) (vs:List VV) (n:Int) (w:World) (h6:6<=w.heap.size) (hT:Tabs w) (hR:ReadsV w B vs) (hX64: ∀(i:Nat) (v:VV),vs[i]? =some v->v.x<2^64) (hz:vs.length<=300) (hc:knE 0 vs≠0):Calls prog 3 #[.slice B vs.length cp, .int .i64 n] w fun e w'=>e= .returned (.bool true)/\Below w.heap.size w w':=by
 have hgt:decide ((300:Int)<(vs.length:Int))=false:=decide_eq_false (by omega)
 have SS:=hide (Sy.nil w [])
 have HR:=hide hR
 have HT:=hide hT
 have HX:=hide hX64
 clear hR hX64
 go_enter func3,ntmps3
 go_wp2_with fail
 refine(works_h _ h6 hT).mono ?_
 rintro _ X0 ⟨rfl,hb⟩
 clear hT
 have h60:6<=X0.heap.size:=Nat.le_trans h6 hb.size
 replace SS:=hide ((uh SS).on hb)
 clear hb
 go_wp2_with (first|go_skip|((with_reducible show wpList ..);first|(refine rd rfl (ex_lenG 22 35 underlying22 rfl rfl) ?_;simp only[nn])|(refine rd rfl (ex_gtI rfl rfl rfl hgt) ?_;simp only[nn])))
 refine(newF 5000 (by decide) _ h60).mono ?_
 rintro _ X1 ⟨B0,rfl,hI,hB0,hb⟩
 replace SS:=hide (new_sy hI (Nat.le_trans (uh SS).fr.size hB0) (((uh SS).fr.below).trans (hb.mono (uh SS).fr.size)))
 clear hI hb hB0 h60
 go_wp2_with fail
 refine(lnum 0 _).mono ?_
 rintro _ _ ⟨rfl,rfl⟩
 go_wp2_with fail
 refine(null_any _).mono ?_
 rintro _ Y ⟨rfl,hb⟩
 replace SS:=hide ((uh SS).on hb)
 clear hb
 go_wp2_with fail
 have HC:=of_bad (newHP B0 1 5000 5) B cp vs _ ((uh SS).hp 0 rfl) ((uh HT).fr (uh SS).fr (by simp)) (fun k=>rd_heap (uh SS) (uh HR) k) (by omega) hc
 refine HC.mono ?_
 clear HC
 rintro _ Y ⟨rfl,T1⟩
 replace SS:=hide ((uh SS).heap 0 rfl T1)
 clear T1
 generalize knE (newHP B0 1 5000 5).l.length vs=z
 unfold ePair
 go_wp2_with fail
 refine(lnum 0 _).mono ?_
 rintro _ _ ⟨rfl,rfl⟩
 go_wp2_with fail
 refine(len_h (newHP B0 1 5000 5) _ ((uh SS).hp 0 rfl)).mono ?_
 rintro _ _ ⟨rfl,rfl⟩
 go_wp2
 go_ret
 exact⟨rfl,(uh SS).fr.below⟩
theorem tells_good (B:Option Addr) (cp:Nat) (vs:List VV) (n:Int) (w:World) (h6:6<=w.heap.size) (hT:Tabs w) (hR:ReadsV w B vs) (hX64: ∀(i:Nat) (v:VV),vs[i]? =some v->v.x<2^64) (hz:vs.length<=300) (hc:knE 0 vs=0):Calls prog 3 #[.slice B vs.length cp, .int .i64 n] w fun e w'=>e= .returned (.bool true)/\Below w.heap.size w w':=by
 have hgt:decide ((300:Int)<(vs.length:Int))=false:=decide_eq_false (by omega)
 have SS:=hide (Sy.nil w [])
 have HR:=hide hR
 have HT:=hide hT
 have HX:=hide hX64
 clear hR hX64
 go_enter func3,ntmps3
 go_wp2_with fail
 refine(works_h _ h6 hT).mono ?_
 rintro _ X0 ⟨rfl,hb⟩
 clear hT
 have h60:6<=X0.heap.size:=Nat.le_trans h6 hb.size
 replace SS:=hide ((uh SS).on hb)
 clear hb
 go_wp2_with (first|go_skip|((with_reducible show wpList ..);first|(refine rd rfl (ex_lenG 22 35 underlying22 rfl rfl) ?_;simp only[nn])|(refine rd rfl (ex_gtI rfl rfl rfl hgt) ?_;simp only[nn])))
 refine(newF 5000 (by decide) _ h60).mono ?_
 rintro _ X1 ⟨B0,rfl,hI,hB0,hb⟩
 replace SS:=hide (new_sy hI (Nat.le_trans (uh SS).fr.size hB0) (((uh SS).fr.below).trans (hb.mono (uh SS).fr.size)))
 clear hI hb hB0 h60
 go_wp2_with fail
 refine(lnum 0 _).mono ?_
 rintro _ _ ⟨rfl,rfl⟩
 go_wp2_with fail
 refine(null_any _).mono ?_
 rintro _ Y ⟨rfl,hb⟩
 replace SS:=hide ((uh SS).on hb)
 clear hb
 go_wp2_with fail
 have HC:=of_good (newHP B0 1 5000 5) B cp vs _ ((uh SS).hp 0 rfl) ((uh HT).fr (uh SS).fr (by simp)) (fun k=>rd_heap (uh SS) (uh HR) k) (by omega) (uh HX) (Nat.zero_le _) (new_room B0 5000) hc
 refine HC.mono ?_
 clear HC
 rintro _ Y ⟨gv,q,rfl,a1,a2,a3,a4,T1⟩
 replace SS:=hide ((uh SS).heap 0 rfl T1)
 clear T1
 have A:=hide (new_ah B0 5000 gv q a1)
 obtain⟨h,hh⟩: ∃h,h=(newHP B0 1 5000 5).more gv q:=⟨_,rfl⟩
 rw[←hh] at A SS
 have hB:h.b=B0:=by rw[hh];rfl
 clear hh
 obtain rfl:B0=h.b:=hB.symm
 rw[arr_els] at a3
 have HQ:=hide (And.intro a3 a4)
 clear a1 a2 a3 a4
 go_wp2_with fail
 refine(lnum 0 _).mono ?_
 rintro _ _ ⟨rfl,rfl⟩
 go_wp2_with fail
 refine(ref_any _ (((uh HT).fr (uh SS).fr (by simp))).1).mono ?_
 rintro _ Y ⟨rfl,hb⟩
 replace SS:=hide ((uh SS).on hb)
 clear hb
 rw[vagg]
 go_wp2_with (first|go_skip|((with_reducible show wpList ..);first|(refine zA 35 (zeroV.cs) (by rfl) rfl SS ?_;clear SS;intro Xs Bs SS;simp only[nn])|(refine zS ((refV 1).cs) 1 35 (by rfl) rfl rfl rfl rfl (oneV _) szV SS rfl ?_;clear SS;intro Xt SS;simp only[nn])))
 have HI0:Hid (TI w q h.b Bs 0 _):=hide ⟨h,rfl,(by simpa using uh A),uh SS⟩
 have HW:=hide (uh SS).fr.size
 clear SS A
 obtain⟨hbk,hbe⟩: ∃b,b=h.b:=⟨_,rfl⟩
 rw[←hbe] at HI0 ⊢
 clear hbe h
 go_loopg [10] vs.length (fun gm s10 wr=> ∃i:Nat,s10= .int .i64 (i:Nat)/\i<=vs.length/\vs.length - i<=gm/\Hid (TI w q hbk Bs i wr))
 case atStart=>exact⟨0,rfl,by omega,by omega,HI0⟩
 case round=>
  clear HI0
  obtain⟨i,rfl,hil,hgm,HI⟩:=hrel
  by_cases hlt:i<vs.length
  ·have dlt:decide ((i:Int)<(vs.length:Int))=true:=decide_eq_true (by omega)
   have hw1:IntKind.i64.wrap ((i:Int)+1)=(i:Int)+1:=by rw[IntKind.wrap_i64];omega
   have hi32:i<=4294967295:=by omega
   obtain⟨v,hv⟩: ∃v,vs[i]? =some v:=⟨_,List.getElem?_eq_getElem hlt⟩
   obtain⟨b,off,hA,hb,hrg⟩:=(uh HR) i v hv
   have HA2:Hid (∀X:World,Fr w X []->X.rangeAt b (off+i * 5) v.cs):=hide (fun X k=>by
    obtain⟨b2,off2,hA2,_,hr2⟩:=((uh HR).fr2 k (by simp)) i v hv
    rw[hA] at hA2
    obtain⟨rfl,rfl⟩:b=b2/\off=off2:=by simpa using hA2
    exact hr2)
   subst hA
   clear hb hrg
   obtain⟨h,rfl,hAH,hS⟩:=uh HI
   have A:=hide hAH
   have SS:=hide hS
   have HG:=fun {X:World} (H:h.Is X) (hT:Tabs X)=>dget_i hAH (by omega) (by omega) (uh HQ).1 hv (by omega) H hT
   clear hS HI hAH
   have HLT:=hide hlt
   clear hlt hil
   go_wp2_with (first|go_skip|((with_reducible show wpList ..);first|(refine rd rfl (ex_lenG 22 35 underlying22 rfl rfl) ?_;simp only[nn])|(refine rd rfl (ex_ltI3 rfl rfl rfl dlt) ?_;simp only[nn])))
   have hS17:Sy w _ [] [hpO h,boxO Bs (refV 1).cs]:=(uh SS).drew
   clear SS
   refine wp_region_held_drew (P:=prog) (S:=fun X=>Holds X Bs (refV 1).cs) (by kernel_rfl) (hS17.hold 1 rfl) (fun hS0=> ?_)
   refine gp 0 (some 65) (.pointer (some ⟨h.b,0,none⟩)) rfl rfl (hS17.hold 1 rfl) ?_
   simp only[nn]
   refine gp 1 (some 66) (.int .i64 (i:Nat)) rfl rfl (hS17.hold 1 rfl) ?_
   simp only[nn]
   refine gq 2 (some 67) (.int .u32 (i:Nat)) rfl rfl (fun X hX=>ex_c32 rfl rfl hi32) (hS17.hold 1 rfl) ?_
   simp only[nn]
   refine gq 4 (some 69) (.agg (refV 1).cs.toArray) rfl rfl (fun X hX=>ex_loadN (vs:=(refV 1).cs) 35 5 rwV szV rfl rfl hX rfl rfl) (hS17.hold 1 rfl) ?_
   simp only[nn]
   refine gr (rs:= [3,9]) (gc 3 (some 68) rfl rfl (fromIndex32 i hi32 _ ((uh HT).fr hS17.fr (by simp)).2) ?_ (galS (v:= .agg (zeroV.cs).toArray) 9 (some 11) 35 (zeroV.cs) rfl rfl (by kernel_rfl) rfl (fun w=>by kernel_rfl) rfl (Nat.succ_pos _) hS17 (fun _ hZ=>hZ.hold 1 rfl) ?_ gn))
   ·rintro e Yt1 ⟨rfl,hYt1⟩
    have hqt1:=Sy.on hS17 hYt1
    refine⟨_,rfl,hqt1.hold 1 rfl, ?_⟩
    simp only[nn]
    refine gr (rs:= [5,9]) (gc 5 (some 70) rfl rfl (HG (hqt1.hp 0 rfl) ((uh HT).fr hqt1.fr (by simp))) ?_ (galS (v:= .agg (zeroV.cs).toArray) 9 (some 11) 35 (zeroV.cs) rfl rfl (by kernel_rfl) rfl (fun w=>by kernel_rfl) rfl (Nat.succ_pos _) hqt1 (fun _ hZ=>hZ.hold 1 rfl) ?_ gn))
    ·rintro e Yt2 ⟨rfl,T3⟩
     have hqg:=Sy.heap hqt1 0 rfl T3
     refine⟨_,rfl,hqg.hold 1 rfl, ?_⟩
     refine gp 6 (some 64) (.tuple #[.agg v.cs.toArray, .nilIface]) rfl rfl (hqg.hold 1 rfl) ?_
     simp only[nn]
     refine gp 7 (some 71) (.agg v.cs.toArray) rfl rfl (hqg.hold 1 rfl) ?_
     simp only[nn]
     refine gp 8 (some 72) (.nilIface) rfl rfl (hqg.hold 1 rfl) ?_
     simp only[nn]
     refine gr (rs:= [9]) (galS (v:= .agg (zeroV.cs).toArray) 9 (some 11) 35 (zeroV.cs) rfl rfl (by kernel_rfl) rfl (fun w=>by kernel_rfl) rfl (Nat.succ_pos _) hqg (fun _ hZ=>hZ.hold 1 rfl) ?_ gn)
     intro Yt3 Bt3 hEt3 hqt3
     clear hEt3
     simp only[nn]
     refine gr (rs:= [10]) (gstS (vs:=v.cs) (new:=v.cs) 10 2 35 rfl rfl (by kernel_rfl) rfl rfl rfl rfl (oneV _) szV hqt3 rfl (by simp[cput,VV.cs,KK.cs,DD.cs,OB.cs,hcs,zeroD,zeroV]) (by simp[cput,VV.cs,KK.cs,DD.cs,OB.cs,hcs,zeroD,zeroV]) (fun _ hZ=>hZ.hold 1 rfl) ?_ gn)
     intro Yt4 hqt4
     refine gp 11 (some 12) (.nilIface) rfl rfl (hqt4.hold 1 rfl) ?_
     simp only[nn]
     refine wpAnyH_done (by kernel_rfl) ?_ _
     try simp only[nn]
     have SS:=hide hqt4
     clear hqt4
     go_wp2_with fail
     have hS18:Sy w _ [] [hpO h.less,boxO Bs (refV 1).cs,boxO Bt3 v.cs]:=(uh SS).drew
     clear SS
     refine wp_region_held_drew (P:=prog) (S:=fun X=>Sy w X [] _) (by kernel_rfl) (hS18) (fun hS0=> ?_)
     refine gp 0 (some 73) (.nilIface) rfl rfl (hS18) ?_
     simp only[nn]
     refine gp 1 (some 74) (.bool false) rfl rfl (hS18) ?_
     simp only[nn]
     refine gp 2 (some 75) (.bool false) rfl rfl (hS18) ?_
     simp only[nn]
     refine gq 3 (some 76) (.agg v.cs.toArray) rfl rfl (fun X hX=>ex_loadN (vs:=v.cs) 35 5 rwV szV rfl rfl (hX.hold 2 rfl) rfl rfl) (hS18) ?_
     simp only[nn]
     refine gp 4 (some 77) (.slice (some ⟨b,off,none⟩) vs.length cp) rfl rfl (hS18) ?_
     simp only[nn]
     refine gp 5 (some 78) (.int .i64 (i:Nat)) rfl rfl (hS18) ?_
     simp only[nn]
     refine gq 6 (some 79) (.pointer (some ⟨b,off+i * 5,none⟩)) rfl rfl (fun X hX=>ex_indexG 22 5 i unVs idVs rfl rfl rfl (uh HLT)) (hS18) ?_
     simp only[nn]
     refine gq 7 (some 80) (.agg v.cs.toArray) rfl rfl (fun X hX=>ex_loadR (vs:=v.cs) 35 5 rwV szV rfl rfl (uh HA2 _ hX.fr) rfl) (hS18) ?_
     simp only[nn]
     refine gr (rs:= [8]) (gcB 8 (some 81) rfl rfl hS18 (eq_any v v _) id ?_ gn)
     intro Ye1 hqe1
     refine gq 9 (some 82) (.bool false) rfl rfl (fun X hX=>ex_notT (eqB_self v) rfl rfl) (hqe1) ?_
     simp only[nn]
     refine gp 10 (some 83) (.bool false) rfl rfl (hqe1) ?_
     simp only[nn]
     refine wpAnyH_done (by kernel_rfl) ?_ _
     try simp only[nn]
     have SS:=hide (Sy.left (L:= [hpO h.less,boxO Bs (refV 1).cs]) (M:= [boxO Bt3 v.cs]) hqe1)
     have HI2:Hid (TI w q h.b Bs (i+1) _):=hide ⟨h.less,rfl,(by have h9:=(uh A).less;rwa [show (5000:Int) - (i:Int) - 1=5000 - ((i+1:Nat):Int) by omega] at h9),uh SS⟩
     clear SS hqe1
     go_wp2_with fail
     go_roundg (vs.length - (i+1))
     case measure=>have:=uh HLT;omega
     case rel=>exact⟨i+1,by go_num,by have:=uh HLT;omega,by omega,HI2⟩
    ·intro Yt5 Bt5 hEt5 hqt5
     clear hEt5
     simp only[nn]
     refine gr (rs:= [5]) (gc 5 (some 70) rfl rfl (HG (hqt5.hp 0 rfl) ((uh HT).fr hqt5.fr (by simp))) ?_ gn)
     rintro e Yt6 ⟨rfl,T3⟩
     have hqg:=Sy.heap hqt5 0 rfl T3
     refine⟨_,rfl,hqg.hold 1 rfl, ?_⟩
     refine gp 6 (some 64) (.tuple #[.agg v.cs.toArray, .nilIface]) rfl rfl (hqg.hold 1 rfl) ?_
     simp only[nn]
     refine gp 7 (some 71) (.agg v.cs.toArray) rfl rfl (hqg.hold 1 rfl) ?_
     simp only[nn]
     refine gp 8 (some 72) (.nilIface) rfl rfl (hqg.hold 1 rfl) ?_
     simp only[nn]
     refine gr (rs:= [10]) (gstS (vs:=v.cs) (new:=v.cs) 10 2 35 rfl rfl (by kernel_rfl) rfl rfl rfl rfl (oneV _) szV hqg rfl (by simp[cput,VV.cs,KK.cs,DD.cs,OB.cs,hcs,zeroD,zeroV]) (by simp[cput,VV.cs,KK.cs,DD.cs,OB.cs,hcs,zeroD,zeroV]) (fun _ hZ=>hZ.hold 1 rfl) ?_ gn)
     intro Yt7 hqt7
     refine gp 11 (some 12) (.nilIface) rfl rfl (hqt7.hold 1 rfl) ?_
     simp only[nn]
     refine wpAnyH_done (by kernel_rfl) ?_ _
     try simp only[nn]
     have SS:=hide hqt7
     clear hqt7
     go_wp2_with fail
     have hS18:Sy w _ [] [hpO h.less,boxO Bs (refV 1).cs,boxO Bt5 v.cs]:=(uh SS).drew
     clear SS
     refine wp_region_held_drew (P:=prog) (S:=fun X=>Sy w X [] _) (by kernel_rfl) (hS18) (fun hS0=> ?_)
     refine gp 0 (some 73) (.nilIface) rfl rfl (hS18) ?_
     simp only[nn]
     refine gp 1 (some 74) (.bool false) rfl rfl (hS18) ?_
     simp only[nn]
     refine gp 2 (some 75) (.bool false) rfl rfl (hS18) ?_
     simp only[nn]
     refine gq 3 (some 76) (.agg v.cs.toArray) rfl rfl (fun X hX=>ex_loadN (vs:=v.cs) 35 5 rwV szV rfl rfl (hX.hold 2 rfl) rfl rfl) (hS18) ?_
     simp only[nn]
     refine gp 4 (some 77) (.slice (some ⟨b,off,none⟩) vs.length cp) rfl rfl (hS18) ?_
     simp only[nn]
     refine gp 5 (some 78) (.int .i64 (i:Nat)) rfl rfl (hS18) ?_
     simp only[nn]
     refine gq 6 (some 79) (.pointer (some ⟨b,off+i * 5,none⟩)) rfl rfl (fun X hX=>ex_indexG 22 5 i unVs idVs rfl rfl rfl (uh HLT)) (hS18) ?_
     simp only[nn]
     refine gq 7 (some 80) (.agg v.cs.toArray) rfl rfl (fun X hX=>ex_loadR (vs:=v.cs) 35 5 rwV szV rfl rfl (uh HA2 _ hX.fr) rfl) (hS18) ?_
     simp only[nn]
     refine gr (rs:= [8]) (gcB 8 (some 81) rfl rfl hS18 (eq_any v v _) id ?_ gn)
     intro Ye1 hqe1
     refine gq 9 (some 82) (.bool false) rfl rfl (fun X hX=>ex_notT (eqB_self v) rfl rfl) (hqe1) ?_
     simp only[nn]
     refine gp 10 (some 83) (.bool false) rfl rfl (hqe1) ?_
     simp only[nn]
     refine wpAnyH_done (by kernel_rfl) ?_ _
     try simp only[nn]
     have SS:=hide (Sy.left (L:= [hpO h.less,boxO Bs (refV 1).cs]) (M:= [boxO Bt5 v.cs]) hqe1)
     have HI2:Hid (TI w q h.b Bs (i+1) _):=hide ⟨h.less,rfl,(by have h9:=(uh A).less;rwa [show (5000:Int) - (i:Int) - 1=5000 - ((i+1:Nat):Int) by omega] at h9),uh SS⟩
     clear SS hqe1
     go_wp2_with fail
     go_roundg (vs.length - (i+1))
     case measure=>have:=uh HLT;omega
     case rel=>exact⟨i+1,by go_num,by have:=uh HLT;omega,by omega,HI2⟩
   ·intro Yt8 Bt8 hEt8 hqt8
    clear hEt8
    simp only[nn]
    refine gr (rs:= [3]) (gc 3 (some 68) rfl rfl (fromIndex32 i hi32 _ ((uh HT).fr hqt8.fr (by simp)).2) ?_ gn)
    rintro e Yt9 ⟨rfl,hYt9⟩
    have hqt9:=Sy.on hqt8 hYt9
    refine⟨_,rfl,hqt9.hold 1 rfl, ?_⟩
    simp only[nn]
    refine gr (rs:= [5]) (gc 5 (some 70) rfl rfl (HG (hqt9.hp 0 rfl) ((uh HT).fr hqt9.fr (by simp))) ?_ gn)
    rintro e Yt10 ⟨rfl,T3⟩
    have hqg:=Sy.heap hqt9 0 rfl T3
    refine⟨_,rfl,hqg.hold 1 rfl, ?_⟩
    refine gp 6 (some 64) (.tuple #[.agg v.cs.toArray, .nilIface]) rfl rfl (hqg.hold 1 rfl) ?_
    simp only[nn]
    refine gp 7 (some 71) (.agg v.cs.toArray) rfl rfl (hqg.hold 1 rfl) ?_
    simp only[nn]
    refine gp 8 (some 72) (.nilIface) rfl rfl (hqg.hold 1 rfl) ?_
    simp only[nn]
    refine gr (rs:= [10]) (gstS (vs:=v.cs) (new:=v.cs) 10 2 35 rfl rfl (by kernel_rfl) rfl rfl rfl rfl (oneV _) szV hqg rfl (by simp[cput,VV.cs,KK.cs,DD.cs,OB.cs,hcs,zeroD,zeroV]) (by simp[cput,VV.cs,KK.cs,DD.cs,OB.cs,hcs,zeroD,zeroV]) (fun _ hZ=>hZ.hold 1 rfl) ?_ gn)
    intro Yt11 hqt11
    refine gp 11 (some 12) (.nilIface) rfl rfl (hqt11.hold 1 rfl) ?_
    simp only[nn]
    refine wpAnyH_done (by kernel_rfl) ?_ _
    try simp only[nn]
    have SS:=hide hqt11
    clear hqt11
    go_wp2_with fail
    have hS18:Sy w _ [] [hpO h.less,boxO Bs (refV 1).cs,boxO Bt8 v.cs]:=(uh SS).drew
    clear SS
    refine wp_region_held_drew (P:=prog) (S:=fun X=>Sy w X [] _) (by kernel_rfl) (hS18) (fun hS0=> ?_)
    refine gp 0 (some 73) (.nilIface) rfl rfl (hS18) ?_
    simp only[nn]
    refine gp 1 (some 74) (.bool false) rfl rfl (hS18) ?_
    simp only[nn]
    refine gp 2 (some 75) (.bool false) rfl rfl (hS18) ?_
    simp only[nn]
    refine gq 3 (some 76) (.agg v.cs.toArray) rfl rfl (fun X hX=>ex_loadN (vs:=v.cs) 35 5 rwV szV rfl rfl (hX.hold 2 rfl) rfl rfl) (hS18) ?_
    simp only[nn]
    refine gp 4 (some 77) (.slice (some ⟨b,off,none⟩) vs.length cp) rfl rfl (hS18) ?_
    simp only[nn]
    refine gp 5 (some 78) (.int .i64 (i:Nat)) rfl rfl (hS18) ?_
    simp only[nn]
    refine gq 6 (some 79) (.pointer (some ⟨b,off+i * 5,none⟩)) rfl rfl (fun X hX=>ex_indexG 22 5 i unVs idVs rfl rfl rfl (uh HLT)) (hS18) ?_
    simp only[nn]
    refine gq 7 (some 80) (.agg v.cs.toArray) rfl rfl (fun X hX=>ex_loadR (vs:=v.cs) 35 5 rwV szV rfl rfl (uh HA2 _ hX.fr) rfl) (hS18) ?_
    simp only[nn]
    refine gr (rs:= [8]) (gcB 8 (some 81) rfl rfl hS18 (eq_any v v _) id ?_ gn)
    intro Ye1 hqe1
    refine gq 9 (some 82) (.bool false) rfl rfl (fun X hX=>ex_notT (eqB_self v) rfl rfl) (hqe1) ?_
    simp only[nn]
    refine gp 10 (some 83) (.bool false) rfl rfl (hqe1) ?_
    simp only[nn]
    refine wpAnyH_done (by kernel_rfl) ?_ _
    try simp only[nn]
    have SS:=hide (Sy.left (L:= [hpO h.less,boxO Bs (refV 1).cs]) (M:= [boxO Bt8 v.cs]) hqe1)
    have HI2:Hid (TI w q h.b Bs (i+1) _):=hide ⟨h.less,rfl,(by have h9:=(uh A).less;rwa [show (5000:Int) - (i:Int) - 1=5000 - ((i+1:Nat):Int) by omega] at h9),uh SS⟩
    clear SS hqe1
    go_wp2_with fail
    go_roundg (vs.length - (i+1))
    case measure=>have:=uh HLT;omega
    case rel=>exact⟨i+1,by go_num,by have:=uh HLT;omega,by omega,HI2⟩
  ·obtain rfl:i=vs.length:=by omega
   clear hlt hil
   obtain⟨h,rfl,hAH,hS⟩:=uh HI
   have A:=hide hAH
   have SS:=hide hS
   clear hS HI hAH
   have dlt:decide ((vs.length:Int)<(vs.length:Int))=false:=decide_eq_false (by omega)
   by_cases h0:vs.length=0
   ·have dgt:decide ((0:Int)<(vs.length:Int))=false:=decide_eq_false (by omega)
    go_wp2_with (first|go_skip|((with_reducible show wpList ..);first|(refine rd rfl (ex_lenG 22 35 underlying22 rfl rfl) ?_;simp only[nn])|(refine rd rfl (ex_ltI3 rfl rfl rfl dlt) ?_;simp only[nn])|(refine rd rfl (ex_gtI rfl rfl rfl dgt) ?_;simp only[nn])))
    go_wp2_with fail
    refine(lstrL _).mono ?_
    rintro _ Y ⟨rfl,hb⟩
    replace SS:=hide ((uh SS).on hb)
    clear hb
    go_wp2_with (first|go_skip|((with_reducible show wpList ..);first|(refine rd rfl (ex_nfI (n:=0) rfl rfl) ?_;simp only[nn])))
    refine(num_any (nf 0) _).mono ?_
    rintro _ Y ⟨rfl,hb⟩
    replace SS:=hide ((uh SS).on hb)
    clear hb
    go_wp2_with (first|go_skip|((with_reducible show wpList ..);first|(refine rd rfl (ex_ln1 (c:=0) rfl rfl) ?_;simp only[nn])))
    have HC:=ddef_n h 0 q 0 vs.length (elsV vs) _ ((uh SS).hp 0 rfl) ((uh HT).fr (uh SS).fr (by simp)) ((uh A).ok (by omega) (by omega)) (uh A).at0 (uh HQ).1 (fun e he=>⟨by have:=(els_mem he).1;omega,(els_mem he).2⟩) (fun e he=>(els_mem he).1) (els_nodup vs) (by have:=(uh HQ).2;omega) (by rw[els_len];omega) (.inl (by omega)) (.inl (by omega)) ((uh A).fu (by omega)) (uh A).dp
    rw[show ((0:Nat):Int)+1=1 from rfl] at HC
    rw[ln_agg] at HC
    rw[els_cut] at HC
    refine HC.mono ?_
    clear HC
    rintro _ Y ⟨T1,rfl,hp1,hl1,T9⟩
    replace SS:=hide ((uh SS).heap 0 rfl T9)
    clear T9
    obtain⟨h2,q2,hb_h2,ht_h2,A1,SS⟩: ∃(h2:HP) (q2:OB),h2.b=h.b/\q2.T=T1/\Hid (AH h2 q2 (5000 - (vs.length:Int) - 1))/\Hid (Sy w Y [] [hpO h2,boxO Bs (refV 1).cs]):=⟨(h.tab 0 q T1).less,{q with T:=T1},rfl,rfl,hide ((uh A).tab T1),SS⟩
    rw[←ht_h2] at hp1 hl1
    have HP1:=hide (And.intro hp1 hl1)
    clear hp1 hl1 ht_h2
    have htk:(vs.take 0).length=0:=by rw[List.length_take];omega
    have HTK:=hide htk
    clear htk
    go_wp2_with fail
    refine(lstrL _).mono ?_
    rintro _ Y ⟨rfl,hb⟩
    replace SS:=hide ((uh SS).on hb)
    clear hb
    go_wp2_with fail
    have HN:=fun X=>num_any 4751297606873776128 X
    refine(HN _).mono ?_
    clear HN
    rintro _ Y ⟨rfl,hb⟩
    replace SS:=hide ((uh SS).on hb)
    clear hb
    go_wp2_with (first|go_skip|((with_reducible show wpList ..);first|(refine rd rfl (ex_lnB nf_mx rfl rfl) ?_;simp only[nn])))
    have HC:=ddef_n h2 0 q2 4294967295 0 (elsV (vs.take 0)) _ ((uh SS).hp 0 rfl) ((uh HT).fr (uh SS).fr (by simp)) ((uh A1).ok (by omega) (by omega)) (uh A1).at0 (uh HP1).1 (fun e he=>⟨by have:=(els_mem he).1;have:=uh HTK;omega,(els_mem he).2⟩) (fun e he=>by have:=(els_mem he).1;have:=uh HTK;omega) (els_nodup _) (by have:=(uh HQ).2;have:=(uh HP1).2;omega) (by rw[els_len,uh HTK];omega) (.inr rfl) (.inl (by omega)) ((uh A1).fu (by omega)) (uh A1).dp
    rw[show ((0:Nat):Int)+1=1 from rfl] at HC
    rw[ln_agg] at HC
    rw[els_all (by rw[uh HTK];omega)] at HC
    rw[hb_h2] at HC
    refine HC.mono ?_
    clear HC
    rintro _ Y ⟨T2,rfl,hp2,hl2,T9⟩
    replace SS:=hide ((uh SS).heap 0 rfl T9)
    clear T9
    obtain⟨h3,q3,hb_h3,ht_h3,A2,SS⟩: ∃(h3:HP) (q3:OB),h3.b=h2.b/\q3.T=T2/\Hid (AH h3 q3 (5000 - (vs.length:Int) - 1 - 1))/\Hid (Sy w Y [] [hpO h3,boxO Bs (refV 1).cs]):=⟨(h2.tab 0 q2 T2).less,{q2 with T:=T2},rfl,rfl,hide ((uh A1).tab T2),SS⟩
    rw[←ht_h3] at hp2 hl2
    have HP2:=hide hp2
    have HL2:=hide hl2
    clear hp2 hl2 ht_h3
    rw[hb_h2] at hb_h3
    obtain⟨ks,hks⟩: ∃ks,ks=ordK ((pr q3.T).map (·.1)):=⟨_,rfl⟩
    have hko:=els_ord 4294967295 (vs.take 0) (by rw[uh HTK];omega)
    rw[←uh HP2,←hks,uh HTK] at hko
    have HKO:=hide hko.2
    have hkl:(ks.length:Int)=(0)+1:=by rw[hko.1];simp
    have hclt:0<ks.length:=by rw[hko.1];omega
    have HKS:=hide hks
    clear hko hks
    go_wp2_with fail
    have HC:=dkeys_h h3 0 q3 _ ((uh SS).hp 0 rfl) ((uh HT).fr (uh SS).fr (by simp)) ((uh A2).ok (by omega) (by omega)) (uh A2).at0 (by have:=(uh HQ).2;have:=(uh HP1).2;have:=uh HL2;omega) (by rw[els_live (uh HP2),uh HTK];omega) ((uh A2).fu (by omega)) (uh A2).dp
    rw[show ((0:Nat):Int)+1=1 from rfl] at HC
    rw[←uh HKS] at HC
    rw[hb_h3] at HC
    refine HC.mono ?_
    clear HC
    rintro _ Y ⟨kv,rfl,hO,T9⟩
    obtain⟨bs,S9⟩:=sy_keys (uh SS) T9 hO
    rcases hO.form with ⟨-,h0⟩|⟨g,kc,rfl, -⟩
    ·exfalso;rw[h0] at hclt;simp at hclt
    replace SS:Hid (Sy w Y [] [hpO h3.less,boxO Bs (refV 1).cs,rowO bs 42 2 (.slice (some ⟨g,0,none⟩) ks.length kc) ks.length (flatK ks)]):=hide S9
    clear S9 T9 hO
    go_wp2_with fail
    have HC:=len_arr h3.less 0 q3 4294967295 _ ((uh SS).hp 0 rfl) (by rw[(uh A2).less.l];show 1<=65536;decide) (uh A2).less.at0 (uh A2).c (len_cv (uh HP2) (.inr rfl)).1 (len_cv (uh HP2) (.inr rfl)).2
    rw[show ((0:Nat):Int)+1=1 from rfl] at HC
    rw[show h3.less.b=h.b from hb_h3] at HC
    rw[show ((4294967295:Nat):Int)=4294967295 from rfl] at HC
    refine HC.mono ?_
    clear HC
    rintro _ Y ⟨rfl,hb⟩
    replace SS:=hide ((uh SS).on hb)
    clear hb
    go_wp2_with fail
    have hS27:Sy w _ [] [hpO h3.less,boxO Bs (refV 1).cs,rowO bs 42 2 (.slice (some ⟨g,0,none⟩) ks.length kc) ks.length (flatK ks)]:=(uh SS).drew
    clear SS
    refine wp_region_held_drew (P:=prog) (S:=fun X=>Sy w X [] _) (by kernel_rfl) (hS27) (fun hS0=> ?_)
    refine gp 0 (some 122) (.bool true) rfl rfl (hS27) ?_
    simp only[nn]
    refine gp 1 (some 123) (.bool true) rfl rfl (hS27) ?_
    simp only[nn]
    refine gp 2 (some 124) (.bool true) rfl rfl (hS27) ?_
    simp only[nn]
    refine gp 3 (some 125) (.bool true) rfl rfl (hS27) ?_
    simp only[nn]
    refine gp 4 (some 126) (.bool true) rfl rfl (hS27) ?_
    simp only[nn]
    refine gp 5 (some 127) (.nilIface) rfl rfl (hS27) ?_
    simp only[nn]
    refine gp 6 (some 128) (.bool true) rfl rfl (hS27) ?_
    simp only[nn]
    refine gp 7 (some 129) (.bool true) rfl rfl (hS27) ?_
    simp only[nn]
    refine gp 8 (some 130) (.bool true) rfl rfl (hS27) ?_
    simp only[nn]
    refine gp 9 (some 131) (.nilIface) rfl rfl (hS27) ?_
    simp only[nn]
    refine gp 10 (some 132) (.bool true) rfl rfl (hS27) ?_
    simp only[nn]
    refine gp 11 (some 133) (.bool true) rfl rfl (hS27) ?_
    simp only[nn]
    refine gp 12 (some 134) (.bool true) rfl rfl (hS27) ?_
    simp only[nn]
    refine gp 13 (some 135) (.nilIface) rfl rfl (hS27) ?_
    simp only[nn]
    refine gp 14 (some 136) (.bool true) rfl rfl (hS27) ?_
    simp only[nn]
    refine gp 15 (some 137) (.bool true) rfl rfl (hS27) ?_
    simp only[nn]
    refine gp 16 (some 138) (.bool true) rfl rfl (hS27) ?_
    simp only[nn]
    refine gp 17 (some 139) (.slice (some ⟨g,0,none⟩) ks.length kc) rfl rfl (hS27) ?_
    simp only[nn]
    refine gq 18 (some 140) (.int .i64 (ks.length:Nat)) rfl rfl (fun X hX=>ex_lenG 54 42 underlying54 rfl rfl) (hS27) ?_
    simp only[nn]
    refine gp 19 (some 141) (.int .i64 (0)) rfl rfl (hS27) ?_
    simp only[nn]
    refine gq 20 (some 142) (.int .i64 (((0:Nat):Int)+1)) rfl rfl (fun X hX=>ex_addC (n:=0) rfl rfl rfl (by omega)) (hS27) ?_
    simp only[nn]
    refine gq 21 (some 143) (.bool true) rfl rfl (fun X hX=>ex_eqYes rfl rfl rfl hkl) (hS27) ?_
    simp only[nn]
    refine gp 22 (some 144) (.bool true) rfl rfl (hS27) ?_
    simp only[nn]
    refine gp 23 (some 145) (.bool true) rfl rfl (hS27) ?_
    simp only[nn]
    refine gp 24 (some 146) (.slice (some ⟨g,0,none⟩) ks.length kc) rfl rfl (hS27) ?_
    simp only[nn]
    refine gp 25 (some 147) (.int .i64 (0)) rfl rfl (hS27) ?_
    simp only[nn]
    refine gq 26 (some 148) (.pointer (some ⟨g,0+0 * 2,none⟩)) rfl rfl (fun X hX=>ex_ixK 0 rfl rfl rfl hclt) (hS27) ?_
    simp only[nn]
    refine gq 27 (some 149) (.agg lenK.cs.toArray) rfl rfl (fun X hX=>ex_loadR (vs:=lenK.cs) 42 2 rwK szK rfl rfl ((own_rows (base:=bs) (n:=ks.length) (c:=kc) (hX.get 2 rfl)).atK (uh HKO)) rfl) (hS27) ?_
    simp only[nn]
    refine gr (rs:= [28]) (gcB 28 (some 150) rfl rfl hS27 (lstrL _) id ?_ gn)
    intro Yz1 hqz1
    refine gq 29 (some 151) (.bool true) rfl rfl (fun X hX=>ex_eqL rfl rfl rfl) (hqz1) ?_
    simp only[nn]
    refine gp 30 (some 152) (.bool true) rfl rfl (hqz1) ?_
    simp only[nn]
    refine gp 31 (some 153) (.bool true) rfl rfl (hqz1) ?_
    simp only[nn]
    refine gp 32 (some 154) (.int .u32 4294967295) rfl rfl (hqz1) ?_
    simp only[nn]
    refine gp 33 (some 155) (.bool true) rfl rfl (hqz1) ?_
    simp only[nn]
    refine gp 34 (some 156) (.bool true) rfl rfl (hqz1) ?_
    simp only[nn]
    refine gp 35 (some 157) (.bool true) rfl rfl (hqz1) ?_
    simp only[nn]
    refine gp 36 (some 158) (.int .i64 0) rfl rfl (hqz1) ?_
    simp only[nn]
    refine gr (rs:= [37]) (gcW 37 (some 159) rfl rfl (hqz1) (lnum 0 _) ?_ gn)
    refine gp 38 (some 160) (.bool true) rfl rfl (hqz1) ?_
    simp only[nn]
    refine gp 39 (some 161) (.bool true) rfl rfl (hqz1) ?_
    simp only[nn]
    refine gp 40 (some 4) (.bool true) rfl rfl (hqz1) ?_
    simp only[nn]
    refine wpAnyH_done (by kernel_rfl) ?_ _
    try simp only[nn]
    have SS:=hide hqz1
    go_wp2
    go_ret
    exact⟨rfl,(uh SS).fr.below⟩
   ·have dgt:decide ((0:Int)<(vs.length:Int))=true:=decide_eq_true (by omega)
    have hU0:0<=IntKind.u64.wrap n/\IntKind.u64.wrap n<18446744073709551616:=by rw[IntKind.wrap_u64];omega
    obtain⟨U,hU⟩: ∃U,IntKind.u64.wrap n=U:=⟨_,rfl⟩
    rw[hU] at hU0
    obtain⟨c,hcU⟩: ∃c:Nat,U % (vs.length:Int)=(c:Int):=⟨(U % (vs.length:Int)).toNat,(Int.toNat_of_nonneg (Int.emod_nonneg _ (by omega))).symm⟩
    have hcl:c<vs.length:=by have:=Int.emod_lt_of_pos U (show (0:Int)<(vs.length:Int) by omega);omega
    have HU:=hide hU
    have HCU:=hide hcU
    clear hU hcU
    go_wp2_with (first|go_skip|((with_reducible show wpList ..);first|(refine rd rfl (ex_lenG 22 35 underlying22 rfl rfl) ?_;simp only[nn])|(refine rd rfl (ex_ltI3 rfl rfl rfl dlt) ?_;simp only[nn])|(refine rd rfl (ex_gtI rfl rfl rfl dgt) ?_;simp only[nn])|(refine rd rfl (ex_u64L rfl rfl (by omega)) ?_;simp only[nn])|(refine rd rfl (ex_u64U (uh HU) rfl rfl) ?_;simp only[nn])|(refine rd rfl (ex_remC (uh HCU) rfl rfl rfl hU0.1 hU0.2 (by omega) (by omega)) ?_;simp only[nn])|(refine rd rfl (ex_i64 rfl rfl (by omega)) ?_;simp only[nn])))
    go_wp2_with fail
    refine(lstrL _).mono ?_
    rintro _ Y ⟨rfl,hb⟩
    replace SS:=hide ((uh SS).on hb)
    clear hb
    go_wp2_with (first|go_skip|((with_reducible show wpList ..);first|(refine rd rfl (ex_nfI (n:=c) rfl rfl) ?_;simp only[nn])))
    refine(num_any (nf c) _).mono ?_
    rintro _ Y ⟨rfl,hb⟩
    replace SS:=hide ((uh SS).on hb)
    clear hb
    go_wp2_with (first|go_skip|((with_reducible show wpList ..);first|(refine rd rfl (ex_ln1 (c:=c) rfl rfl) ?_;simp only[nn])))
    have HC:=ddef_n h 0 q c vs.length (elsV vs) _ ((uh SS).hp 0 rfl) ((uh HT).fr (uh SS).fr (by simp)) ((uh A).ok (by omega) (by omega)) (uh A).at0 (uh HQ).1 (fun e he=>⟨by have:=(els_mem he).1;omega,(els_mem he).2⟩) (fun e he=>(els_mem he).1) (els_nodup vs) (by have:=(uh HQ).2;omega) (by rw[els_len];omega) (.inl (by omega)) (.inl (by omega)) ((uh A).fu (by omega)) (uh A).dp
    rw[show ((0:Nat):Int)+1=1 from rfl] at HC
    rw[ln_agg] at HC
    rw[els_cut] at HC
    refine HC.mono ?_
    clear HC
    rintro _ Y ⟨T1,rfl,hp1,hl1,T9⟩
    replace SS:=hide ((uh SS).heap 0 rfl T9)
    clear T9
    obtain⟨h2,q2,hb_h2,ht_h2,A1,SS⟩: ∃(h2:HP) (q2:OB),h2.b=h.b/\q2.T=T1/\Hid (AH h2 q2 (5000 - (vs.length:Int) - 1))/\Hid (Sy w Y [] [hpO h2,boxO Bs (refV 1).cs]):=⟨(h.tab 0 q T1).less,{q with T:=T1},rfl,rfl,hide ((uh A).tab T1),SS⟩
    rw[←ht_h2] at hp1 hl1
    have HP1:=hide (And.intro hp1 hl1)
    clear hp1 hl1 ht_h2
    have htk:(vs.take c).length=c:=by rw[List.length_take];omega
    have HTK:=hide htk
    clear htk
    go_wp2_with fail
    refine(lstrL _).mono ?_
    rintro _ Y ⟨rfl,hb⟩
    replace SS:=hide ((uh SS).on hb)
    clear hb
    go_wp2_with fail
    have HN:=fun X=>num_any 4751297606873776128 X
    refine(HN _).mono ?_
    clear HN
    rintro _ Y ⟨rfl,hb⟩
    replace SS:=hide ((uh SS).on hb)
    clear hb
    go_wp2_with (first|go_skip|((with_reducible show wpList ..);first|(refine rd rfl (ex_lnB nf_mx rfl rfl) ?_;simp only[nn])))
    have HC:=ddef_n h2 0 q2 4294967295 c (elsV (vs.take c)) _ ((uh SS).hp 0 rfl) ((uh HT).fr (uh SS).fr (by simp)) ((uh A1).ok (by omega) (by omega)) (uh A1).at0 (uh HP1).1 (fun e he=>⟨by have:=(els_mem he).1;have:=uh HTK;omega,(els_mem he).2⟩) (fun e he=>by have:=(els_mem he).1;have:=uh HTK;omega) (els_nodup _) (by have:=(uh HQ).2;have:=(uh HP1).2;omega) (by rw[els_len,uh HTK];omega) (.inr rfl) (.inl (by omega)) ((uh A1).fu (by omega)) (uh A1).dp
    rw[show ((0:Nat):Int)+1=1 from rfl] at HC
    rw[ln_agg] at HC
    rw[els_all (by rw[uh HTK];omega)] at HC
    rw[hb_h2] at HC
    refine HC.mono ?_
    clear HC
    rintro _ Y ⟨T2,rfl,hp2,hl2,T9⟩
    replace SS:=hide ((uh SS).heap 0 rfl T9)
    clear T9
    obtain⟨h3,q3,hb_h3,ht_h3,A2,SS⟩: ∃(h3:HP) (q3:OB),h3.b=h2.b/\q3.T=T2/\Hid (AH h3 q3 (5000 - (vs.length:Int) - 1 - 1))/\Hid (Sy w Y [] [hpO h3,boxO Bs (refV 1).cs]):=⟨(h2.tab 0 q2 T2).less,{q2 with T:=T2},rfl,rfl,hide ((uh A1).tab T2),SS⟩
    rw[←ht_h3] at hp2 hl2
    have HP2:=hide hp2
    have HL2:=hide hl2
    clear hp2 hl2 ht_h3
    rw[hb_h2] at hb_h3
    obtain⟨ks,hks⟩: ∃ks,ks=ordK ((pr q3.T).map (·.1)):=⟨_,rfl⟩
    have hko:=els_ord 4294967295 (vs.take c) (by rw[uh HTK];omega)
    rw[←uh HP2,←hks,uh HTK] at hko
    have HKO:=hide hko.2
    have hkl:(ks.length:Int)=(c)+1:=by rw[hko.1];simp
    have hclt:c<ks.length:=by rw[hko.1];omega
    have HKS:=hide hks
    clear hko hks
    go_wp2_with fail
    have HC:=dkeys_h h3 0 q3 _ ((uh SS).hp 0 rfl) ((uh HT).fr (uh SS).fr (by simp)) ((uh A2).ok (by omega) (by omega)) (uh A2).at0 (by have:=(uh HQ).2;have:=(uh HP1).2;have:=uh HL2;omega) (by rw[els_live (uh HP2),uh HTK];omega) ((uh A2).fu (by omega)) (uh A2).dp
    rw[show ((0:Nat):Int)+1=1 from rfl] at HC
    rw[←uh HKS] at HC
    rw[hb_h3] at HC
    refine HC.mono ?_
    clear HC
    rintro _ Y ⟨kv,rfl,hO,T9⟩
    obtain⟨bs,S9⟩:=sy_keys (uh SS) T9 hO
    rcases hO.form with ⟨-,h0⟩|⟨g,kc,rfl, -⟩
    ·exfalso;rw[h0] at hclt;simp at hclt
    replace SS:Hid (Sy w Y [] [hpO h3.less,boxO Bs (refV 1).cs,rowO bs 42 2 (.slice (some ⟨g,0,none⟩) ks.length kc) ks.length (flatK ks)]):=hide S9
    clear S9 T9 hO
    go_wp2_with fail
    have HC:=len_arr h3.less 0 q3 4294967295 _ ((uh SS).hp 0 rfl) (by rw[(uh A2).less.l];show 1<=65536;decide) (uh A2).less.at0 (uh A2).c (len_cv (uh HP2) (.inr rfl)).1 (len_cv (uh HP2) (.inr rfl)).2
    rw[show ((0:Nat):Int)+1=1 from rfl] at HC
    rw[show h3.less.b=h.b from hb_h3] at HC
    rw[show ((4294967295:Nat):Int)=4294967295 from rfl] at HC
    refine HC.mono ?_
    clear HC
    rintro _ Y ⟨rfl,hb⟩
    replace SS:=hide ((uh SS).on hb)
    clear hb
    go_wp2_with fail
    have hS27:Sy w _ [] [hpO h3.less,boxO Bs (refV 1).cs,rowO bs 42 2 (.slice (some ⟨g,0,none⟩) ks.length kc) ks.length (flatK ks)]:=(uh SS).drew
    clear SS
    refine wp_region_held_drew (P:=prog) (S:=fun X=>Sy w X [] _) (by kernel_rfl) (hS27) (fun hS0=> ?_)
    refine gp 0 (some 122) (.bool true) rfl rfl (hS27) ?_
    simp only[nn]
    refine gp 1 (some 123) (.bool true) rfl rfl (hS27) ?_
    simp only[nn]
    refine gp 2 (some 124) (.bool true) rfl rfl (hS27) ?_
    simp only[nn]
    refine gp 3 (some 125) (.bool true) rfl rfl (hS27) ?_
    simp only[nn]
    refine gp 4 (some 126) (.bool true) rfl rfl (hS27) ?_
    simp only[nn]
    refine gp 5 (some 127) (.nilIface) rfl rfl (hS27) ?_
    simp only[nn]
    refine gp 6 (some 128) (.bool true) rfl rfl (hS27) ?_
    simp only[nn]
    refine gp 7 (some 129) (.bool true) rfl rfl (hS27) ?_
    simp only[nn]
    refine gp 8 (some 130) (.bool true) rfl rfl (hS27) ?_
    simp only[nn]
    refine gp 9 (some 131) (.nilIface) rfl rfl (hS27) ?_
    simp only[nn]
    refine gp 10 (some 132) (.bool true) rfl rfl (hS27) ?_
    simp only[nn]
    refine gp 11 (some 133) (.bool true) rfl rfl (hS27) ?_
    simp only[nn]
    refine gp 12 (some 134) (.bool true) rfl rfl (hS27) ?_
    simp only[nn]
    refine gp 13 (some 135) (.nilIface) rfl rfl (hS27) ?_
    simp only[nn]
    refine gp 14 (some 136) (.bool true) rfl rfl (hS27) ?_
    simp only[nn]
    refine gp 15 (some 137) (.bool true) rfl rfl (hS27) ?_
    simp only[nn]
    refine gp 16 (some 138) (.bool true) rfl rfl (hS27) ?_
    simp only[nn]
    refine gp 17 (some 139) (.slice (some ⟨g,0,none⟩) ks.length kc) rfl rfl (hS27) ?_
    simp only[nn]
    refine gq 18 (some 140) (.int .i64 (ks.length:Nat)) rfl rfl (fun X hX=>ex_lenG 54 42 underlying54 rfl rfl) (hS27) ?_
    simp only[nn]
    refine gp 19 (some 141) (.int .i64 (c:Nat)) rfl rfl (hS27) ?_
    simp only[nn]
    refine gq 20 (some 142) (.int .i64 (((c:Nat):Int)+1)) rfl rfl (fun X hX=>ex_addC (n:=c) rfl rfl rfl (by omega)) (hS27) ?_
    simp only[nn]
    refine gq 21 (some 143) (.bool true) rfl rfl (fun X hX=>ex_eqYes rfl rfl rfl hkl) (hS27) ?_
    simp only[nn]
    refine gp 22 (some 144) (.bool true) rfl rfl (hS27) ?_
    simp only[nn]
    refine gp 23 (some 145) (.bool true) rfl rfl (hS27) ?_
    simp only[nn]
    refine gp 24 (some 146) (.slice (some ⟨g,0,none⟩) ks.length kc) rfl rfl (hS27) ?_
    simp only[nn]
    refine gp 25 (some 147) (.int .i64 (c:Nat)) rfl rfl (hS27) ?_
    simp only[nn]
    refine gq 26 (some 148) (.pointer (some ⟨g,0+c * 2,none⟩)) rfl rfl (fun X hX=>ex_indexG 54 2 c unKs idKs rfl rfl rfl hclt) (hS27) ?_
    simp only[nn]
    refine gq 27 (some 149) (.agg lenK.cs.toArray) rfl rfl (fun X hX=>ex_loadR (vs:=lenK.cs) 42 2 rwK szK rfl rfl ((own_rows (base:=bs) (n:=ks.length) (c:=kc) (hX.get 2 rfl)).atK (uh HKO)) rfl) (hS27) ?_
    simp only[nn]
    refine gr (rs:= [28]) (gcB 28 (some 150) rfl rfl hS27 (lstrL _) id ?_ gn)
    intro Yz1 hqz1
    refine gq 29 (some 151) (.bool true) rfl rfl (fun X hX=>ex_eqL rfl rfl rfl) (hqz1) ?_
    simp only[nn]
    refine gp 30 (some 152) (.bool true) rfl rfl (hqz1) ?_
    simp only[nn]
    refine gp 31 (some 153) (.bool true) rfl rfl (hqz1) ?_
    simp only[nn]
    refine gp 32 (some 154) (.int .u32 4294967295) rfl rfl (hqz1) ?_
    simp only[nn]
    refine gp 33 (some 155) (.bool true) rfl rfl (hqz1) ?_
    simp only[nn]
    refine gp 34 (some 156) (.bool true) rfl rfl (hqz1) ?_
    simp only[nn]
    refine gp 35 (some 157) (.bool true) rfl rfl (hqz1) ?_
    simp only[nn]
    refine gp 36 (some 158) (.int .i64 0) rfl rfl (hqz1) ?_
    simp only[nn]
    refine gr (rs:= [37]) (gcW 37 (some 159) rfl rfl (hqz1) (lnum 0 _) ?_ gn)
    refine gp 38 (some 160) (.bool true) rfl rfl (hqz1) ?_
    simp only[nn]
    refine gp 39 (some 161) (.bool true) rfl rfl (hqz1) ?_
    simp only[nn]
    refine gp 40 (some 4) (.bool true) rfl rfl (hqz1) ?_
    simp only[nn]
    refine wpAnyH_done (by kernel_rfl) ?_ _
    try simp only[nn]
    have SS:=hide hqz1
    go_wp2
    go_ret
    exact⟨rfl,(uh SS).fr.below⟩
theorem law_tells (B:Option Addr) (cp:Nat) (vs:List VV) (n:Int) (w:World) (h6:6<=w.heap.size) (hT:Tabs w) (hR:ReadsV w B vs) (hX64: ∀(i:Nat) (v:VV),vs[i]? =some v->v.x<2^64):Calls prog 3 #[.slice B vs.length cp, .int .i64 n] w fun e w'=>e= .returned (.bool true)/\Below w.heap.size w w':=by
 rcases Nat.lt_or_ge 300 vs.length with hz|hz
 ·exact tells_long B cp vs n w h6 hT hR hX64 hz
 by_cases hc:knE 0 vs=0
 ·exact tells_good B cp vs n w h6 hT hR hX64 hz hc
 ·exact tells_bad B cp vs n w h6 hT hR hX64 hz hc
