import Derived.Test.YtieahhciibdnaaaGreatDoorRu
set_option linter.all false
namespace Go.Proofs.YtieahhciibdnaaaGreatDoor
set_option maxRecDepth 100000
set_option maxHeartbeats 0
section
open Go Go.Proofs Go.Maps Go.RowKit FM Tryz
attribute [local go_sem] Ak Ae Aq Dl Dk Bl Af Aj Ad Bj Et Es
theorem Zbt (A PA:Option Addr) (c pc:Nat) (ns:List ByteArray) (ps:List PR) (r:VV) (w:World) (h6:6<=w.heap.size) (hT:Tabs w) (hN:ReadsN w A ns) (hP:Pj w PA ps) (hl:60<ns.length∨(ns.length<=60/\60<ps.length)) (hz1:ns.length<=9223372036854775806) (hz2:ps.length<=9223372036854775806):Calls prog 3 #[.slice A ns.length c, .slice PA ps.length pc,r.agg] w fun e w'=>e= .returned (.bool true)/\Below w.heap.size w w':=by
 have SS:=Ab (Sy.nil w [])
 have HT:=Ab hT
 have H6:=Ab h6
 have HN:=Ab hN
 have HP:=Ab hP
 clear hT h6 hN hP
 rw[Db]
 go_enter func3,ntmps3
 go_wp2_with (first|go_skip|((with_reducible show wpList ..);first|(refine zB 26 (r.cs) (by rfl) rfl rfl rfl SS ?_;clear SS;intro X5 B5 SS;simp only[nn])))
 refine(Pk _ (Nat.le_trans (Aa H6) (Aa SS).fr.size) ((Aa HT).on (Aa SS).fr.below)).mono ?_
 rintro _ Y ⟨rfl,hb⟩
 replace SS:=Ab ((Aa SS).on hb)
 clear hb
 rcases hl with hl|⟨hl,hl2⟩
 ·have e60:decide ((60:Int)<(ns.length:Int))=true:=decide_eq_true (by omega)
  go_wp2_with (first|go_skip|((with_reducible show wpList ..);first|(refine rd rfl (Bo 22 9 underlying22 rfl rfl) ?_)|(refine rd rfl (Bo 23 50 underlying23 rfl rfl) ?_)|(refine rd rfl (Jm rfl rfl rfl e60) ?_)))
  go_ret
  exact⟨rfl,(Aa SS).fr.below⟩
 ·have e60:decide ((60:Int)<(ns.length:Int))=false:=decide_eq_false (by omega)
  have f60:decide ((60:Int)<(ps.length:Int))=true:=decide_eq_true (by omega)
  go_wp2_with (first|go_skip|((with_reducible show wpList ..);first|(refine rd rfl (Bo 22 9 underlying22 rfl rfl) ?_)|(refine rd rfl (Bo 23 50 underlying23 rfl rfl) ?_)|(refine rd rfl (Jm rfl rfl rfl e60) ?_)|(refine rd rfl (Jm rfl rfl rfl f60) ?_)))
  go_ret
  exact⟨rfl,(Aa SS).fr.below⟩
theorem Zaz (A PA:Option Addr) (c pc:Nat) (ns:List ByteArray) (ps:List PR) (r:VV) (w:World) (h6:6<=w.heap.size) (hT:Tabs w) (hN:ReadsN w A ns) (hP:Pj w PA ps) (hg:r.good=true) (hk:r.k≠7) (hl:ns.length<=60) (hl2:ps.length<=60) (hE:Ko ns≠0):Calls prog 3 #[.slice A ns.length c, .slice PA ps.length pc,r.agg] w fun e w'=>e= .returned (.bool true)/\Below w.heap.size w w':=by
 have SS:=Ab (Sy.nil w [])
 have HT:=Ab hT
 have H6:=Ab h6
 have HN:=Ab hN
 have HP:=Ab hP
 clear hT h6 hN hP
 rw[Db]
 go_enter func3,ntmps3
 go_wp2_with (first|go_skip|((with_reducible show wpList ..);first|(refine zB 26 (r.cs) (by rfl) rfl rfl rfl SS ?_;clear SS;intro X5 B5 SS;simp only[nn])))
 refine(Pk _ (Nat.le_trans (Aa H6) (Aa SS).fr.size) ((Aa HT).on (Aa SS).fr.below)).mono ?_
 rintro _ Y ⟨rfl,hb⟩
 replace SS:=Ab ((Aa SS).on hb)
 clear hb
 have e60:decide ((60:Int)<(ns.length:Int))=false:=decide_eq_false (by omega)
 have f60:decide ((60:Int)<(ps.length:Int))=false:=decide_eq_false (by omega)
 go_wp2_with (first|go_skip|((with_reducible show wpList ..);first|(refine rd rfl (Bo 22 9 underlying22 rfl rfl) ?_)|(refine rd rfl (Bo 23 50 underlying23 rfl rfl) ?_)|(refine rd rfl (Jm rfl rfl rfl e60) ?_)|(refine rd rfl (Jm rfl rfl rfl f60) ?_)|(refine zL (r.cs) 26 5 0 rwV szV (by rfl) rfl rfl SS rfl rfl rfl ?_;simp only[nn])))
 have HCK:=fun X hX=>Eo r X hX
 rw[hg] at HCK
 simp only[Db] at HCK
 refine(HCK _ (((Aa HT).on (Aa SS).fr.below)).1).mono ?_
 clear HCK
 rintro _ Y ⟨rfl,hb⟩
 replace SS:=Ab ((Aa SS).on hb)
 clear hb
 rw[show Nl true=0 from rfl]
 go_wp2_with fail
 refine(Ky 0 _).mono ?_
 rintro _ _ ⟨rfl,rfl⟩
 go_wp2_with (first|go_skip|((with_reducible show wpList ..);first|(refine z1 3 isAgg3 0 (by rfl) rfl rfl SS rfl rfl ?_;simp only[nn])|(refine rd rfl (Jz rfl rfl rfl hk) ?_)))
 refine(Zbr 1 100000 10 _ (Nat.le_trans (Aa H6) (Aa SS).fr.size)).mono ?_
 rintro _ Y0 hN
 rcases hN with ⟨h9, -⟩|⟨-,B0,rfl,hI,hlo,hb⟩
 ·exact absurd h9 (by decide)
 replace SS:=Ab ((Aa SS).newh hI hb (fun b hb=>by rw[Kz] at hb;rw[List.mem_singleton.1 hb];exact hlo))
 clear hI hlo hb
 go_wp2_with fail
 refine(Ky 0 _).mono ?_
 rintro _ _ ⟨rfl,rfl⟩
 go_wp2_with fail
 refine(Ou (Js B0 1 100000 10) A c ns _ ((Aa SS).hp 1 rfl) ((Aa HT).on (Aa SS).fr.below) ((Aa HN).fr (Aa SS).fr) (by omega) hE).mono ?_
 rintro _ Y ⟨rfl,hb⟩
 replace SS:=Ab ((Aa SS).on hb)
 clear hb
 go_wp2_with fail
 refine(Ky 0 _).mono ?_
 rintro _ _ ⟨rfl,rfl⟩
 go_wp2_with fail
 refine(Kj (Js B0 1 100000 10) _ ((Aa SS).hp 1 rfl)).mono ?_
 rintro _ _ ⟨rfl,rfl⟩
 go_wp2_with fail
 refine(Yf 5 _).mono ?_
 rintro _ Y ⟨rfl,hb⟩
 replace SS:=Ab ((Aa SS).on hb)
 clear hb
 go_wp2_with (first|go_skip|((with_reducible show wpList ..);first|(refine rd rfl (Rs rfl rfl) ?_)))
 go_ret
 exact⟨rfl,(Aa SS).fr.below⟩
theorem Zbu (A PA:Option Addr) (c pc:Nat) (ns:List ByteArray) (ps:List PR) (r:VV) (w:World) (h6:6<=w.heap.size) (hT:Tabs w) (hN:ReadsN w A ns) (hP:Pj w PA ps) (hg:r.good=true) (hk:r.k=7) (hl:ns.length<=60) (hl2:ps.length<=60) (hE:Ko ns≠0):Calls prog 3 #[.slice A ns.length c, .slice PA ps.length pc,r.agg] w fun e w'=>e= .returned (.bool true)/\Below w.heap.size w w':=by
 have SS:=Ab (Sy.nil w [])
 have HT:=Ab hT
 have H6:=Ab h6
 have HN:=Ab hN
 have HP:=Ab hP
 clear hT h6 hN hP
 rw[Db]
 go_enter func3,ntmps3
 go_wp2_with (first|go_skip|((with_reducible show wpList ..);first|(refine zB 26 (r.cs) (by rfl) rfl rfl rfl SS ?_;clear SS;intro X5 B5 SS;simp only[nn])))
 refine(Pk _ (Nat.le_trans (Aa H6) (Aa SS).fr.size) ((Aa HT).on (Aa SS).fr.below)).mono ?_
 rintro _ Y ⟨rfl,hb⟩
 replace SS:=Ab ((Aa SS).on hb)
 clear hb
 have e60:decide ((60:Int)<(ns.length:Int))=false:=decide_eq_false (by omega)
 have f60:decide ((60:Int)<(ps.length:Int))=false:=decide_eq_false (by omega)
 go_wp2_with (first|go_skip|((with_reducible show wpList ..);first|(refine rd rfl (Bo 22 9 underlying22 rfl rfl) ?_)|(refine rd rfl (Bo 23 50 underlying23 rfl rfl) ?_)|(refine rd rfl (Jm rfl rfl rfl e60) ?_)|(refine rd rfl (Jm rfl rfl rfl f60) ?_)|(refine zL (r.cs) 26 5 0 rwV szV (by rfl) rfl rfl SS rfl rfl rfl ?_;simp only[nn])))
 have HCK:=fun X hX=>Eo r X hX
 rw[hg] at HCK
 simp only[Db] at HCK
 refine(HCK _ (((Aa HT).on (Aa SS).fr.below)).1).mono ?_
 clear HCK
 rintro _ Y ⟨rfl,hb⟩
 replace SS:=Ab ((Aa SS).on hb)
 clear hb
 rw[show Nl true=0 from rfl]
 go_wp2_with fail
 refine(Ky 0 _).mono ?_
 rintro _ _ ⟨rfl,rfl⟩
 go_wp2_with (first|go_skip|((with_reducible show wpList ..);first|(refine z1 3 isAgg3 0 (by rfl) rfl rfl SS rfl rfl ?_;simp only[nn])|(refine rd rfl (Kg rfl rfl rfl hk) ?_)))
 refine(Gw _).mono ?_
 rintro _ Y ⟨rfl,hb⟩
 replace SS:=Ab ((Aa SS).on hb)
 clear hb
 rw[Db]
 go_wp2_with (first|go_skip|((with_reducible show wpList ..);first|(refine zS (nullV.cs) 0 26 (by rfl) rfl rfl rfl rfl (Ex _) szV SS rfl ?_;clear SS;intro Xz SS;simp only[nn])))
 refine(Zbr 1 100000 10 _ (Nat.le_trans (Aa H6) (Aa SS).fr.size)).mono ?_
 rintro _ Y0 hN
 rcases hN with ⟨h9, -⟩|⟨-,B0,rfl,hI,hlo,hb⟩
 ·exact absurd h9 (by decide)
 replace SS:=Ab ((Aa SS).newh hI hb (fun b hb=>by rw[Kz] at hb;rw[List.mem_singleton.1 hb];exact hlo))
 clear hI hlo hb
 go_wp2_with fail
 refine(Ky 0 _).mono ?_
 rintro _ _ ⟨rfl,rfl⟩
 go_wp2_with fail
 refine(Ou (Js B0 1 100000 10) A c ns _ ((Aa SS).hp 1 rfl) ((Aa HT).on (Aa SS).fr.below) ((Aa HN).fr (Aa SS).fr) (by omega) hE).mono ?_
 rintro _ Y ⟨rfl,hb⟩
 replace SS:=Ab ((Aa SS).on hb)
 clear hb
 go_wp2_with fail
 refine(Ky 0 _).mono ?_
 rintro _ _ ⟨rfl,rfl⟩
 go_wp2_with fail
 refine(Kj (Js B0 1 100000 10) _ ((Aa SS).hp 1 rfl)).mono ?_
 rintro _ _ ⟨rfl,rfl⟩
 go_wp2_with fail
 refine(Yf 5 _).mono ?_
 rintro _ Y ⟨rfl,hb⟩
 replace SS:=Ab ((Aa SS).on hb)
 clear hb
 go_wp2_with (first|go_skip|((with_reducible show wpList ..);first|(refine rd rfl (Rs rfl rfl) ?_)))
 go_ret
 exact⟨rfl,(Aa SS).fr.below⟩
theorem Zbv (A PA:Option Addr) (c pc:Nat) (ns:List ByteArray) (ps:List PR) (r:VV) (w:World) (h6:6<=w.heap.size) (hT:Tabs w) (hN:ReadsN w A ns) (hP:Pj w PA ps) (hg:r.good=false) (hl:ns.length<=60) (hl2:ps.length<=60) (hE:Ko ns≠0):Calls prog 3 #[.slice A ns.length c, .slice PA ps.length pc,r.agg] w fun e w'=>e= .returned (.bool true)/\Below w.heap.size w w':=by
 have SS:=Ab (Sy.nil w [])
 have HT:=Ab hT
 have H6:=Ab h6
 have HN:=Ab hN
 have HP:=Ab hP
 clear hT h6 hN hP
 rw[Db]
 go_enter func3,ntmps3
 go_wp2_with (first|go_skip|((with_reducible show wpList ..);first|(refine zB 26 (r.cs) (by rfl) rfl rfl rfl SS ?_;clear SS;intro X5 B5 SS;simp only[nn])))
 refine(Pk _ (Nat.le_trans (Aa H6) (Aa SS).fr.size) ((Aa HT).on (Aa SS).fr.below)).mono ?_
 rintro _ Y ⟨rfl,hb⟩
 replace SS:=Ab ((Aa SS).on hb)
 clear hb
 have e60:decide ((60:Int)<(ns.length:Int))=false:=decide_eq_false (by omega)
 have f60:decide ((60:Int)<(ps.length:Int))=false:=decide_eq_false (by omega)
 go_wp2_with (first|go_skip|((with_reducible show wpList ..);first|(refine rd rfl (Bo 22 9 underlying22 rfl rfl) ?_)|(refine rd rfl (Bo 23 50 underlying23 rfl rfl) ?_)|(refine rd rfl (Jm rfl rfl rfl e60) ?_)|(refine rd rfl (Jm rfl rfl rfl f60) ?_)|(refine zL (r.cs) 26 5 0 rwV szV (by rfl) rfl rfl SS rfl rfl rfl ?_;simp only[nn])))
 have HCK:=fun X hX=>Eo r X hX
 rw[hg] at HCK
 simp only[Db] at HCK
 refine(HCK _ (((Aa HT).on (Aa SS).fr.below)).1).mono ?_
 clear HCK
 rintro _ Y ⟨rfl,hb⟩
 replace SS:=Ab ((Aa SS).on hb)
 clear hb
 rw[show Nl false=5 from rfl]
 go_wp2_with fail
 refine(Ky 5 _).mono ?_
 rintro _ _ ⟨rfl,rfl⟩
 go_wp2_with fail
 refine(Gw _).mono ?_
 rintro _ Y ⟨rfl,hb⟩
 replace SS:=Ab ((Aa SS).on hb)
 clear hb
 rw[Db]
 go_wp2_with (first|go_skip|((with_reducible show wpList ..);first|(refine zS (nullV.cs) 0 26 (by rfl) rfl rfl rfl rfl (Ex _) szV SS rfl ?_;clear SS;intro Xz SS;simp only[nn])))
 refine(Zbr 1 100000 10 _ (Nat.le_trans (Aa H6) (Aa SS).fr.size)).mono ?_
 rintro _ Y0 hN
 rcases hN with ⟨h9, -⟩|⟨-,B0,rfl,hI,hlo,hb⟩
 ·exact absurd h9 (by decide)
 replace SS:=Ab ((Aa SS).newh hI hb (fun b hb=>by rw[Kz] at hb;rw[List.mem_singleton.1 hb];exact hlo))
 clear hI hlo hb
 go_wp2_with fail
 refine(Ky 0 _).mono ?_
 rintro _ _ ⟨rfl,rfl⟩
 go_wp2_with fail
 refine(Ou (Js B0 1 100000 10) A c ns _ ((Aa SS).hp 1 rfl) ((Aa HT).on (Aa SS).fr.below) ((Aa HN).fr (Aa SS).fr) (by omega) hE).mono ?_
 rintro _ Y ⟨rfl,hb⟩
 replace SS:=Ab ((Aa SS).on hb)
 clear hb
 go_wp2_with fail
 refine(Ky 0 _).mono ?_
 rintro _ _ ⟨rfl,rfl⟩
 go_wp2_with fail
 refine(Kj (Js B0 1 100000 10) _ ((Aa SS).hp 1 rfl)).mono ?_
 rintro _ _ ⟨rfl,rfl⟩
 go_wp2_with fail
 refine(Yf 5 _).mono ?_
 rintro _ Y ⟨rfl,hb⟩
 replace SS:=Ab ((Aa SS).on hb)
 clear hb
 go_wp2_with (first|go_skip|((with_reducible show wpList ..);first|(refine rd rfl (Rs rfl rfl) ?_)))
 go_ret
 exact⟨rfl,(Aa SS).fr.below⟩
