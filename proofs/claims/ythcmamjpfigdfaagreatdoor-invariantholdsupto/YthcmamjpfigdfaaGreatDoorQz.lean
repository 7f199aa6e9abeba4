import Derived.Test.YthcmamjpfigdfaaGreatDoorQx
import Derived.Test.YthcmamjpfigdfaaGreatDoorQw
import Derived.Test.YthcmamjpfigdfaaGreatDoorQy
set_option linter.all false
namespace Go.Proofs.YthcmamjpfigdfaaGreatDoor
set_option maxRecDepth 100000
set_option maxHeartbeats 0
section
open Go Go.Proofs Go.RowKit FM Tryz
def turnV (n d:DD):Bool:=Az d !=1 && Az d !=Az n
def Rr (n d:DD):Bool:=if d.c==2||d.e !=0 && d.e !=n.e||turnV n d then true else if Az n==3 then Zbo n.g d.g||Zbo n.s d.s else n.w==1 && (d.w==2||Zbo n.v d.v)
def Ke (n d:DD):DD:=if turnV n d then Jy ⟨d.v,d.g,d.s,d.w,orT d.e n.e,orT d.c n.c⟩ else ⟨orV d.v n.v,orV d.g n.g,orV d.s n.s,orT d.w n.w,orT d.e n.e,orT d.c n.c⟩
theorem turns_00 (n d:DD) (hn:FD n) (hd:FD d) (h1:Az d=0) (h2:Az n=0) (w:World):Calls prog 162 #[n.agg,d.agg] w fun e w'=>e= .returned (.bool (turnV n d))/\Below w.heap.size w w':=by
 have HD:=Ab (By d hd)
 have HN:=Ab (By n hn)
 clear hn hd
 have LL:=Ab (Kp.of2 (Lie.new2 w (.D n) (.D d)))
 unfold turnV
 rw[h1,h2]
 rw[h1] at HD
 rw[h2] at HN
 have hq0:=Gk n
 have hq1:=Gk d
 rw[hq0,hq1]
 clear hq0 hq1
 go_enter func162,ntmps162
 go_wp2_with fail
 refine wp_region_held_drew (P:=prog) (S:=fun X=>Kp w X [(w.heap.size, .D n),(w.heap.size+1, .D d)]) (by kernel_rfl) (Kp.drew (Aa LL)) (fun hS0=> ?_)
 refine x1 0 1 (some 5) (x:= .tmp 3) (b:=w.heap.size+1) (d:=d) rfl rfl hS0 ?_
 refine x2 1 (some 6) rfl (Aa HD _) hS0 (fun uw1 hS1=> ?_)
 clear hS0
 simp only[nn]
 refine x0 2 (some 7) (.bool true) rfl hS1 ?_
 refine x0 3 (some 8) (.bool true) rfl hS1 ?_
 refine x1 4 1 (some 9) (x:= .tmp 3) (b:=w.heap.size+1) (d:=d) rfl rfl hS1 ?_
 refine x1 6 0 (some 11) (x:= .tmp 2) (b:=w.heap.size) (d:=n) rfl rfl hS1 ?_
 refine x2 5 (some 10) rfl (Aa HD _) hS1 (fun uw2 hS2=> ?_)
 clear hS1
 simp only[nn]
 refine x2 7 (some 12) rfl (Aa HN _) hS2 (fun uw3 hS3=> ?_)
 clear hS2
 simp only[nn]
 refine x0 8 (some 13) (.bool false) rfl hS3 ?_
 refine x0 9 (some 14) (.bool false) rfl hS3 ?_
 refine x0 10 (some 4) (.bool false) rfl hS3 ?_
 refine dn ?_
 try simp only[nn]
 replace LL:=Ab hS3
 clear hS3
 go_wp2_with fail
 go_ret
 exact⟨rfl,(Aa LL).below⟩
theorem turns_01 (n d:DD) (hn:FD n) (hd:FD d) (h1:Az d=0) (h2:Az n=1) (w:World):Calls prog 162 #[n.agg,d.agg] w fun e w'=>e= .returned (.bool (turnV n d))/\Below w.heap.size w w':=by
 have HD:=Ab (By d hd)
 have HN:=Ab (By n hn)
 clear hn hd
 have LL:=Ab (Kp.of2 (Lie.new2 w (.D n) (.D d)))
 unfold turnV
 rw[h1,h2]
 rw[h1] at HD
 rw[h2] at HN
 have hq0:=Gk n
 have hq1:=Gk d
 rw[hq0,hq1]
 clear hq0 hq1
 go_enter func162,ntmps162
 go_wp2_with fail
 refine wp_region_held_drew (P:=prog) (S:=fun X=>Kp w X [(w.heap.size, .D n),(w.heap.size+1, .D d)]) (by kernel_rfl) (Kp.drew (Aa LL)) (fun hS0=> ?_)
 refine x1 0 1 (some 5) (x:= .tmp 3) (b:=w.heap.size+1) (d:=d) rfl rfl hS0 ?_
 refine x2 1 (some 6) rfl (Aa HD _) hS0 (fun uw1 hS1=> ?_)
 clear hS0
 simp only[nn]
 refine x0 2 (some 7) (.bool true) rfl hS1 ?_
 refine x0 3 (some 8) (.bool true) rfl hS1 ?_
 refine x1 4 1 (some 9) (x:= .tmp 3) (b:=w.heap.size+1) (d:=d) rfl rfl hS1 ?_
 refine x1 6 0 (some 11) (x:= .tmp 2) (b:=w.heap.size) (d:=n) rfl rfl hS1 ?_
 refine x2 5 (some 10) rfl (Aa HD _) hS1 (fun uw2 hS2=> ?_)
 clear hS1
 simp only[nn]
 refine x2 7 (some 12) rfl (Aa HN _) hS2 (fun uw3 hS3=> ?_)
 clear hS2
 simp only[nn]
 refine x0 8 (some 13) (.bool true) rfl hS3 ?_
 refine x0 9 (some 14) (.bool true) rfl hS3 ?_
 refine x0 10 (some 4) (.bool true) rfl hS3 ?_
 refine dn ?_
 try simp only[nn]
 replace LL:=Ab hS3
 clear hS3
 go_wp2_with fail
 go_ret
 exact⟨rfl,(Aa LL).below⟩
theorem turns_02 (n d:DD) (hn:FD n) (hd:FD d) (h1:Az d=0) (h2:Az n=2) (w:World):Calls prog 162 #[n.agg,d.agg] w fun e w'=>e= .returned (.bool (turnV n d))/\Below w.heap.size w w':=by
 have HD:=Ab (By d hd)
 have HN:=Ab (By n hn)
 clear hn hd
 have LL:=Ab (Kp.of2 (Lie.new2 w (.D n) (.D d)))
 unfold turnV
 rw[h1,h2]
 rw[h1] at HD
 rw[h2] at HN
 have hq0:=Gk n
 have hq1:=Gk d
 rw[hq0,hq1]
 clear hq0 hq1
 go_enter func162,ntmps162
 go_wp2_with fail
 refine wp_region_held_drew (P:=prog) (S:=fun X=>Kp w X [(w.heap.size, .D n),(w.heap.size+1, .D d)]) (by kernel_rfl) (Kp.drew (Aa LL)) (fun hS0=> ?_)
 refine x1 0 1 (some 5) (x:= .tmp 3) (b:=w.heap.size+1) (d:=d) rfl rfl hS0 ?_
 refine x2 1 (some 6) rfl (Aa HD _) hS0 (fun uw1 hS1=> ?_)
 clear hS0
 simp only[nn]
 refine x0 2 (some 7) (.bool true) rfl hS1 ?_
 refine x0 3 (some 8) (.bool true) rfl hS1 ?_
 refine x1 4 1 (some 9) (x:= .tmp 3) (b:=w.heap.size+1) (d:=d) rfl rfl hS1 ?_
 refine x1 6 0 (some 11) (x:= .tmp 2) (b:=w.heap.size) (d:=n) rfl rfl hS1 ?_
 refine x2 5 (some 10) rfl (Aa HD _) hS1 (fun uw2 hS2=> ?_)
 clear hS1
 simp only[nn]
 refine x2 7 (some 12) rfl (Aa HN _) hS2 (fun uw3 hS3=> ?_)
 clear hS2
 simp only[nn]
 refine x0 8 (some 13) (.bool true) rfl hS3 ?_
 refine x0 9 (some 14) (.bool true) rfl hS3 ?_
 refine x0 10 (some 4) (.bool true) rfl hS3 ?_
 refine dn ?_
 try simp only[nn]
 replace LL:=Ab hS3
 clear hS3
 go_wp2_with fail
 go_ret
 exact⟨rfl,(Aa LL).below⟩
theorem turns_03 (n d:DD) (hn:FD n) (hd:FD d) (h1:Az d=0) (h2:Az n=3) (w:World):Calls prog 162 #[n.agg,d.agg] w fun e w'=>e= .returned (.bool (turnV n d))/\Below w.heap.size w w':=by
 have HD:=Ab (By d hd)
 have HN:=Ab (By n hn)
 clear hn hd
 have LL:=Ab (Kp.of2 (Lie.new2 w (.D n) (.D d)))
 unfold turnV
 rw[h1,h2]
 rw[h1] at HD
 rw[h2] at HN
 have hq0:=Gk n
 have hq1:=Gk d
 rw[hq0,hq1]
 clear hq0 hq1
 go_enter func162,ntmps162
 go_wp2_with fail
 refine wp_region_held_drew (P:=prog) (S:=fun X=>Kp w X [(w.heap.size, .D n),(w.heap.size+1, .D d)]) (by kernel_rfl) (Kp.drew (Aa LL)) (fun hS0=> ?_)
 refine x1 0 1 (some 5) (x:= .tmp 3) (b:=w.heap.size+1) (d:=d) rfl rfl hS0 ?_
 refine x2 1 (some 6) rfl (Aa HD _) hS0 (fun uw1 hS1=> ?_)
 clear hS0
 simp only[nn]
 refine x0 2 (some 7) (.bool true) rfl hS1 ?_
 refine x0 3 (some 8) (.bool true) rfl hS1 ?_
 refine x1 4 1 (some 9) (x:= .tmp 3) (b:=w.heap.size+1) (d:=d) rfl rfl hS1 ?_
 refine x1 6 0 (some 11) (x:= .tmp 2) (b:=w.heap.size) (d:=n) rfl rfl hS1 ?_
 refine x2 5 (some 10) rfl (Aa HD _) hS1 (fun uw2 hS2=> ?_)
 clear hS1
 simp only[nn]
 refine x2 7 (some 12) rfl (Aa HN _) hS2 (fun uw3 hS3=> ?_)
 clear hS2
 simp only[nn]
 refine x0 8 (some 13) (.bool true) rfl hS3 ?_
 refine x0 9 (some 14) (.bool true) rfl hS3 ?_
 refine x0 10 (some 4) (.bool true) rfl hS3 ?_
 refine dn ?_
 try simp only[nn]
 replace LL:=Ab hS3
 clear hS3
 go_wp2_with fail
 go_ret
 exact⟨rfl,(Aa LL).below⟩
theorem turns_1 (n d:DD) (hn:FD n) (hd:FD d) (h1:Az d=1) (w:World):Calls prog 162 #[n.agg,d.agg] w fun e w'=>e= .returned (.bool (turnV n d))/\Below w.heap.size w w':=by
 have HD:=Ab (By d hd)
 have HN:=Ab (By n hn)
 clear hn hd
 have LL:=Ab (Kp.of2 (Lie.new2 w (.D n) (.D d)))
 unfold turnV
 rw[h1]
 rw[h1] at HD
 have hq0:=Gk n
 have hq1:=Gk d
 rw[hq0,hq1]
 clear hq0 hq1
 go_enter func162,ntmps162
 go_wp2_with fail
 refine wp_region_held_drew (P:=prog) (S:=fun X=>Kp w X [(w.heap.size, .D n),(w.heap.size+1, .D d)]) (by kernel_rfl) (Kp.drew (Aa LL)) (fun hS0=> ?_)
 refine x1 0 1 (some 5) (x:= .tmp 3) (b:=w.heap.size+1) (d:=d) rfl rfl hS0 ?_
 refine x2 1 (some 6) rfl (Aa HD _) hS0 (fun uw1 hS1=> ?_)
 clear hS0
 simp only[nn]
 refine x0 2 (some 7) (.bool false) rfl hS1 ?_
 refine x0 3 (some 8) (.bool false) rfl hS1 ?_
 refine Kd 4 (some 9) rfl hS1 ?_
 simp only[nn]
 refine Kd 5 (some 10) rfl hS1 ?_
 simp only[nn]
 refine Kd 6 (some 11) rfl hS1 ?_
 simp only[nn]
 refine Kd 7 (some 12) rfl hS1 ?_
 simp only[nn]
 refine Kd 8 (some 13) rfl hS1 ?_
 simp only[nn]
 refine x0 9 (some 14) (.bool false) rfl hS1 ?_
 refine x0 10 (some 4) (.bool false) rfl hS1 ?_
 refine dn ?_
 try simp only[nn]
 replace LL:=Ab hS1
 clear hS1
 go_wp2_with fail
 go_ret
 exact⟨rfl,(Aa LL).below⟩
theorem turns_20 (n d:DD) (hn:FD n) (hd:FD d) (h1:Az d=2) (h2:Az n=0) (w:World):Calls prog 162 #[n.agg,d.agg] w fun e w'=>e= .returned (.bool (turnV n d))/\Below w.heap.size w w':=by
 have HD:=Ab (By d hd)
 have HN:=Ab (By n hn)
 clear hn hd
 have LL:=Ab (Kp.of2 (Lie.new2 w (.D n) (.D d)))
 unfold turnV
 rw[h1,h2]
 rw[h1] at HD
 rw[h2] at HN
 have hq0:=Gk n
 have hq1:=Gk d
 rw[hq0,hq1]
 clear hq0 hq1
 go_enter func162,ntmps162
 go_wp2_with fail
 refine wp_region_held_drew (P:=prog) (S:=fun X=>Kp w X [(w.heap.size, .D n),(w.heap.size+1, .D d)]) (by kernel_rfl) (Kp.drew (Aa LL)) (fun hS0=> ?_)
 refine x1 0 1 (some 5) (x:= .tmp 3) (b:=w.heap.size+1) (d:=d) rfl rfl hS0 ?_
 refine x2 1 (some 6) rfl (Aa HD _) hS0 (fun uw1 hS1=> ?_)
 clear hS0
 simp only[nn]
 refine x0 2 (some 7) (.bool true) rfl hS1 ?_
 refine x0 3 (some 8) (.bool true) rfl hS1 ?_
 refine x1 4 1 (some 9) (x:= .tmp 3) (b:=w.heap.size+1) (d:=d) rfl rfl hS1 ?_
 refine x1 6 0 (some 11) (x:= .tmp 2) (b:=w.heap.size) (d:=n) rfl rfl hS1 ?_
 refine x2 5 (some 10) rfl (Aa HD _) hS1 (fun uw2 hS2=> ?_)
 clear hS1
 simp only[nn]
 refine x2 7 (some 12) rfl (Aa HN _) hS2 (fun uw3 hS3=> ?_)
 clear hS2
 simp only[nn]
 refine x0 8 (some 13) (.bool true) rfl hS3 ?_
 refine x0 9 (some 14) (.bool true) rfl hS3 ?_
 refine x0 10 (some 4) (.bool true) rfl hS3 ?_
 refine dn ?_
 try simp only[nn]
 replace LL:=Ab hS3
 clear hS3
 go_wp2_with fail
 go_ret
 exact⟨rfl,(Aa LL).below⟩
theorem turns_21 (n d:DD) (hn:FD n) (hd:FD d) (h1:Az d=2) (h2:Az n=1) (w:World):Calls prog 162 #[n.agg,d.agg] w fun e w'=>e= .returned (.bool (turnV n d))/\Below w.heap.size w w':=by
 have HD:=Ab (By d hd)
 have HN:=Ab (By n hn)
 clear hn hd
 have LL:=Ab (Kp.of2 (Lie.new2 w (.D n) (.D d)))
 unfold turnV
 rw[h1,h2]
 rw[h1] at HD
 rw[h2] at HN
 have hq0:=Gk n
 have hq1:=Gk d
 rw[hq0,hq1]
 clear hq0 hq1
 go_enter func162,ntmps162
 go_wp2_with fail
 refine wp_region_held_drew (P:=prog) (S:=fun X=>Kp w X [(w.heap.size, .D n),(w.heap.size+1, .D d)]) (by kernel_rfl) (Kp.drew (Aa LL)) (fun hS0=> ?_)
 refine x1 0 1 (some 5) (x:= .tmp 3) (b:=w.heap.size+1) (d:=d) rfl rfl hS0 ?_
 refine x2 1 (some 6) rfl (Aa HD _) hS0 (fun uw1 hS1=> ?_)
 clear hS0
 simp only[nn]
 refine x0 2 (some 7) (.bool true) rfl hS1 ?_
 refine x0 3 (some 8) (.bool true) rfl hS1 ?_
 refine x1 4 1 (some 9) (x:= .tmp 3) (b:=w.heap.size+1) (d:=d) rfl rfl hS1 ?_
 refine x1 6 0 (some 11) (x:= .tmp 2) (b:=w.heap.size) (d:=n) rfl rfl hS1 ?_
 refine x2 5 (some 10) rfl (Aa HD _) hS1 (fun uw2 hS2=> ?_)
 clear hS1
 simp only[nn]
 refine x2 7 (some 12) rfl (Aa HN _) hS2 (fun uw3 hS3=> ?_)
 clear hS2
 simp only[nn]
 refine x0 8 (some 13) (.bool true) rfl hS3 ?_
 refine x0 9 (some 14) (.bool true) rfl hS3 ?_
 refine x0 10 (some 4) (.bool true) rfl hS3 ?_
 refine dn ?_
 try simp only[nn]
 replace LL:=Ab hS3
 clear hS3
 go_wp2_with fail
 go_ret
 exact⟨rfl,(Aa LL).below⟩
theorem turns_22 (n d:DD) (hn:FD n) (hd:FD d) (h1:Az d=2) (h2:Az n=2) (w:World):Calls prog 162 #[n.agg,d.agg] w fun e w'=>e= .returned (.bool (turnV n d))/\Below w.heap.size w w':=by
 have HD:=Ab (By d hd)
 have HN:=Ab (By n hn)
 clear hn hd
 have LL:=Ab (Kp.of2 (Lie.new2 w (.D n) (.D d)))
 unfold turnV
 rw[h1,h2]
 rw[h1] at HD
 rw[h2] at HN
 have hq0:=Gk n
 have hq1:=Gk d
 rw[hq0,hq1]
 clear hq0 hq1
 go_enter func162,ntmps162
 go_wp2_with fail
 refine wp_region_held_drew (P:=prog) (S:=fun X=>Kp w X [(w.heap.size, .D n),(w.heap.size+1, .D d)]) (by kernel_rfl) (Kp.drew (Aa LL)) (fun hS0=> ?_)
 refine x1 0 1 (some 5) (x:= .tmp 3) (b:=w.heap.size+1) (d:=d) rfl rfl hS0 ?_
 refine x2 1 (some 6) rfl (Aa HD _) hS0 (fun uw1 hS1=> ?_)
 clear hS0
 simp only[nn]
 refine x0 2 (some 7) (.bool true) rfl hS1 ?_
 refine x0 3 (some 8) (.bool true) rfl hS1 ?_
 refine x1 4 1 (some 9) (x:= .tmp 3) (b:=w.heap.size+1) (d:=d) rfl rfl hS1 ?_
 refine x1 6 0 (some 11) (x:= .tmp 2) (b:=w.heap.size) (d:=n) rfl rfl hS1 ?_
 refine x2 5 (some 10) rfl (Aa HD _) hS1 (fun uw2 hS2=> ?_)
 clear hS1
 simp only[nn]
 refine x2 7 (some 12) rfl (Aa HN _) hS2 (fun uw3 hS3=> ?_)
 clear hS2
 simp only[nn]
 refine x0 8 (some 13) (.bool false) rfl hS3 ?_
 refine x0 9 (some 14) (.bool false) rfl hS3 ?_
 refine x0 10 (some 4) (.bool false) rfl hS3 ?_
 refine dn ?_
 try simp only[nn]
 replace LL:=Ab hS3
 clear hS3
 go_wp2_with fail
 go_ret
 exact⟨rfl,(Aa LL).below⟩
theorem turns_23 (n d:DD) (hn:FD n) (hd:FD d) (h1:Az d=2) (h2:Az n=3) (w:World):Calls prog 162 #[n.agg,d.agg] w fun e w'=>e= .returned (.bool (turnV n d))/\Below w.heap.size w w':=by
 have HD:=Ab (By d hd)
 have HN:=Ab (By n hn)
 clear hn hd
 have LL:=Ab (Kp.of2 (Lie.new2 w (.D n) (.D d)))
 unfold turnV
 rw[h1,h2]
 rw[h1] at HD
 rw[h2] at HN
 have hq0:=Gk n
 have hq1:=Gk d
 rw[hq0,hq1]
 clear hq0 hq1
 go_enter func162,ntmps162
 go_wp2_with fail
 refine wp_region_held_drew (P:=prog) (S:=fun X=>Kp w X [(w.heap.size, .D n),(w.heap.size+1, .D d)]) (by kernel_rfl) (Kp.drew (Aa LL)) (fun hS0=> ?_)
 refine x1 0 1 (some 5) (x:= .tmp 3) (b:=w.heap.size+1) (d:=d) rfl rfl hS0 ?_
 refine x2 1 (some 6) rfl (Aa HD _) hS0 (fun uw1 hS1=> ?_)
 clear hS0
 simp only[nn]
 refine x0 2 (some 7) (.bool true) rfl hS1 ?_
 refine x0 3 (some 8) (.bool true) rfl hS1 ?_
 refine x1 4 1 (some 9) (x:= .tmp 3) (b:=w.heap.size+1) (d:=d) rfl rfl hS1 ?_
 refine x1 6 0 (some 11) (x:= .tmp 2) (b:=w.heap.size) (d:=n) rfl rfl hS1 ?_
 refine x2 5 (some 10) rfl (Aa HD _) hS1 (fun uw2 hS2=> ?_)
 clear hS1
 simp only[nn]
 refine x2 7 (some 12) rfl (Aa HN _) hS2 (fun uw3 hS3=> ?_)
 clear hS2
 simp only[nn]
 refine x0 8 (some 13) (.bool true) rfl hS3 ?_
 refine x0 9 (some 14) (.bool true) rfl hS3 ?_
 refine x0 10 (some 4) (.bool true) rfl hS3 ?_
 refine dn ?_
 try simp only[nn]
 replace LL:=Ab hS3
 clear hS3
 go_wp2_with fail
 go_ret
 exact⟨rfl,(Aa LL).below⟩
theorem turns_30 (n d:DD) (hn:FD n) (hd:FD d) (h1:Az d=3) (h2:Az n=0) (w:World):Calls prog 162 #[n.agg,d.agg] w fun e w'=>e= .returned (.bool (turnV n d))/\Below w.heap.size w w':=by
 have HD:=Ab (By d hd)
 have HN:=Ab (By n hn)
 clear hn hd
 have LL:=Ab (Kp.of2 (Lie.new2 w (.D n) (.D d)))
 unfold turnV
 rw[h1,h2]
 rw[h1] at HD
 rw[h2] at HN
 have hq0:=Gk n
 have hq1:=Gk d
 rw[hq0,hq1]
 clear hq0 hq1
 go_enter func162,ntmps162
 go_wp2_with fail
 refine wp_region_held_drew (P:=prog) (S:=fun X=>Kp w X [(w.heap.size, .D n),(w.heap.size+1, .D d)]) (by kernel_rfl) (Kp.drew (Aa LL)) (fun hS0=> ?_)
 refine x1 0 1 (some 5) (x:= .tmp 3) (b:=w.heap.size+1) (d:=d) rfl rfl hS0 ?_
 refine x2 1 (some 6) rfl (Aa HD _) hS0 (fun uw1 hS1=> ?_)
 clear hS0
 simp only[nn]
 refine x0 2 (some 7) (.bool true) rfl hS1 ?_
 refine x0 3 (some 8) (.bool true) rfl hS1 ?_
 refine x1 4 1 (some 9) (x:= .tmp 3) (b:=w.heap.size+1) (d:=d) rfl rfl hS1 ?_
 refine x1 6 0 (some 11) (x:= .tmp 2) (b:=w.heap.size) (d:=n) rfl rfl hS1 ?_
 refine x2 5 (some 10) rfl (Aa HD _) hS1 (fun uw2 hS2=> ?_)
 clear hS1
 simp only[nn]
 refine x2 7 (some 12) rfl (Aa HN _) hS2 (fun uw3 hS3=> ?_)
 clear hS2
 simp only[nn]
 refine x0 8 (some 13) (.bool true) rfl hS3 ?_
 refine x0 9 (some 14) (.bool true) rfl hS3 ?_
 refine x0 10 (some 4) (.bool true) rfl hS3 ?_
 refine dn ?_
 try simp only[nn]
 replace LL:=Ab hS3
 clear hS3
 go_wp2_with fail
 go_ret
 exact⟨rfl,(Aa LL).below⟩
theorem turns_31 (n d:DD) (hn:FD n) (hd:FD d) (h1:Az d=3) (h2:Az n=1) (w:World):Calls prog 162 #[n.agg,d.agg] w fun e w'=>e= .returned (.bool (turnV n d))/\Below w.heap.size w w':=by
 have HD:=Ab (By d hd)
 have HN:=Ab (By n hn)
 clear hn hd
 have LL:=Ab (Kp.of2 (Lie.new2 w (.D n) (.D d)))
 unfold turnV
 rw[h1,h2]
 rw[h1] at HD
 rw[h2] at HN
 have hq0:=Gk n
 have hq1:=Gk d
 rw[hq0,hq1]
 clear hq0 hq1
 go_enter func162,ntmps162
 go_wp2_with fail
 refine wp_region_held_drew (P:=prog) (S:=fun X=>Kp w X [(w.heap.size, .D n),(w.heap.size+1, .D d)]) (by kernel_rfl) (Kp.drew (Aa LL)) (fun hS0=> ?_)
 refine x1 0 1 (some 5) (x:= .tmp 3) (b:=w.heap.size+1) (d:=d) rfl rfl hS0 ?_
 refine x2 1 (some 6) rfl (Aa HD _) hS0 (fun uw1 hS1=> ?_)
 clear hS0
 simp only[nn]
 refine x0 2 (some 7) (.bool true) rfl hS1 ?_
 refine x0 3 (some 8) (.bool true) rfl hS1 ?_
 refine x1 4 1 (some 9) (x:= .tmp 3) (b:=w.heap.size+1) (d:=d) rfl rfl hS1 ?_
 refine x1 6 0 (some 11) (x:= .tmp 2) (b:=w.heap.size) (d:=n) rfl rfl hS1 ?_
 refine x2 5 (some 10) rfl (Aa HD _) hS1 (fun uw2 hS2=> ?_)
 clear hS1
 simp only[nn]
 refine x2 7 (some 12) rfl (Aa HN _) hS2 (fun uw3 hS3=> ?_)
 clear hS2
 simp only[nn]
 refine x0 8 (some 13) (.bool true) rfl hS3 ?_
 refine x0 9 (some 14) (.bool true) rfl hS3 ?_
 refine x0 10 (some 4) (.bool true) rfl hS3 ?_
 refine dn ?_
 try simp only[nn]
 replace LL:=Ab hS3
 clear hS3
 go_wp2_with fail
 go_ret
 exact⟨rfl,(Aa LL).below⟩
theorem turns_32 (n d:DD) (hn:FD n) (hd:FD d) (h1:Az d=3) (h2:Az n=2) (w:World):Calls prog 162 #[n.agg,d.agg] w fun e w'=>e= .returned (.bool (turnV n d))/\Below w.heap.size w w':=by
 have HD:=Ab (By d hd)
 have HN:=Ab (By n hn)
 clear hn hd
 have LL:=Ab (Kp.of2 (Lie.new2 w (.D n) (.D d)))
 unfold turnV
 rw[h1,h2]
 rw[h1] at HD
 rw[h2] at HN
 have hq0:=Gk n
 have hq1:=Gk d
 rw[hq0,hq1]
 clear hq0 hq1
 go_enter func162,ntmps162
 go_wp2_with fail
 refine wp_region_held_drew (P:=prog) (S:=fun X=>Kp w X [(w.heap.size, .D n),(w.heap.size+1, .D d)]) (by kernel_rfl) (Kp.drew (Aa LL)) (fun hS0=> ?_)
 refine x1 0 1 (some 5) (x:= .tmp 3) (b:=w.heap.size+1) (d:=d) rfl rfl hS0 ?_
 refine x2 1 (some 6) rfl (Aa HD _) hS0 (fun uw1 hS1=> ?_)
 clear hS0
 simp only[nn]
 refine x0 2 (some 7) (.bool true) rfl hS1 ?_
 refine x0 3 (some 8) (.bool true) rfl hS1 ?_
 refine x1 4 1 (some 9) (x:= .tmp 3) (b:=w.heap.size+1) (d:=d) rfl rfl hS1 ?_
 refine x1 6 0 (some 11) (x:= .tmp 2) (b:=w.heap.size) (d:=n) rfl rfl hS1 ?_
 refine x2 5 (some 10) rfl (Aa HD _) hS1 (fun uw2 hS2=> ?_)
 clear hS1
 simp only[nn]
 refine x2 7 (some 12) rfl (Aa HN _) hS2 (fun uw3 hS3=> ?_)
 clear hS2
 simp only[nn]
 refine x0 8 (some 13) (.bool true) rfl hS3 ?_
 refine x0 9 (some 14) (.bool true) rfl hS3 ?_
 refine x0 10 (some 4) (.bool true) rfl hS3 ?_
 refine dn ?_
 try simp only[nn]
 replace LL:=Ab hS3
 clear hS3
 go_wp2_with fail
 go_ret
 exact⟨rfl,(Aa LL).below⟩
theorem turns_33 (n d:DD) (hn:FD n) (hd:FD d) (h1:Az d=3) (h2:Az n=3) (w:World):Calls prog 162 #[n.agg,d.agg] w fun e w'=>e= .returned (.bool (turnV n d))/\Below w.heap.size w w':=by
 have HD:=Ab (By d hd)
 have HN:=Ab (By n hn)
 clear hn hd
 have LL:=Ab (Kp.of2 (Lie.new2 w (.D n) (.D d)))
 unfold turnV
 rw[h1,h2]
 rw[h1] at HD
 rw[h2] at HN
 have hq0:=Gk n
 have hq1:=Gk d
 rw[hq0,hq1]
 clear hq0 hq1
 go_enter func162,ntmps162
 go_wp2_with fail
 refine wp_region_held_drew (P:=prog) (S:=fun X=>Kp w X [(w.heap.size, .D n),(w.heap.size+1, .D d)]) (by kernel_rfl) (Kp.drew (Aa LL)) (fun hS0=> ?_)
 refine x1 0 1 (some 5) (x:= .tmp 3) (b:=w.heap.size+1) (d:=d) rfl rfl hS0 ?_
 refine x2 1 (some 6) rfl (Aa HD _) hS0 (fun uw1 hS1=> ?_)
 clear hS0
 simp only[nn]
 refine x0 2 (some 7) (.bool true) rfl hS1 ?_
 refine x0 3 (some 8) (.bool true) rfl hS1 ?_
 refine x1 4 1 (some 9) (x:= .tmp 3) (b:=w.heap.size+1) (d:=d) rfl rfl hS1 ?_
 refine x1 6 0 (some 11) (x:= .tmp 2) (b:=w.heap.size) (d:=n) rfl rfl hS1 ?_
 refine x2 5 (some 10) rfl (Aa HD _) hS1 (fun uw2 hS2=> ?_)
 clear hS1
 simp only[nn]
 refine x2 7 (some 12) rfl (Aa HN _) hS2 (fun uw3 hS3=> ?_)
 clear hS2
 simp only[nn]
 refine x0 8 (some 13) (.bool false) rfl hS3 ?_
 refine x0 9 (some 14) (.bool false) rfl hS3 ?_
 refine x0 10 (some 4) (.bool false) rfl hS3 ?_
 refine dn ?_
 try simp only[nn]
 replace LL:=Ab hS3
 clear hS3
 go_wp2_with fail
 go_ret
 exact⟨rfl,(Aa LL).below⟩
theorem Mv (d:DD):Az d=0∨Az d=1∨Az d=2∨Az d=3:=by
 unfold Az
 split
 ·exact Or.inl rfl
 ·split
  ·exact Or.inr (Or.inr (Or.inl rfl))
  ·split
   ·exact Or.inr (Or.inr (Or.inr rfl))
   ·exact Or.inr (Or.inl rfl)
theorem Zbs (n d:DD) (hn:FD n) (hd:FD d) (w:World):Calls prog 162 #[n.agg,d.agg] w fun e w'=>e= .returned (.bool (turnV n d))/\Below w.heap.size w w':=by
 rcases Mv d with h1|h1|h1|h1
 ·rcases Mv n with h2|h2|h2|h2
  ·exact turns_00 n d hn hd h1 h2 w
  ·exact turns_01 n d hn hd h1 h2 w
  ·exact turns_02 n d hn hd h1 h2 w
  ·exact turns_03 n d hn hd h1 h2 w
 ·exact turns_1 n d hn hd h1 w
 ·rcases Mv n with h2|h2|h2|h2
  ·exact turns_20 n d hn hd h1 h2 w
  ·exact turns_21 n d hn hd h1 h2 w
  ·exact turns_22 n d hn hd h1 h2 w
  ·exact turns_23 n d hn hd h1 h2 w
 ·rcases Mv n with h2|h2|h2|h2
  ·exact turns_30 n d hn hd h1 h2 w
  ·exact turns_31 n d hn hd h1 h2 w
  ·exact turns_32 n d hn hd h1 h2 w
  ·exact turns_33 n d hn hd h1 h2 w

theorem Zbl (n d:DD) (hn:FD n) (hd:FD d) (w:World) (hT:Lib.Utf8Tabs 1 2 w):Calls prog 142 #[n.agg,d.agg] w fun e w'=>e= .returned (.bool (Rr n d))/\Below w.heap.size w w':=by
 have HT:=Ab hT
 clear hT
 have HTu:=Ab (Zbs n d hn hd)
 have HSh:=Ab (By n hn)
 have HG:=Ab (fun w hT=>Qi n.g d.g hn.2.1 hd.2.1 w hT)
 have HS:=Ab (fun w hT=>Qi n.s d.s hn.2.2 hd.2.2 w hT)
 have HV:=Ab (fun w hT=>Qi n.v d.v hn.1 hd.1 w hT)
 clear hn hd
 have LL:=Ab (Lie.new2 w (.D n) (.D d))
 unfold Rr
 generalize turnV n d=tu at *
 generalize Az n=sh at *
 generalize Zbo n.g d.g=dg at *
 generalize Zbo n.s d.s=ds at *
 generalize Zbo n.v d.v=dv at *
 generalize hq2:(d.c==2)=q2 at *
 generalize hqe:(d.e !=0)=qe at *
 generalize hqn:(d.e !=n.e)=qn at *
 generalize hn1:(n.w==1)=n1 at *
 generalize hw2:(d.w==2)=w2 at *
 have hq0:=Gk n
 have hq1:=Gk d
 rw[hq0,hq1]
 clear hq0 hq1
 by_cases h3:sh=3
 ·subst h3
  go_enter func142,ntmps142
  cases q2
  ·cases qe
   ·go_wp2_with (first|go_skip|((with_reducible apply Bu);(case ho|hw|hx=>rfl);(case hc=>first|exact(Aa LL).one|exact(Aa LL).two);simp only[nn])|((with_reducible apply Ek);(case ho|hw|hx=>rfl);(case hc=>first|exact(Aa LL).one|exact(Aa LL).two);simp only[nn])|((with_reducible apply Ds);(case ho|hw|hx=>rfl);(case hc=>first|exact(Aa LL).one|exact(Aa LL).two);simp only[nn])|(go_at_call 102;refine(Dp _ _).mono ?_;rintro _ _ ⟨rfl,rfl⟩))
    refine(Aa HTu _).mono ?_
    rintro _ w16 ⟨rfl,hb⟩
    replace LL:=Ab ((Aa LL).on hb)
    clear hb
    cases tu
    ·go_wp2_with (first|go_skip|((with_reducible apply Bu);(case ho|hw|hx=>rfl);(case hc=>first|exact(Aa LL).one|exact(Aa LL).two);simp only[nn]))
     refine(Aa HSh _).mono ?_
     rintro _ w17 ⟨rfl,hb⟩
     replace LL:=Ab ((Aa LL).on hb)
     clear hb
     go_wp2_with (first|go_skip|((with_reducible apply Zl);(case ho|hw|hx=>rfl);(case hc=>first|exact(Aa LL).one|exact(Aa LL).two);simp only[nn]))
     refine(Aa HG _ (Ao (Aa HT) (Aa LL).below)).mono ?_
     rintro _ w18 ⟨rfl,hb⟩
     replace LL:=Ab ((Aa LL).on hb)
     clear hb
     cases dg
     ·go_wp2_with (first|go_skip|((with_reducible apply Zk);(case ho|hw|hx=>rfl);(case hc=>first|exact(Aa LL).one|exact(Aa LL).two);simp only[nn]))
      refine(Aa HS _ (Ao (Aa HT) (Aa LL).below)).mono ?_
      rintro _ w19 ⟨rfl,hb⟩
      replace LL:=Ab ((Aa LL).on hb)
      clear hb
      go_wp2_with (go_skip)
      go_ret
      exact⟨rfl,(Aa LL).below⟩
     ·go_wp2_with (go_skip)
      go_ret
      exact⟨rfl,(Aa LL).below⟩
    ·go_wp2_with (go_skip)
     go_ret
     exact⟨rfl,(Aa LL).below⟩
   ·cases qn
    ·go_wp2_with (first|go_skip|((with_reducible apply Bu);(case ho|hw|hx=>rfl);(case hc=>first|exact(Aa LL).one|exact(Aa LL).two);simp only[nn])|((with_reducible apply Ek);(case ho|hw|hx=>rfl);(case hc=>first|exact(Aa LL).one|exact(Aa LL).two);simp only[nn])|((with_reducible apply Ds);(case ho|hw|hx=>rfl);(case hc=>first|exact(Aa LL).one|exact(Aa LL).two);simp only[nn])|(go_at_call 102;refine(Dp _ _).mono ?_;rintro _ _ ⟨rfl,rfl⟩))
     refine(Aa HTu _).mono ?_
     rintro _ w22 ⟨rfl,hb⟩
     replace LL:=Ab ((Aa LL).on hb)
     clear hb
     cases tu
     ·go_wp2_with (first|go_skip|((with_reducible apply Bu);(case ho|hw|hx=>rfl);(case hc=>first|exact(Aa LL).one|exact(Aa LL).two);simp only[nn]))
      refine(Aa HSh _).mono ?_
      rintro _ w23 ⟨rfl,hb⟩
      replace LL:=Ab ((Aa LL).on hb)
      clear hb
      go_wp2_with (first|go_skip|((with_reducible apply Zl);(case ho|hw|hx=>rfl);(case hc=>first|exact(Aa LL).one|exact(Aa LL).two);simp only[nn]))
      refine(Aa HG _ (Ao (Aa HT) (Aa LL).below)).mono ?_
      rintro _ w24 ⟨rfl,hb⟩
      replace LL:=Ab ((Aa LL).on hb)
      clear hb
      cases dg
      ·go_wp2_with (first|go_skip|((with_reducible apply Zk);(case ho|hw|hx=>rfl);(case hc=>first|exact(Aa LL).one|exact(Aa LL).two);simp only[nn]))
       refine(Aa HS _ (Ao (Aa HT) (Aa LL).below)).mono ?_
       rintro _ w25 ⟨rfl,hb⟩
       replace LL:=Ab ((Aa LL).on hb)
       clear hb
       go_wp2_with (go_skip)
       go_ret
       exact⟨rfl,(Aa LL).below⟩
      ·go_wp2_with (go_skip)
       go_ret
       exact⟨rfl,(Aa LL).below⟩
     ·go_wp2_with (go_skip)
      go_ret
      exact⟨rfl,(Aa LL).below⟩
    ·go_wp2_with (first|go_skip|((with_reducible apply Ek);(case ho|hw|hx=>rfl);(case hc=>first|exact(Aa LL).one|exact(Aa LL).two);simp only[nn])|((with_reducible apply Ds);(case ho|hw|hx=>rfl);(case hc=>first|exact(Aa LL).one|exact(Aa LL).two);simp only[nn])|(go_at_call 102;refine(Dp _ _).mono ?_;rintro _ _ ⟨rfl,rfl⟩))
     go_ret
     exact⟨rfl,(Aa LL).below⟩
  ·go_wp2_with (first|go_skip|((with_reducible apply Ds);(case ho|hw|hx=>rfl);(case hc=>first|exact(Aa LL).one|exact(Aa LL).two);simp only[nn]))
   go_ret
   exact⟨rfl,(Aa LL).below⟩
 ·have e3:(sh==3)=false:=by simp[h3]
  rw[e3]
  go_enter func142,ntmps142
  cases q2
  ·cases qe
   ·go_wp2_with (first|go_skip|((with_reducible apply Bu);(case ho|hw|hx=>rfl);(case hc=>first|exact(Aa LL).one|exact(Aa LL).two);simp only[nn])|((with_reducible apply Ek);(case ho|hw|hx=>rfl);(case hc=>first|exact(Aa LL).one|exact(Aa LL).two);simp only[nn])|((with_reducible apply Ds);(case ho|hw|hx=>rfl);(case hc=>first|exact(Aa LL).one|exact(Aa LL).two);simp only[nn])|(go_at_call 102;refine(Dp _ _).mono ?_;rintro _ _ ⟨rfl,rfl⟩))
    refine(Aa HTu _).mono ?_
    rintro _ w28 ⟨rfl,hb⟩
    replace LL:=Ab ((Aa LL).on hb)
    clear hb
    cases tu
    ·go_wp2_with (first|go_skip|((with_reducible apply Bu);(case ho|hw|hx=>rfl);(case hc=>first|exact(Aa LL).one|exact(Aa LL).two);simp only[nn]))
     refine(Aa HSh _).mono ?_
     rintro _ w32 ⟨rfl,hb⟩
     replace LL:=Ab ((Aa LL).on hb)
     clear hb
     cases n1
     ·go_wp2_with (first|go_skip|((with_reducible apply Kj);(case ho|hw|hx=>rfl);(case hc=>first|exact(Aa LL).one|exact(Aa LL).two);simp only[nn]))
      go_ret
      exact⟨rfl,(Aa LL).below⟩
     ·cases w2
      ·go_wp2_with (first|go_skip|((with_reducible apply Zj);(case ho|hw|hx=>rfl);(case hc=>first|exact(Aa LL).one|exact(Aa LL).two);simp only[nn])|((with_reducible apply Kj);(case ho|hw|hx=>rfl);(case hc=>first|exact(Aa LL).one|exact(Aa LL).two);simp only[nn]))
       refine(Aa HV _ (Ao (Aa HT) (Aa LL).below)).mono ?_
       rintro _ w33 ⟨rfl,hb⟩
       replace LL:=Ab ((Aa LL).on hb)
       clear hb
       go_wp2_with (go_skip)
       go_ret
       exact⟨rfl,(Aa LL).below⟩
      ·go_wp2_with (first|go_skip|((with_reducible apply Kj);(case ho|hw|hx=>rfl);(case hc=>first|exact(Aa LL).one|exact(Aa LL).two);simp only[nn]))
       go_ret
       exact⟨rfl,(Aa LL).below⟩
    ·go_wp2_with (go_skip)
     go_ret
     exact⟨rfl,(Aa LL).below⟩
   ·cases qn
    ·go_wp2_with (first|go_skip|((with_reducible apply Bu);(case ho|hw|hx=>rfl);(case hc=>first|exact(Aa LL).one|exact(Aa LL).two);simp only[nn])|((with_reducible apply Ek);(case ho|hw|hx=>rfl);(case hc=>first|exact(Aa LL).one|exact(Aa LL).two);simp only[nn])|((with_reducible apply Ds);(case ho|hw|hx=>rfl);(case hc=>first|exact(Aa LL).one|exact(Aa LL).two);simp only[nn])|(go_at_call 102;refine(Dp _ _).mono ?_;rintro _ _ ⟨rfl,rfl⟩))
     refine(Aa HTu _).mono ?_
     rintro _ w34 ⟨rfl,hb⟩
     replace LL:=Ab ((Aa LL).on hb)
     clear hb
     cases tu
     ·go_wp2_with (first|go_skip|((with_reducible apply Bu);(case ho|hw|hx=>rfl);(case hc=>first|exact(Aa LL).one|exact(Aa LL).two);simp only[nn]))
      refine(Aa HSh _).mono ?_
      rintro _ w38 ⟨rfl,hb⟩
      replace LL:=Ab ((Aa LL).on hb)
      clear hb
      cases n1
      ·go_wp2_with (first|go_skip|((with_reducible apply Kj);(case ho|hw|hx=>rfl);(case hc=>first|exact(Aa LL).one|exact(Aa LL).two);simp only[nn]))
       go_ret
       exact⟨rfl,(Aa LL).below⟩
      ·cases w2
       ·go_wp2_with (first|go_skip|((with_reducible apply Zj);(case ho|hw|hx=>rfl);(case hc=>first|exact(Aa LL).one|exact(Aa LL).two);simp only[nn])|((with_reducible apply Kj);(case ho|hw|hx=>rfl);(case hc=>first|exact(Aa LL).one|exact(Aa LL).two);simp only[nn]))
        refine(Aa HV _ (Ao (Aa HT) (Aa LL).below)).mono ?_
        rintro _ w39 ⟨rfl,hb⟩
        replace LL:=Ab ((Aa LL).on hb)
        clear hb
        go_wp2_with (go_skip)
        go_ret
        exact⟨rfl,(Aa LL).below⟩
       ·go_wp2_with (first|go_skip|((with_reducible apply Kj);(case ho|hw|hx=>rfl);(case hc=>first|exact(Aa LL).one|exact(Aa LL).two);simp only[nn]))
        go_ret
        exact⟨rfl,(Aa LL).below⟩
     ·go_wp2_with (go_skip)
      go_ret
      exact⟨rfl,(Aa LL).below⟩
    ·go_wp2_with (first|go_skip|((with_reducible apply Ek);(case ho|hw|hx=>rfl);(case hc=>first|exact(Aa LL).one|exact(Aa LL).two);simp only[nn])|((with_reducible apply Ds);(case ho|hw|hx=>rfl);(case hc=>first|exact(Aa LL).one|exact(Aa LL).two);simp only[nn])|(go_at_call 102;refine(Dp _ _).mono ?_;rintro _ _ ⟨rfl,rfl⟩))
     go_ret
     exact⟨rfl,(Aa LL).below⟩
  ·go_wp2_with (first|go_skip|((with_reducible apply Ds);(case ho|hw|hx=>rfl);(case hc=>first|exact(Aa LL).one|exact(Aa LL).two);simp only[nn]))
   go_ret
   exact⟨rfl,(Aa LL).below⟩
def Kr (w:World) (b:Nat) (l:List (Nat×PB)) (X:World):Prop:= ∃r,Kp w X ((b, .D r)::l)
theorem Kr.on {w X X1:World} {b:Nat} {l:List (Nat×PB)} (h:Kr w b l X) (hb:Below X.heap.size X X1):Kr w b l X1:=by
 obtain⟨r,hr⟩:=h
 exact⟨r,hr.on hb⟩
theorem Kp.of3 {w X:World} {p p2 p3:PB} (h:Lie w X [p,p2,p3]):Kp w X [(w.heap.size+2,p3),(w.heap.size,p),(w.heap.size+1,p2)]:=
 ⟨h.below,fun q hq=>by
  have hs:=h.size
  simp at hs hq
  rcases hq with rfl|rfl|rfl
  ·exact⟨Nat.le_add_right _ _,by show w.heap.size+2<X.heap.size;omega,h.holds.2.2.1⟩
  ·exact⟨Nat.le_refl _,by show w.heap.size<X.heap.size;omega,h.holds.1⟩
  ·exact⟨Nat.le_succ _,by show w.heap.size+1<X.heap.size;omega,h.holds.2.1⟩,by simp⟩
section
variable {md:Region.Mode} {ops:Array Oper} {Q:Exit->Act->World->Prop} {w0 w:World} {l:List (Nat×PB)} {rb:Nat} {fuel:Nat} {listed:Array Bool} {a:Act} {o:Oper}
theorem Jb (i:Nat) (dst:Option Tmp) (v:Value) (hi:ops[i]? =some o)   
    (hy:YieldsIf prog ops (Kr w0 rb l) o v a)
  (hS:Kr w0 rb l w) (h:wpAnyH prog md ops Q (Kr w0 rb l) fuel (listed.setIfInBounds i true) (a.put dst v) w) (hs:Region.noSelect ops=true:=by kernel_rfl) (hf:Region.free md ops listed i=true:=by kernel_rfl) (hr:(Region.ready md ops listed).contains i=true:=by kernel_rfl) (hQ: ∀c a w,Q (.panic c) (a.put dst v) w->Q (.panic c) a w:=by exact fun _ _ _ h=>h) (hd:o.dst=dst:=by kernel_rfl):wpAnyH prog md ops Q (Kr w0 rb l) (fuel+1) listed a w:=by
 subst hd
 exact wpAnyH_take hi hs hf hr hQ hy hS h
theorem Zbx (i:Nat) (dst:Option Tmp) {f:FuncId} {args:Array Value} {V:Value} (hi:ops[i]? =some o)   
   (hC:Calls prog f args w fun e w'=>e= .returned V/\Below w.heap.size w w') (hS:Kr w0 rb l w)
  (h: ∀X,Kr w0 rb l X->wpAnyH prog md ops Q (Kr w0 rb l) fuel (listed.setIfInBounds i true) (a.put dst V) X) (hr:Region.ready md ops listed= [i]:=by kernel_rfl) (hd:o.dst=dst:=by kernel_rfl) (hw:Region.wanted o (yielded ops a.tmps)=true:=by kernel_rfl) (he:(execOp a.eval o).run prog w= .ok (.enter f args) w:=by kernel_rfl):wpAnyH prog md ops Q (Kr w0 rb l) (fuel+1) listed a w:=by
 subst hd
 refine wpAnyH_ready hr (by simp) (AllReadyH.cons hi (fun K hK=> ?_) AllReadyH.nil)
 rw[if_pos hw]
 unfold Oper.wp
 rw[he,Oper.upon_enter]
 refine hC.mono ?_
 rintro _ X ⟨rfl,hb⟩
 exact hK.out _ _ (hS.on hb) (fun hX=>h X hX)
theorem rstore (i:Nat) {x y:Operand} {u:DD} (hi:ops[i]? =some o) (hr:Region.ready md ops listed= [i]) (hd:o.dst=none) (hw:Region.wanted o (yielded ops a.tmps)=true)
  (ho:o.op= .store 43 x y) (hx:a.eval x= .pointer (some ⟨rb,0,none⟩)) (hy:a.eval y=u.agg) (hS:Kr w0 rb l w)
  (h: ∀X,Kp w0 X ((rb, .D u)::l)->wpAnyH prog md ops Q (Kr w0 rb l) fuel (listed.setIfInBounds i true) (a.put none undef) X):wpAnyH prog md ops Q (Kr w0 rb l) (fuel+1) listed a w:=by
 obtain⟨r,hK0⟩:=hS
 rw[←hd] at h
 refine wpAnyH_ready hr (by simp) (AllReadyH.cons hi (fun K hK=> ?_) AllReadyH.nil)
 rw[if_pos hw]
 have hP:=hK0.put 0 (u:=u) rfl
 exact wp_store_mid 43 x y ho _ 0 u.cs.toArray hx hy (Lies.there (hK0.get 0 rfl)) Xp (by simp[DD.cs,Value.oneCell']) (hK.out _ _ ⟨u,hP⟩ (fun _=>h _ hP))
theorem ry24v (j:Nat) {x:Operand} {b:Nat} {d:DD}    (hl:l[j]? =some (b, .D d)) (hw:Region.wanted o (yielded ops a.tmps)=true:=by kernel_rfl) (ho:o.op= .load 40 x:=by kernel_rfl) (hx:a.eval x= .pointer (some ⟨b,0,none⟩):=by kernel_rfl):YieldsIf prog ops (Kr w0 rb l) o d.v.agg a:=by
 obtain⟨t,hu,hd⟩:=Rb
 exact yieldsIf_load_mid hw 40 x ho b 0 hx d.v.cs t (fun X ⟨_,hX⟩=>Lies.rv (hX.get (j+1) hl)) hu hd Rc
theorem ry24g (j:Nat) {x:Operand} {b:Nat} {d:DD}    (hl:l[j]? =some (b, .D d)) (hw:Region.wanted o (yielded ops a.tmps)=true:=by kernel_rfl) (ho:o.op= .load 40 x:=by kernel_rfl) (hx:a.eval x= .pointer (some ⟨b,5,none⟩):=by kernel_rfl):YieldsIf prog ops (Kr w0 rb l) o d.g.agg a:=by
 obtain⟨t,hu,hd⟩:=Rb
 exact yieldsIf_load_mid hw 40 x ho b 5 hx d.g.cs t (fun X ⟨_,hX⟩=>Lies.rg (hX.get (j+1) hl)) hu hd Rc
theorem ry24s (j:Nat) {x:Operand} {b:Nat} {d:DD}    (hl:l[j]? =some (b, .D d)) (hw:Region.wanted o (yielded ops a.tmps)=true:=by kernel_rfl) (ho:o.op= .load 40 x:=by kernel_rfl) (hx:a.eval x= .pointer (some ⟨b,10,none⟩):=by kernel_rfl):YieldsIf prog ops (Kr w0 rb l) o d.s.agg a:=by
 obtain⟨t,hu,hd⟩:=Rb
 exact yieldsIf_load_mid hw 40 x ho b 10 hx d.s.cs t (fun X ⟨_,hX⟩=>Lies.rs (hX.get (j+1) hl)) hu hd Rc
theorem ry25w (j:Nat) {x:Operand} {b:Nat} {d:DD}    (hl:l[j]? =some (b, .D d)) (hw:Region.wanted o (yielded ops a.tmps)=true:=by kernel_rfl) (ho:o.op= .load 41 x:=by kernel_rfl) (hx:a.eval x= .pointer (some ⟨b,15,none⟩):=by kernel_rfl):YieldsIf prog ops (Kr w0 rb l) o (.int .i64 d.w) a:=by
 refine Or.inl ⟨hw,fun X hX=> ?_⟩
 obtain⟨_,hX⟩:=hX
 obtain⟨-,h0,h1,h2,h3,h4,h5,h6,h7,h8,h9,h10,h11,h12,h13,h14,h15,h16,h17⟩:=hX.get (j+1) hl
 unfold execOp
 simp only[ho,hx]
 simp[go_sem,h15,isAgg41]
theorem ry25e (j:Nat) {x:Operand} {b:Nat} {d:DD}    (hl:l[j]? =some (b, .D d)) (hw:Region.wanted o (yielded ops a.tmps)=true:=by kernel_rfl) (ho:o.op= .load 41 x:=by kernel_rfl) (hx:a.eval x= .pointer (some ⟨b,16,none⟩):=by kernel_rfl):YieldsIf prog ops (Kr w0 rb l) o (.int .i64 d.e) a:=by
 refine Or.inl ⟨hw,fun X hX=> ?_⟩
 obtain⟨_,hX⟩:=hX
 obtain⟨-,h0,h1,h2,h3,h4,h5,h6,h7,h8,h9,h10,h11,h12,h13,h14,h15,h16,h17⟩:=hX.get (j+1) hl
 unfold execOp
 simp only[ho,hx]
 simp[go_sem,h16,isAgg41]
theorem ry25c (j:Nat) {x:Operand} {b:Nat} {d:DD}    (hl:l[j]? =some (b, .D d)) (hw:Region.wanted o (yielded ops a.tmps)=true:=by kernel_rfl) (ho:o.op= .load 41 x:=by kernel_rfl) (hx:a.eval x= .pointer (some ⟨b,17,none⟩):=by kernel_rfl):YieldsIf prog ops (Kr w0 rb l) o (.int .i64 d.c) a:=by
 refine Or.inl ⟨hw,fun X hX=> ?_⟩
 obtain⟨_,hX⟩:=hX
 obtain⟨-,h0,h1,h2,h3,h4,h5,h6,h7,h8,h9,h10,h11,h12,h13,h14,h15,h16,h17⟩:=hX.get (j+1) hl
 unfold execOp
 simp only[ho,hx]
 simp[go_sem,h17,isAgg41]
end
theorem Zb1 (t a:Int) (w:World):Calls prog 161 #[.int .i64 t, .int .i64 a] w fun e w'=>e= .returned (.int .i64 (orT t a))/\Below w.heap.size w w':=
 (Zh t a w).mono fun e w' h=>⟨h.1,by rw[h.2];exact Below.refl _ _⟩
theorem ZeO (n d:DD) (hn:FD n) (hd:FD d) (w:World):Calls prog 143 #[n.agg,d.agg] w fun e w'=>e= .returned (Ke n d).agg/\Below w.heap.size w w':=by
 have HTu:=Ab (Zbs n d hn hd)
 have HF:=Ab (ZaN ⟨d.v,d.g,d.s,d.w,orT d.e n.e,orT d.c n.c⟩ ⟨hd.1,hd.2.1,hd.2.2⟩)
 have HOv:=Ab (Ka d.v n.v hd.1)
 have HOg:=Ab (Ka d.g n.g hd.2.1)
 have HOs:=Ab (Ka d.s n.s hd.2.2)
 clear hn hd
 have LL:=Ab (Lie.new3 w (.D n) (.D d) (.D zeroD))
 unfold Ke
 generalize turnV n d=tu at *
 generalize Jy ⟨d.v,d.g,d.s,d.w,orT d.e n.e,orT d.c n.c⟩=fd at *
 have hq0:=Gk n
 have hq1:=Gk d
 rw[hq0,hq1]
 clear hq0 hq1
 go_enter func143,ntmps143
 go_wp2_with (first|go_skip|((with_reducible apply Bu);(case ho|hw|hx=>rfl);(case hc=>first|exact(Aa LL).one|exact(Aa LL).two|exact(Aa LL).three);simp only[nn]))
 refine(Aa HTu _).mono ?_
 rintro _ w11 ⟨rfl,hb⟩
 replace LL:=Ab ((Aa LL).on hb)
 clear hb
 cases tu
 ·go_wp2_with fail
  refine wp_region_held_drew (P:=prog) (S:=Kr w (w.heap.size+2) [(w.heap.size, .D n),(w.heap.size+1, .D d)]) (by kernel_rfl) (Kr.on ⟨zeroD,(Kp.of3 (Aa LL)).drew⟩ (Below.refl _ _)) (fun hS0=> ?_)
  refine Jb 0 (some 22) (.pointer (some ⟨w.heap.size+1,0,none⟩)) rfl (Or.inl ⟨by kernel_rfl,fun _ _=>by kernel_rfl⟩) hS0 ?_
  simp only[nn]
  refine Jb 1 (some 23) d.v.agg rfl (ry24v 1 (x:= .tmp 22) (b:=w.heap.size+1) (d:=d) rfl) hS0 ?_
  simp only[nn]
  refine Jb 2 (some 24) (.pointer (some ⟨w.heap.size,0,none⟩)) rfl (Or.inl ⟨by kernel_rfl,fun _ _=>by kernel_rfl⟩) hS0 ?_
  simp only[nn]
  refine Jb 3 (some 25) n.v.agg rfl (ry24v 0 (x:= .tmp 24) (b:=w.heap.size) (d:=n) rfl) hS0 ?_
  simp only[nn]
  refine Jb 5 (some 27) (.pointer (some ⟨w.heap.size+1,5,none⟩)) rfl (Or.inl ⟨by kernel_rfl,fun _ _=>by kernel_rfl⟩) hS0 ?_
  simp only[nn]
  refine Jb 6 (some 28) d.g.agg rfl (ry24g 1 (x:= .tmp 27) (b:=w.heap.size+1) (d:=d) rfl) hS0 ?_
  simp only[nn]
  refine Jb 7 (some 29) (.pointer (some ⟨w.heap.size,5,none⟩)) rfl (Or.inl ⟨by kernel_rfl,fun _ _=>by kernel_rfl⟩) hS0 ?_
  simp only[nn]
  refine Jb 8 (some 30) n.g.agg rfl (ry24g 0 (x:= .tmp 29) (b:=w.heap.size) (d:=n) rfl) hS0 ?_
  simp only[nn]
  refine Jb 10 (some 32) (.pointer (some ⟨w.heap.size+1,10,none⟩)) rfl (Or.inl ⟨by kernel_rfl,fun _ _=>by kernel_rfl⟩) hS0 ?_
  simp only[nn]
  refine Jb 11 (some 33) d.s.agg rfl (ry24s 1 (x:= .tmp 32) (b:=w.heap.size+1) (d:=d) rfl) hS0 ?_
  simp only[nn]
  refine Jb 12 (some 34) (.pointer (some ⟨w.heap.size,10,none⟩)) rfl (Or.inl ⟨by kernel_rfl,fun _ _=>by kernel_rfl⟩) hS0 ?_
  simp only[nn]
  refine Jb 13 (some 35) n.s.agg rfl (ry24s 0 (x:= .tmp 34) (b:=w.heap.size) (d:=n) rfl) hS0 ?_
  simp only[nn]
  refine Jb 15 (some 37) (.pointer (some ⟨w.heap.size+1,15,none⟩)) rfl (Or.inl ⟨by kernel_rfl,fun _ _=>by kernel_rfl⟩) hS0 ?_
  simp only[nn]
  refine Jb 16 (some 38) (.int .i64 d.w) rfl (ry25w 1 (x:= .tmp 37) (b:=w.heap.size+1) (d:=d) rfl) hS0 ?_
  simp only[nn]
  refine Jb 17 (some 39) (.pointer (some ⟨w.heap.size,15,none⟩)) rfl (Or.inl ⟨by kernel_rfl,fun _ _=>by kernel_rfl⟩) hS0 ?_
  simp only[nn]
  refine Jb 18 (some 40) (.int .i64 n.w) rfl (ry25w 0 (x:= .tmp 39) (b:=w.heap.size) (d:=n) rfl) hS0 ?_
  simp only[nn]
  refine Jb 20 (some 42) (.pointer (some ⟨w.heap.size+1,16,none⟩)) rfl (Or.inl ⟨by kernel_rfl,fun _ _=>by kernel_rfl⟩) hS0 ?_
  simp only[nn]
  refine Jb 21 (some 43) (.int .i64 d.e) rfl (ry25e 1 (x:= .tmp 42) (b:=w.heap.size+1) (d:=d) rfl) hS0 ?_
  simp only[nn]
  refine Jb 22 (some 44) (.pointer (some ⟨w.heap.size,16,none⟩)) rfl (Or.inl ⟨by kernel_rfl,fun _ _=>by kernel_rfl⟩) hS0 ?_
  simp only[nn]
  refine Jb 23 (some 45) (.int .i64 n.e) rfl (ry25e 0 (x:= .tmp 44) (b:=w.heap.size) (d:=n) rfl) hS0 ?_
  simp only[nn]
  refine Jb 25 (some 47) (.pointer (some ⟨w.heap.size+1,17,none⟩)) rfl (Or.inl ⟨by kernel_rfl,fun _ _=>by kernel_rfl⟩) hS0 ?_
  simp only[nn]
  refine Jb 26 (some 48) (.int .i64 d.c) rfl (ry25c 1 (x:= .tmp 47) (b:=w.heap.size+1) (d:=d) rfl) hS0 ?_
  simp only[nn]
  refine Jb 27 (some 49) (.pointer (some ⟨w.heap.size,17,none⟩)) rfl (Or.inl ⟨by kernel_rfl,fun _ _=>by kernel_rfl⟩) hS0 ?_
  simp only[nn]
  refine Jb 28 (some 50) (.int .i64 n.c) rfl (ry25c 0 (x:= .tmp 49) (b:=w.heap.size) (d:=n) rfl) hS0 ?_
  simp only[nn]
  refine Zbx 4 (some 26) rfl (Aa HOv _) hS0 (fun w1 hS1=> ?_)
  clear hS0
  simp only[nn]
  refine Zbx 9 (some 31) rfl (Aa HOg _) hS1 (fun w2 hS2=> ?_)
  clear hS1
  simp only[nn]
  refine Zbx 14 (some 36) rfl (Aa HOs _) hS2 (fun w3 hS3=> ?_)
  clear hS2
  simp only[nn]
  refine Zbx 19 (some 41) rfl (Zb1 d.w n.w _) hS3 (fun w4 hS4=> ?_)
  clear hS3
  simp only[nn]
  refine Zbx 24 (some 46) rfl (Zb1 d.e n.e _) hS4 (fun w5 hS5=> ?_)
  clear hS4
  simp only[nn]
  refine Zbx 29 (some 51) rfl (Zb1 d.c n.c _) hS5 (fun w6 hS6=> ?_)
  clear hS5
  simp only[nn]
  refine Jb 30 (some 52) (DD.agg ⟨orV d.v n.v,orV d.g n.g,orV d.s n.s,orT d.w n.w,orT d.e n.e,orT d.c n.c⟩) rfl (Or.inl ⟨by kernel_rfl,fun _ _=>by kernel_rfl⟩) hS6 ?_
  simp only[nn]
  refine rstore 31 (x:= .tmp 4) (y:= .tmp 52) (u:=⟨orV d.v n.v,orV d.g n.g,orV d.s n.s,orT d.w n.w,orT d.e n.e,orT d.c n.c⟩) rfl (by kernel_rfl) (by kernel_rfl) (by kernel_rfl) (by kernel_rfl) (by kernel_rfl) (by kernel_rfl) hS6 (fun w7 hK=> ?_)
  clear hS6
  try simp only[nn]
  refine dn ?_
  go_wp2_with fail
  refine Zc5 rfl rfl rfl (hK.get 0 rfl) ?_
  exact⟨rfl,hK.below⟩
 ·go_wp2_with (first|go_skip|((with_reducible apply Bu);(case ho|hw|hx=>rfl);(case hc=>first|exact(Aa LL).one|exact(Aa LL).two|exact(Aa LL).three);simp only[nn])|((with_reducible apply Ek);(case ho|hw|hx=>rfl);(case hc=>first|exact(Aa LL).one|exact(Aa LL).two|exact(Aa LL).three);simp only[nn])|((with_reducible apply Ds);(case ho|hw|hx=>rfl);(case hc=>first|exact(Aa LL).one|exact(Aa LL).two|exact(Aa LL).three);simp only[nn])|((with_reducible apply Zaa 1);(case ho|hw=>rfl);(case hL=>exact Aa LL);(case hi|hx|hy=>rfl);(intro X LX;simp only[nn];replace LL:=Ab LX;clear LX))|((with_reducible apply Zab 1);(case ho|hw=>rfl);(case hL=>exact Aa LL);(case hi|hx|hy=>rfl);(intro X LX;simp only[nn];replace LL:=Ab LX;clear LX))|(go_at_call 161;refine(Zh _ _ _).mono ?_;rintro _ _ ⟨rfl,rfl⟩))
  refine(Aa HF _).mono ?_
  rintro _ w11 ⟨rfl,hb⟩
  replace LL:=Ab ((Aa LL).on hb)
  clear hb
  go_wp2_with (first|go_skip|((with_reducible apply Kg 2);(case ho|hw=>rfl);(case hL=>exact Aa LL);(case hi|hx|hy=>rfl);(intro X LX;simp only[nn];replace LL:=Ab LX;clear LX)))
  refine Zc5 rfl rfl rfl (Aa LL).three ?_
  exact⟨rfl,(Aa LL).below⟩
end
section
open Go Go.Proofs Go.Maps Go.RowKit Tryz
theorem Hq.three (w:World) (E:List Nat) {b0:Nat} {c0:List Value} (h0:Holds w b0 c0) (hc0:0<c0.length) (a b:List Value) (s t:TypeId) (ha:0<a.length) (hb:0<b.length):Hq w ((w.alloc (Obj.cells a.toArray s)).alloc (Obj.cells b.toArray t)) E [(b0,c0),(w.heap.size,a),(w.heap.size+1,b)]:=by
 have h:=(((Hq.nil w E).add h0 hc0 (fun q hq=>by cases hq)).new a s ha).new b t hb
 rw[show (w.alloc (Obj.cells a.toArray s)).heap.size=w.heap.size+1 by simp] at h
 exact h
theorem ZaR {o:Oper} {a:Act} {w:World} {x y:Operand} {k:KK} {d:DD} (ho:o.op= .build 80 #[(0,x),(1,y)]) (hx:a.eval x= .agg k.cs.toArray) (hy:a.eval y= .agg d.cs.toArray):(execOp a.eval o).run prog w= .ok (.value (.agg (k.cs++d.cs).toArray)) w:=by
 have e:(Instr.build 80 #[(0, .agg k.cs.toArray),(1, .agg d.cs.toArray)]).run prog w= .ok (.agg (k.cs++d.cs).toArray) w:=by kernel_rfl
 unfold execOp
 simp only[ho,List.map_toArray,List.map_cons,List.map_nil,hx,hy]
 simp[e]
theorem Zb2 {w X:World} {E:List Nat} (h:Lib.Utf8Tabs 1 2 w) (hf:Fr w X E) (hE: ∀b∈E,3<=b):Lib.Utf8Tabs 1 2 X:=by
 have hs:=Zbu h
 have e2:X.heap[1]? =w.heap[1]? :=hf.block 1 (by omega) (fun hm=>by have:=hE _ hm;omega)
 have e3:X.heap[2]? =w.heap[2]? :=hf.block 2 (by omega) (fun hm=>by have:=hE _ hm;omega)
 exact⟨fun c hc=>(World.cell?_of_block (a:=⟨1,c,none⟩) e2).trans (h.1 c hc),fun i hi=>⟨(World.cell?_of_block (a:=⟨2,2 * i,none⟩) e3).trans (h.2 i hi).1,(World.cell?_of_block (a:=⟨2,2 * i+1,none⟩) e3).trans (h.2 i hi).2⟩⟩
theorem ZcP {T:TT} {w X:World} {rv:Value} {R:Nat} {k:KK} {d:DD} (hg: ∀g,rv.ownBlock=some g->T.rv.ownBlock=some g∨X.heap.size<=g) (hR:w.heap.size<=R) (hs:w.heap.size<=X.heap.size): ∀b∈(T.added rv R k d).blocks,b∈T.blocks∨w.heap.size<=b:=by
 intro b hb
 simp only[TT.blocks,TT.added,List.mem_cons,List.mem_append,List.map_append,List.map_cons,List.map_nil,List.not_mem_nil,or_false] at hb ⊢
 rcases hb with h|h|h|h|h
 ·exact .inl (.inl h)
 ·exact .inl (.inr (.inl h))
 ·rcases hg b (by simpa using h) with h|h
  ·exact .inl (.inr (.inr (.inl (by rw[h];simp))))
  ·exact .inr (by omega)
 ·exact .inl (.inr (.inr (.inr h)))
 ·exact .inr (by omega)
theorem put_some (T:TT) (k:KK) (d:DD) (w:World) (hT:T.Is w) (hU:Lib.Utf8Tabs 1 2 w) (hk:OkK k) (hl:T.last<4000000) (r:RR) (hf:T.find k=some r):Calls prog 108 #[.pointer (some ⟨T.t,0,none⟩),k.agg,d.agg] w fun e w'=>e= .returned (.int .i64 (0))/\ ∃T':TT,T'.Is w'/\T'.t=T.t/\Fr w w' T.blocks/\(∀b∈T'.blocks,b∈T.blocks∨w.heap.size<=b)/\((∃r,T.find k=some r/\T'=T.upd r.b d)∨(T.find k=none/\goodK k=true/\ ∃rv R,T'=T.added rv R k d)∨(T.find k=none/\goodK k=false/\T'=T)):=by
 have hr:=(T.find_mem hf).1
 have LL:=Ab (Hq.three w T.blocks (hT.rows r hr) (Nat.succ_pos _) k.cs d.cs 37 43 (Nat.succ_pos _) (Nat.succ_pos _))
 have HT:=Ab (hT.on (Nn w k.cs.toArray d.cs.toArray 37 43))
 have HH:=Ab hT
 clear hT
 rw[show k.agg= .agg k.cs.toArray from rfl,show d.agg= .agg d.cs.toArray from rfl]
 go_enter func108,ntmps108
 go_wp2
 refine wp_region_held_drew (P:=prog) (S:=fun X=>T.Is X/\Hq w X T.blocks [(r.b,r.cs),(w.heap.size,k.cs),(w.heap.size+1,d.cs)]) (by kernel_rfl) ⟨(Aa HT).drew,(Aa LL).drew⟩ (fun hS0=> ?_)
 refine y0 0 (some 11) (.pointer (some ⟨T.t,0,none⟩)) rfl hS0 ?_
 refine y0 1 (some 12) (.pointer (some ⟨T.t,0,none⟩)) rfl hS0 ?_
 refine y0 2 (some 13) (.pointer (some ⟨T.t,0,none⟩)) rfl hS0 ?_
 refine y1 3 (some 14) (.map (some T.m)) rfl (fun X hX=>Ad 190 isAgg190 rfl rfl (hX.1.tab) rfl) hS0 ?_
 refine y1 4 (some 15) (k.agg) rfl (fun X hX=>Af (vs:=k.cs) 37 2 Jh Kh rfl rfl (hX.2.get 1 rfl) rfl rfl) hS0 ?_
 refine y1 5 (some 16) (.tuple #[pv (some r.b), .bool true]) rfl (fun X hX=>Ou (r:=some r.b) rfl rfl rfl hX.1.map hk (by rw[hf];rfl)) hS0 ?_
 refine y0 6 (some 10) (.tuple #[pv (some r.b), .bool true]) rfl hS0 ?_
 refine y0 7 (some 17) (pv (some r.b)) rfl hS0 ?_
 refine y0 9 (some 7) (pv (some r.b)) rfl hS0 ?_
 refine y0 8 (some 18) (.bool true) rfl hS0 ?_
 refine y0 10 (some 8) (.bool true) rfl hS0 ?_
 refine dn ?_
 try simp only[nn]
 replace HT:=Ab hS0.1
 replace LL:=Ab hS0.2
 clear hS0
 unfold pv
 have hrb:=Ab (TT.Part.mem (T:=T) (.inr (.inr (List.mem_map.2 ⟨r,hr,rfl⟩))))
 go_wp2_with (first|go_skip|(refine rd rfl (Af (vs:=d.cs) 43 18 Zag Pm rfl rfl ((Aa LL).get 2 rfl) rfl rfl) ?_)|((refine st (vs:=d.cs) 0 43 (by rfl) rfl rfl rfl rfl (by simp[DD.cs,VV.cs,Value.oneCell']) Pm (Aa LL) rfl (by simp[Uo,Ed]) (Or.inl (Aa hrb)) ?_);intro w3 L3 hf3 hs3;replace LL:=Ab L3;have HF:=Ab hf3;clear L3 hf3 hs3;simp only[nn]))
 go_ret
 exact⟨rfl,T.upd r.b d,(Aa HT).upd hr (Aa HF) ((Aa LL).get 0 rfl),rfl,(Aa LL).fr,(fun b hb=>Or.inl (T.upd_blocks r.b d▸hb)),Or.inl ⟨r,hf,rfl⟩⟩
theorem put_good (T:TT) (k:KK) (d:DD) (w:World) (hT:T.Is w) (hU:Lib.Utf8Tabs 1 2 w) (hk:OkK k) (hl:T.last<4000000) (hTT:Hid (∀b∈T.blocks,3<=b)) (hf:T.find k=none) (hg:goodK k=true):Calls prog 108 #[.pointer (some ⟨T.t,0,none⟩),k.agg,d.agg] w fun e w'=>e= .returned (.int .i64 (0))/\ ∃T':TT,T'.Is w'/\T'.t=T.t/\Fr w w' T.blocks/\(∀b∈T'.blocks,b∈T.blocks∨w.heap.size<=b)/\((∃r,T.find k=some r/\T'=T.upd r.b d)∨(T.find k=none/\goodK k=true/\ ∃rv R,T'=T.added rv R k d)∨(T.find k=none/\goodK k=false/\T'=T)):=by
 have HU:=Ab hU
 clear hU
 have LL:=Ab (Hq.two w T.blocks k.cs d.cs 37 43 (Nat.succ_pos _) (Nat.succ_pos _))
 have HT:=Ab (hT.on (Nn w k.cs.toArray d.cs.toArray 37 43))
 have HH:=Ab hT
 clear hT
 rw[show k.agg= .agg k.cs.toArray from rfl,show d.agg= .agg d.cs.toArray from rfl]
 go_enter func108,ntmps108
 go_wp2
 refine wp_region_held_drew (P:=prog) (S:=fun X=>T.Is X/\Hq w X T.blocks [(w.heap.size,k.cs),(w.heap.size+1,d.cs)]) (by kernel_rfl) ⟨(Aa HT).drew,(Aa LL).drew⟩ (fun hS0=> ?_)
 refine y0 0 (some 11) (.pointer (some ⟨T.t,0,none⟩)) rfl hS0 ?_
 refine y0 1 (some 12) (.pointer (some ⟨T.t,0,none⟩)) rfl hS0 ?_
 refine y0 2 (some 13) (.pointer (some ⟨T.t,0,none⟩)) rfl hS0 ?_
 refine y1 3 (some 14) (.map (some T.m)) rfl (fun X hX=>Ad 190 isAgg190 rfl rfl (hX.1.tab) rfl) hS0 ?_
 refine y1 4 (some 15) (k.agg) rfl (fun X hX=>Af (vs:=k.cs) 37 2 Jh Kh rfl rfl (hX.2.get 0 rfl) rfl rfl) hS0 ?_
 refine y1 5 (some 16) (.tuple #[pv (none), .bool false]) rfl (fun X hX=>Ou (r:=none) rfl rfl rfl hX.1.map hk (by rw[hf];rfl)) hS0 ?_
 refine y0 6 (some 10) (.tuple #[pv (none), .bool false]) rfl hS0 ?_
 refine y0 7 (some 17) (pv (none)) rfl hS0 ?_
 refine y0 9 (some 7) (pv (none)) rfl hS0 ?_
 refine y0 8 (some 18) (.bool false) rfl hS0 ?_
 refine y0 10 (some 8) (.bool false) rfl hS0 ?_
 refine dn ?_
 try simp only[nn]
 replace HT:=Ab hS0.1
 replace LL:=Ab hS0.2
 clear hS0
 unfold pv
 go_wp2_with (first|go_skip|(refine rd rfl (Af (vs:=k.cs) 37 2 Jh Kh rfl rfl ((Aa LL).get 0 rfl) rfl rfl) ?_))
 refine(Zu k.s k.n _ (Zb2 (Aa HU) (Aa LL).fr (Aa hTT))).mono ?_
 rintro _ w4 ⟨rfl,hb⟩
 rw[show (Rh k.s k.n).good=goodK k from rfl,hg]
 replace HT:=Ab ((Aa HT).on hb)
 replace LL:=Ab ((Aa LL).on hb)
 clear hb
 simp only[if_true]
 go_wp2_with (first|go_skip|(refine rd rfl (Af (vs:=k.cs) 37 2 Jh Kh rfl rfl ((Aa LL).get 0 rfl) rfl rfl) ?_)|(refine rd rfl (Af (vs:=d.cs) 43 18 Zag Pm rfl rfl ((Aa LL).get 1 rfl) rfl rfl) ?_)|(refine rd rfl (ZaR rfl rfl rfl) ?_))
 refine(add34 T k d _ (Aa HT) hk hg hf hl).mono ?_
 rintro _ w5 ⟨rfl,rv,R,hT5,hF5,hR5,hg5⟩
 have HF:=Ab ((Aa LL).fr.trans hF5 (fun b hb=>Or.inl hb))
 have hs:=(Aa LL).fr.size
 have H5:=Ab hT5
 have H6:=Ab hg5
 have H7:=Ab (Nat.le_trans hs hR5)
 have H8:=Ab hs
 clear hT5 hF5 hg5 hR5 hs
 go_wp2
 go_ret
 refine⟨rfl,_,Aa H5,rfl,Aa HF, ?_,Or.inr (Or.inl ⟨hf,hg,rv,R,rfl⟩)⟩
 exact ZcP (Aa H6) (Aa H7) (Aa H8)
theorem put_bad (T:TT) (k:KK) (d:DD) (w:World) (hT:T.Is w) (hU:Lib.Utf8Tabs 1 2 w) (hk:OkK k) (hl:T.last<4000000) (hTT:Hid (∀b∈T.blocks,3<=b)) (hf:T.find k=none) (hg:goodK k=false):Calls prog 108 #[.pointer (some ⟨T.t,0,none⟩),k.agg,d.agg] w fun e w'=>e= .returned (.int .i64 (5))/\ ∃T':TT,T'.Is w'/\T'.t=T.t/\Fr w w' T.blocks/\(∀b∈T'.blocks,b∈T.blocks∨w.heap.size<=b)/\((∃r,T.find k=some r/\T'=T.upd r.b d)∨(T.find k=none/\goodK k=true/\ ∃rv R,T'=T.added rv R k d)∨(T.find k=none/\goodK k=false/\T'=T)):=by
 have HU:=Ab hU
 clear hU
 have LL:=Ab (Hq.two w T.blocks k.cs d.cs 37 43 (Nat.succ_pos _) (Nat.succ_pos _))
 have HT:=Ab (hT.on (Nn w k.cs.toArray d.cs.toArray 37 43))
 have HH:=Ab hT
 clear hT
 rw[show k.agg= .agg k.cs.toArray from rfl,show d.agg= .agg d.cs.toArray from rfl]
 go_enter func108,ntmps108
 go_wp2
 refine wp_region_held_drew (P:=prog) (S:=fun X=>T.Is X/\Hq w X T.blocks [(w.heap.size,k.cs),(w.heap.size+1,d.cs)]) (by kernel_rfl) ⟨(Aa HT).drew,(Aa LL).drew⟩ (fun hS0=> ?_)
 refine y0 0 (some 11) (.pointer (some ⟨T.t,0,none⟩)) rfl hS0 ?_
 refine y0 1 (some 12) (.pointer (some ⟨T.t,0,none⟩)) rfl hS0 ?_
 refine y0 2 (some 13) (.pointer (some ⟨T.t,0,none⟩)) rfl hS0 ?_
 refine y1 3 (some 14) (.map (some T.m)) rfl (fun X hX=>Ad 190 isAgg190 rfl rfl (hX.1.tab) rfl) hS0 ?_
 refine y1 4 (some 15) (k.agg) rfl (fun X hX=>Af (vs:=k.cs) 37 2 Jh Kh rfl rfl (hX.2.get 0 rfl) rfl rfl) hS0 ?_
 refine y1 5 (some 16) (.tuple #[pv (none), .bool false]) rfl (fun X hX=>Ou (r:=none) rfl rfl rfl hX.1.map hk (by rw[hf];rfl)) hS0 ?_
 refine y0 6 (some 10) (.tuple #[pv (none), .bool false]) rfl hS0 ?_
 refine y0 7 (some 17) (pv (none)) rfl hS0 ?_
 refine y0 9 (some 7) (pv (none)) rfl hS0 ?_
 refine y0 8 (some 18) (.bool false) rfl hS0 ?_
 refine y0 10 (some 8) (.bool false) rfl hS0 ?_
 refine dn ?_
 try simp only[nn]
 replace HT:=Ab hS0.1
 replace LL:=Ab hS0.2
 clear hS0
 unfold pv
 go_wp2_with (first|go_skip|(refine rd rfl (Af (vs:=k.cs) 37 2 Jh Kh rfl rfl ((Aa LL).get 0 rfl) rfl rfl) ?_))
 refine(Zu k.s k.n _ (Zb2 (Aa HU) (Aa LL).fr (Aa hTT))).mono ?_
 rintro _ w4 ⟨rfl,hb⟩
 rw[show (Rh k.s k.n).good=goodK k from rfl,hg]
 replace HT:=Ab ((Aa HT).on hb)
 replace LL:=Ab ((Aa LL).on hb)
 clear hb
 simp only[Bool.false_eq_true,if_false]
 go_wp2_with (go_skip)
 go_ret
 exact⟨rfl,T,Aa HT,rfl,(Aa LL).fr,(fun b hb=>Or.inl hb),Or.inr (Or.inr ⟨hf,hg,rfl⟩)⟩
theorem put12 (T:TT) (k:KK) (d:DD) (w:World) (hT:T.Is w) (hU:Lib.Utf8Tabs 1 2 w) (hk:OkK k) (hl:T.last<4000000) (hTT: ∀b∈T.blocks,3<=b):Calls prog 108 #[.pointer (some ⟨T.t,0,none⟩),k.agg,d.agg] w fun e w'=>e= .returned (.int .i64 (if goodK k then 0 else 5))/\ ∃T':TT,T'.Is w'/\T'.t=T.t/\Fr w w' T.blocks/\(∀b∈T'.blocks,b∈T.blocks∨w.heap.size<=b)/\((∃r,T.find k=some r/\T'=T.upd r.b d)∨(T.find k=none/\goodK k=true/\ ∃rv R,T'=T.added rv R k d)∨(T.find k=none/\goodK k=false/\T'=T)):=by
 by_cases hx:T.find k=none
 rotate_left
 ·obtain⟨r,hf⟩:=Option.ne_none_iff_exists'.1 hx
  have hg:goodK k=true:=by
   have h1:=T.find_mem hf
   rw[←h1.2.2]
   exact hT.good r (by simp[TT.live,h1.1,h1.2.1])
  rw[if_pos hg]
  have:=put_some T k d w hT hU hk hl r hf
  exact this
 ·have hf:=hx
  by_cases hg:goodK k=true
  ·rw[if_pos hg]
   have:=put_good T k d w hT hU hk hl (Ab hTT) hf hg
   exact this
  ·rw[if_neg hg]
   have:=put_bad T k d w hT hU hk hl (Ab hTT) hf (by simpa using hg)
   exact this
