import Derived.Test.YtlpdllcedgnaaaaGreatDoorQt
set_option linter.all false
namespace Go.Proofs.YtlpdllcedgnaaaaGreatDoor
set_option maxRecDepth 100000
set_option maxHeartbeats 0
section
open Go Go.Proofs Go.RowKit FM Tryz
def Dw (n d:DD):Bool:=Bs d !=1 && Bs d !=Bs n
def Ou (n d:DD):Bool:=if d.c==2||d.e !=0 && d.e !=n.e||Dw n d then true else if Bs n==3 then Zt n.g d.g||Zt n.s d.s else n.w==1 && (d.w==2||Zt n.v d.v)
def Vv (n d:DD):DD:=if Dw n d then Jj ⟨d.v,d.g,d.s,d.w,orT d.e n.e,orT d.c n.c⟩ else ⟨orV d.v n.v,orV d.g n.g,orV d.s n.s,orT d.w n.w,orT d.e n.e,orT d.c n.c⟩
theorem turns_00 (n d:DD) (hn:FD n) (hd:FD d) (h1:Bs d=0) (h2:Bs n=0) (w:World):Calls prog 131 #[n.agg,d.agg] w fun e w'=>e= .returned (.bool (Dw n d))/\Below w.heap.size w w':=by
 have HD:=Ab (Bp d hd)
 have HN:=Ab (Bp n hn)
 clear hn hd
 have LL:=Ab (Kp.of2 (Lie.new2 w (.D n) (.D d)))
 unfold Dw
 rw[h1,h2]
 rw[h1] at HD
 rw[h2] at HN
 have hq0:=Ev n
 have hq1:=Ev d
 rw[hq0,hq1]
 clear hq0 hq1
 go_enter func131,ntmps131
 go_wp2_with fail
 refine wp_region_held_drew (P:=prog) (S:=fun X=>Kp w X [(w.heap.size, .D n),(w.heap.size+1, .D d)]) (by kernel_rfl) (Kp.drew (Aa LL)) (fun hS0=> ?_)
 refine x1 0 1 (some 5) (x:= .tmp 3) (b:=w.heap.size+1) (d:=d) rfl rfl hS0 ?_
 refine x2 1 (some 6) rfl (Aa HD _) hS0 (fun uw1 hS1=> ?_)
 clear hS0
 simp only[nn]
 refine x0 2 (some 7) (.bool true) rfl hS1 ?_
 refine x0 3 (some 8) (.bool true) rfl hS1 ?_
 refine x1 4 1 (some 9) (x:= .tmp 3) (b:=w.heap.size+1) (d:=d) rfl rfl hS1 ?_
 refine x1 6 0 (some 11) (x:= .tmp 2) (b:=w.heap.size) (d:=n) rfl rfl hS1 ?_
 refine x2 5 (some 10) rfl (Aa HD _) hS1 (fun uw2 hS2=> ?_)
 clear hS1
 simp only[nn]
 refine x2 7 (some 12) rfl (Aa HN _) hS2 (fun uw3 hS3=> ?_)
 clear hS2
 simp only[nn]
 refine x0 8 (some 13) (.bool false) rfl hS3 ?_
 refine x0 9 (some 14) (.bool false) rfl hS3 ?_
 refine x0 10 (some 4) (.bool false) rfl hS3 ?_
 refine wpAnyH_done (by kernel_rfl) ?_ _
 try simp only[nn]
 replace LL:=Ab hS3
 clear hS3
 go_wp2_with fail
 go_ret
 exact⟨rfl,(Aa LL).below⟩
theorem turns_01 (n d:DD) (hn:FD n) (hd:FD d) (h1:Bs d=0) (h2:Bs n=1) (w:World):Calls prog 131 #[n.agg,d.agg] w fun e w'=>e= .returned (.bool (Dw n d))/\Below w.heap.size w w':=by
 have HD:=Ab (Bp d hd)
 have HN:=Ab (Bp n hn)
 clear hn hd
 have LL:=Ab (Kp.of2 (Lie.new2 w (.D n) (.D d)))
 unfold Dw
 rw[h1,h2]
 rw[h1] at HD
 rw[h2] at HN
 have hq0:=Ev n
 have hq1:=Ev d
 rw[hq0,hq1]
 clear hq0 hq1
 go_enter func131,ntmps131
 go_wp2_with fail
 refine wp_region_held_drew (P:=prog) (S:=fun X=>Kp w X [(w.heap.size, .D n),(w.heap.size+1, .D d)]) (by kernel_rfl) (Kp.drew (Aa LL)) (fun hS0=> ?_)
 refine x1 0 1 (some 5) (x:= .tmp 3) (b:=w.heap.size+1) (d:=d) rfl rfl hS0 ?_
 refine x2 1 (some 6) rfl (Aa HD _) hS0 (fun uw1 hS1=> ?_)
 clear hS0
 simp only[nn]
 refine x0 2 (some 7) (.bool true) rfl hS1 ?_
 refine x0 3 (some 8) (.bool true) rfl hS1 ?_
 refine x1 4 1 (some 9) (x:= .tmp 3) (b:=w.heap.size+1) (d:=d) rfl rfl hS1 ?_
 refine x1 6 0 (some 11) (x:= .tmp 2) (b:=w.heap.size) (d:=n) rfl rfl hS1 ?_
 refine x2 5 (some 10) rfl (Aa HD _) hS1 (fun uw2 hS2=> ?_)
 clear hS1
 simp only[nn]
 refine x2 7 (some 12) rfl (Aa HN _) hS2 (fun uw3 hS3=> ?_)
 clear hS2
 simp only[nn]
 refine x0 8 (some 13) (.bool true) rfl hS3 ?_
 refine x0 9 (some 14) (.bool true) rfl hS3 ?_
 refine x0 10 (some 4) (.bool true) rfl hS3 ?_
 refine wpAnyH_done (by kernel_rfl) ?_ _
 try simp only[nn]
 replace LL:=Ab hS3
 clear hS3
 go_wp2_with fail
 go_ret
 exact⟨rfl,(Aa LL).below⟩
theorem turns_02 (n d:DD) (hn:FD n) (hd:FD d) (h1:Bs d=0) (h2:Bs n=2) (w:World):Calls prog 131 #[n.agg,d.agg] w fun e w'=>e= .returned (.bool (Dw n d))/\Below w.heap.size w w':=by
 have HD:=Ab (Bp d hd)
 have HN:=Ab (Bp n hn)
 clear hn hd
 have LL:=Ab (Kp.of2 (Lie.new2 w (.D n) (.D d)))
 unfold Dw
 rw[h1,h2]
 rw[h1] at HD
 rw[h2] at HN
 have hq0:=Ev n
 have hq1:=Ev d
 rw[hq0,hq1]
 clear hq0 hq1
 go_enter func131,ntmps131
 go_wp2_with fail
 refine wp_region_held_drew (P:=prog) (S:=fun X=>Kp w X [(w.heap.size, .D n),(w.heap.size+1, .D d)]) (by kernel_rfl) (Kp.drew (Aa LL)) (fun hS0=> ?_)
 refine x1 0 1 (some 5) (x:= .tmp 3) (b:=w.heap.size+1) (d:=d) rfl rfl hS0 ?_
 refine x2 1 (some 6) rfl (Aa HD _) hS0 (fun uw1 hS1=> ?_)
 clear hS0
 simp only[nn]
 refine x0 2 (some 7) (.bool true) rfl hS1 ?_
 refine x0 3 (some 8) (.bool true) rfl hS1 ?_
 refine x1 4 1 (some 9) (x:= .tmp 3) (b:=w.heap.size+1) (d:=d) rfl rfl hS1 ?_
 refine x1 6 0 (some 11) (x:= .tmp 2) (b:=w.heap.size) (d:=n) rfl rfl hS1 ?_
 refine x2 5 (some 10) rfl (Aa HD _) hS1 (fun uw2 hS2=> ?_)
 clear hS1
 simp only[nn]
 refine x2 7 (some 12) rfl (Aa HN _) hS2 (fun uw3 hS3=> ?_)
 clear hS2
 simp only[nn]
 refine x0 8 (some 13) (.bool true) rfl hS3 ?_
 refine x0 9 (some 14) (.bool true) rfl hS3 ?_
 refine x0 10 (some 4) (.bool true) rfl hS3 ?_
 refine wpAnyH_done (by kernel_rfl) ?_ _
 try simp only[nn]
 replace LL:=Ab hS3
 clear hS3
 go_wp2_with fail
 go_ret
 exact⟨rfl,(Aa LL).below⟩
theorem turns_03 (n d:DD) (hn:FD n) (hd:FD d) (h1:Bs d=0) (h2:Bs n=3) (w:World):Calls prog 131 #[n.agg,d.agg] w fun e w'=>e= .returned (.bool (Dw n d))/\Below w.heap.size w w':=by
 have HD:=Ab (Bp d hd)
 have HN:=Ab (Bp n hn)
 clear hn hd
 have LL:=Ab (Kp.of2 (Lie.new2 w (.D n) (.D d)))
 unfold Dw
 rw[h1,h2]
 rw[h1] at HD
 rw[h2] at HN
 have hq0:=Ev n
 have hq1:=Ev d
 rw[hq0,hq1]
 clear hq0 hq1
 go_enter func131,ntmps131
 go_wp2_with fail
 refine wp_region_held_drew (P:=prog) (S:=fun X=>Kp w X [(w.heap.size, .D n),(w.heap.size+1, .D d)]) (by kernel_rfl) (Kp.drew (Aa LL)) (fun hS0=> ?_)
 refine x1 0 1 (some 5) (x:= .tmp 3) (b:=w.heap.size+1) (d:=d) rfl rfl hS0 ?_
 refine x2 1 (some 6) rfl (Aa HD _) hS0 (fun uw1 hS1=> ?_)
 clear hS0
 simp only[nn]
 refine x0 2 (some 7) (.bool true) rfl hS1 ?_
 refine x0 3 (some 8) (.bool true) rfl hS1 ?_
 refine x1 4 1 (some 9) (x:= .tmp 3) (b:=w.heap.size+1) (d:=d) rfl rfl hS1 ?_
 refine x1 6 0 (some 11) (x:= .tmp 2) (b:=w.heap.size) (d:=n) rfl rfl hS1 ?_
 refine x2 5 (some 10) rfl (Aa HD _) hS1 (fun uw2 hS2=> ?_)
 clear hS1
 simp only[nn]
 refine x2 7 (some 12) rfl (Aa HN _) hS2 (fun uw3 hS3=> ?_)
 clear hS2
 simp only[nn]
 refine x0 8 (some 13) (.bool true) rfl hS3 ?_
 refine x0 9 (some 14) (.bool true) rfl hS3 ?_
 refine x0 10 (some 4) (.bool true) rfl hS3 ?_
 refine wpAnyH_done (by kernel_rfl) ?_ _
 try simp only[nn]
 replace LL:=Ab hS3
 clear hS3
 go_wp2_with fail
 go_ret
 exact⟨rfl,(Aa LL).below⟩
theorem turns_1 (n d:DD) (hn:FD n) (hd:FD d) (h1:Bs d=1) (w:World):Calls prog 131 #[n.agg,d.agg] w fun e w'=>e= .returned (.bool (Dw n d))/\Below w.heap.size w w':=by
 have HD:=Ab (Bp d hd)
 have HN:=Ab (Bp n hn)
 clear hn hd
 have LL:=Ab (Kp.of2 (Lie.new2 w (.D n) (.D d)))
 unfold Dw
 rw[h1]
 rw[h1] at HD
 have hq0:=Ev n
 have hq1:=Ev d
 rw[hq0,hq1]
 clear hq0 hq1
 go_enter func131,ntmps131
 go_wp2_with fail
 refine wp_region_held_drew (P:=prog) (S:=fun X=>Kp w X [(w.heap.size, .D n),(w.heap.size+1, .D d)]) (by kernel_rfl) (Kp.drew (Aa LL)) (fun hS0=> ?_)
 refine x1 0 1 (some 5) (x:= .tmp 3) (b:=w.heap.size+1) (d:=d) rfl rfl hS0 ?_
 refine x2 1 (some 6) rfl (Aa HD _) hS0 (fun uw1 hS1=> ?_)
 clear hS0
 simp only[nn]
 refine x0 2 (some 7) (.bool false) rfl hS1 ?_
 refine x0 3 (some 8) (.bool false) rfl hS1 ?_
 refine ZaM 4 (some 9) rfl (by kernel_rfl) (by kernel_rfl) (by kernel_rfl) (fun _ _ _ h=>h) (by kernel_rfl) (by kernel_rfl) hS1 ?_
 simp only[nn]
 refine ZaM 5 (some 10) rfl (by kernel_rfl) (by kernel_rfl) (by kernel_rfl) (fun _ _ _ h=>h) (by kernel_rfl) (by kernel_rfl) hS1 ?_
 simp only[nn]
 refine ZaM 6 (some 11) rfl (by kernel_rfl) (by kernel_rfl) (by kernel_rfl) (fun _ _ _ h=>h) (by kernel_rfl) (by kernel_rfl) hS1 ?_
 simp only[nn]
 refine ZaM 7 (some 12) rfl (by kernel_rfl) (by kernel_rfl) (by kernel_rfl) (fun _ _ _ h=>h) (by kernel_rfl) (by kernel_rfl) hS1 ?_
 simp only[nn]
 refine ZaM 8 (some 13) rfl (by kernel_rfl) (by kernel_rfl) (by kernel_rfl) (fun _ _ _ h=>h) (by kernel_rfl) (by kernel_rfl) hS1 ?_
 simp only[nn]
 refine x0 9 (some 14) (.bool false) rfl hS1 ?_
 refine x0 10 (some 4) (.bool false) rfl hS1 ?_
 refine wpAnyH_done (by kernel_rfl) ?_ _
 try simp only[nn]
 replace LL:=Ab hS1
 clear hS1
 go_wp2_with fail
 go_ret
 exact⟨rfl,(Aa LL).below⟩
theorem turns_20 (n d:DD) (hn:FD n) (hd:FD d) (h1:Bs d=2) (h2:Bs n=0) (w:World):Calls prog 131 #[n.agg,d.agg] w fun e w'=>e= .returned (.bool (Dw n d))/\Below w.heap.size w w':=by
 have HD:=Ab (Bp d hd)
 have HN:=Ab (Bp n hn)
 clear hn hd
 have LL:=Ab (Kp.of2 (Lie.new2 w (.D n) (.D d)))
 unfold Dw
 rw[h1,h2]
 rw[h1] at HD
 rw[h2] at HN
 have hq0:=Ev n
 have hq1:=Ev d
 rw[hq0,hq1]
 clear hq0 hq1
 go_enter func131,ntmps131
 go_wp2_with fail
 refine wp_region_held_drew (P:=prog) (S:=fun X=>Kp w X [(w.heap.size, .D n),(w.heap.size+1, .D d)]) (by kernel_rfl) (Kp.drew (Aa LL)) (fun hS0=> ?_)
 refine x1 0 1 (some 5) (x:= .tmp 3) (b:=w.heap.size+1) (d:=d) rfl rfl hS0 ?_
 refine x2 1 (some 6) rfl (Aa HD _) hS0 (fun uw1 hS1=> ?_)
 clear hS0
 simp only[nn]
 refine x0 2 (some 7) (.bool true) rfl hS1 ?_
 refine x0 3 (some 8) (.bool true) rfl hS1 ?_
 refine x1 4 1 (some 9) (x:= .tmp 3) (b:=w.heap.size+1) (d:=d) rfl rfl hS1 ?_
 refine x1 6 0 (some 11) (x:= .tmp 2) (b:=w.heap.size) (d:=n) rfl rfl hS1 ?_
 refine x2 5 (some 10) rfl (Aa HD _) hS1 (fun uw2 hS2=> ?_)
 clear hS1
 simp only[nn]
 refine x2 7 (some 12) rfl (Aa HN _) hS2 (fun uw3 hS3=> ?_)
 clear hS2
 simp only[nn]
 refine x0 8 (some 13) (.bool true) rfl hS3 ?_
 refine x0 9 (some 14) (.bool true) rfl hS3 ?_
 refine x0 10 (some 4) (.bool true) rfl hS3 ?_
 refine wpAnyH_done (by kernel_rfl) ?_ _
 try simp only[nn]
 replace LL:=Ab hS3
 clear hS3
 go_wp2_with fail
 go_ret
 exact⟨rfl,(Aa LL).below⟩
theorem turns_21 (n d:DD) (hn:FD n) (hd:FD d) (h1:Bs d=2) (h2:Bs n=1) (w:World):Calls prog 131 #[n.agg,d.agg] w fun e w'=>e= .returned (.bool (Dw n d))/\Below w.heap.size w w':=by
 have HD:=Ab (Bp d hd)
 have HN:=Ab (Bp n hn)
 clear hn hd
 have LL:=Ab (Kp.of2 (Lie.new2 w (.D n) (.D d)))
 unfold Dw
 rw[h1,h2]
 rw[h1] at HD
 rw[h2] at HN
 have hq0:=Ev n
 have hq1:=Ev d
 rw[hq0,hq1]
 clear hq0 hq1
 go_enter func131,ntmps131
 go_wp2_with fail
 refine wp_region_held_drew (P:=prog) (S:=fun X=>Kp w X [(w.heap.size, .D n),(w.heap.size+1, .D d)]) (by kernel_rfl) (Kp.drew (Aa LL)) (fun hS0=> ?_)
 refine x1 0 1 (some 5) (x:= .tmp 3) (b:=w.heap.size+1) (d:=d) rfl rfl hS0 ?_
 refine x2 1 (some 6) rfl (Aa HD _) hS0 (fun uw1 hS1=> ?_)
 clear hS0
 simp only[nn]
 refine x0 2 (some 7) (.bool true) rfl hS1 ?_
 refine x0 3 (some 8) (.bool true) rfl hS1 ?_
 refine x1 4 1 (some 9) (x:= .tmp 3) (b:=w.heap.size+1) (d:=d) rfl rfl hS1 ?_
 refine x1 6 0 (some 11) (x:= .tmp 2) (b:=w.heap.size) (d:=n) rfl rfl hS1 ?_
 refine x2 5 (some 10) rfl (Aa HD _) hS1 (fun uw2 hS2=> ?_)
 clear hS1
 simp only[nn]
 refine x2 7 (some 12) rfl (Aa HN _) hS2 (fun uw3 hS3=> ?_)
 clear hS2
 simp only[nn]
 refine x0 8 (some 13) (.bool true) rfl hS3 ?_
 refine x0 9 (some 14) (.bool true) rfl hS3 ?_
 refine x0 10 (some 4) (.bool true) rfl hS3 ?_
 refine wpAnyH_done (by kernel_rfl) ?_ _
 try simp only[nn]
 replace LL:=Ab hS3
 clear hS3
 go_wp2_with fail
 go_ret
 exact⟨rfl,(Aa LL).below⟩
theorem turns_22 (n d:DD) (hn:FD n) (hd:FD d) (h1:Bs d=2) (h2:Bs n=2) (w:World):Calls prog 131 #[n.agg,d.agg] w fun e w'=>e= .returned (.bool (Dw n d))/\Below w.heap.size w w':=by
 have HD:=Ab (Bp d hd)
 have HN:=Ab (Bp n hn)
 clear hn hd
 have LL:=Ab (Kp.of2 (Lie.new2 w (.D n) (.D d)))
 unfold Dw
 rw[h1,h2]
 rw[h1] at HD
 rw[h2] at HN
 have hq0:=Ev n
 have hq1:=Ev d
 rw[hq0,hq1]
 clear hq0 hq1
 go_enter func131,ntmps131
 go_wp2_with fail
 refine wp_region_held_drew (P:=prog) (S:=fun X=>Kp w X [(w.heap.size, .D n),(w.heap.size+1, .D d)]) (by kernel_rfl) (Kp.drew (Aa LL)) (fun hS0=> ?_)
 refine x1 0 1 (some 5) (x:= .tmp 3) (b:=w.heap.size+1) (d:=d) rfl rfl hS0 ?_
 refine x2 1 (some 6) rfl (Aa HD _) hS0 (fun uw1 hS1=> ?_)
 clear hS0
 simp only[nn]
 refine x0 2 (some 7) (.bool true) rfl hS1 ?_
 refine x0 3 (some 8) (.bool true) rfl hS1 ?_
 refine x1 4 1 (some 9) (x:= .tmp 3) (b:=w.heap.size+1) (d:=d) rfl rfl hS1 ?_
 refine x1 6 0 (some 11) (x:= .tmp 2) (b:=w.heap.size) (d:=n) rfl rfl hS1 ?_
 refine x2 5 (some 10) rfl (Aa HD _) hS1 (fun uw2 hS2=> ?_)
 clear hS1
 simp only[nn]
 refine x2 7 (some 12) rfl (Aa HN _) hS2 (fun uw3 hS3=> ?_)
 clear hS2
 simp only[nn]
 refine x0 8 (some 13) (.bool false) rfl hS3 ?_
 refine x0 9 (some 14) (.bool false) rfl hS3 ?_
 refine x0 10 (some 4) (.bool false) rfl hS3 ?_
 refine wpAnyH_done (by kernel_rfl) ?_ _
 try simp only[nn]
 replace LL:=Ab hS3
 clear hS3
 go_wp2_with fail
 go_ret
 exact⟨rfl,(Aa LL).below⟩
theorem turns_23 (n d:DD) (hn:FD n) (hd:FD d) (h1:Bs d=2) (h2:Bs n=3) (w:World):Calls prog 131 #[n.agg,d.agg] w fun e w'=>e= .returned (.bool (Dw n d))/\Below w.heap.size w w':=by
 have HD:=Ab (Bp d hd)
 have HN:=Ab (Bp n hn)
 clear hn hd
 have LL:=Ab (Kp.of2 (Lie.new2 w (.D n) (.D d)))
 unfold Dw
 rw[h1,h2]
 rw[h1] at HD
 rw[h2] at HN
 have hq0:=Ev n
 have hq1:=Ev d
 rw[hq0,hq1]
 clear hq0 hq1
 go_enter func131,ntmps131
 go_wp2_with fail
 refine wp_region_held_drew (P:=prog) (S:=fun X=>Kp w X [(w.heap.size, .D n),(w.heap.size+1, .D d)]) (by kernel_rfl) (Kp.drew (Aa LL)) (fun hS0=> ?_)
 refine x1 0 1 (some 5) (x:= .tmp 3) (b:=w.heap.size+1) (d:=d) rfl rfl hS0 ?_
 refine x2 1 (some 6) rfl (Aa HD _) hS0 (fun uw1 hS1=> ?_)
 clear hS0
 simp only[nn]
 refine x0 2 (some 7) (.bool true) rfl hS1 ?_
 refine x0 3 (some 8) (.bool true) rfl hS1 ?_
 refine x1 4 1 (some 9) (x:= .tmp 3) (b:=w.heap.size+1) (d:=d) rfl rfl hS1 ?_
 refine x1 6 0 (some 11) (x:= .tmp 2) (b:=w.heap.size) (d:=n) rfl rfl hS1 ?_
 refine x2 5 (some 10) rfl (Aa HD _) hS1 (fun uw2 hS2=> ?_)
 clear hS1
 simp only[nn]
 refine x2 7 (some 12) rfl (Aa HN _) hS2 (fun uw3 hS3=> ?_)
 clear hS2
 simp only[nn]
 refine x0 8 (some 13) (.bool true) rfl hS3 ?_
 refine x0 9 (some 14) (.bool true) rfl hS3 ?_
 refine x0 10 (some 4) (.bool true) rfl hS3 ?_
 refine wpAnyH_done (by kernel_rfl) ?_ _
 try simp only[nn]
 replace LL:=Ab hS3
 clear hS3
 go_wp2_with fail
 go_ret
 exact⟨rfl,(Aa LL).below⟩
theorem turns_30 (n d:DD) (hn:FD n) (hd:FD d) (h1:Bs d=3) (h2:Bs n=0) (w:World):Calls prog 131 #[n.agg,d.agg] w fun e w'=>e= .returned (.bool (Dw n d))/\Below w.heap.size w w':=by
 have HD:=Ab (Bp d hd)
 have HN:=Ab (Bp n hn)
 clear hn hd
 have LL:=Ab (Kp.of2 (Lie.new2 w (.D n) (.D d)))
 unfold Dw
 rw[h1,h2]
 rw[h1] at HD
 rw[h2] at HN
 have hq0:=Ev n
 have hq1:=Ev d
 rw[hq0,hq1]
 clear hq0 hq1
 go_enter func131,ntmps131
 go_wp2_with fail
 refine wp_region_held_drew (P:=prog) (S:=fun X=>Kp w X [(w.heap.size, .D n),(w.heap.size+1, .D d)]) (by kernel_rfl) (Kp.drew (Aa LL)) (fun hS0=> ?_)
 refine x1 0 1 (some 5) (x:= .tmp 3) (b:=w.heap.size+1) (d:=d) rfl rfl hS0 ?_
 refine x2 1 (some 6) rfl (Aa HD _) hS0 (fun uw1 hS1=> ?_)
 clear hS0
 simp only[nn]
 refine x0 2 (some 7) (.bool true) rfl hS1 ?_
 refine x0 3 (some 8) (.bool true) rfl hS1 ?_
 refine x1 4 1 (some 9) (x:= .tmp 3) (b:=w.heap.size+1) (d:=d) rfl rfl hS1 ?_
 refine x1 6 0 (some 11) (x:= .tmp 2) (b:=w.heap.size) (d:=n) rfl rfl hS1 ?_
 refine x2 5 (some 10) rfl (Aa HD _) hS1 (fun uw2 hS2=> ?_)
 clear hS1
 simp only[nn]
 refine x2 7 (some 12) rfl (Aa HN _) hS2 (fun uw3 hS3=> ?_)
 clear hS2
 simp only[nn]
 refine x0 8 (some 13) (.bool true) rfl hS3 ?_
 refine x0 9 (some 14) (.bool true) rfl hS3 ?_
 refine x0 10 (some 4) (.bool true) rfl hS3 ?_
 refine wpAnyH_done (by kernel_rfl) ?_ _
 try simp only[nn]
 replace LL:=Ab hS3
 clear hS3
 go_wp2_with fail
 go_ret
 exact⟨rfl,(Aa LL).below⟩
theorem turns_31 (n d:DD) (hn:FD n) (hd:FD d) (h1:Bs d=3) (h2:Bs n=1) (w:World):Calls prog 131 #[n.agg,d.agg] w fun e w'=>e= .returned (.bool (Dw n d))/\Below w.heap.size w w':=by
 have HD:=Ab (Bp d hd)
 have HN:=Ab (Bp n hn)
 clear hn hd
 have LL:=Ab (Kp.of2 (Lie.new2 w (.D n) (.D d)))
 unfold Dw
 rw[h1,h2]
 rw[h1] at HD
 rw[h2] at HN
 have hq0:=Ev n
 have hq1:=Ev d
 rw[hq0,hq1]
 clear hq0 hq1
 go_enter func131,ntmps131
 go_wp2_with fail
 refine wp_region_held_drew (P:=prog) (S:=fun X=>Kp w X [(w.heap.size, .D n),(w.heap.size+1, .D d)]) (by kernel_rfl) (Kp.drew (Aa LL)) (fun hS0=> ?_)
 refine x1 0 1 (some 5) (x:= .tmp 3) (b:=w.heap.size+1) (d:=d) rfl rfl hS0 ?_
 refine x2 1 (some 6) rfl (Aa HD _) hS0 (fun uw1 hS1=> ?_)
 clear hS0
 simp only[nn]
 refine x0 2 (some 7) (.bool true) rfl hS1 ?_
 refine x0 3 (some 8) (.bool true) rfl hS1 ?_
 refine x1 4 1 (some 9) (x:= .tmp 3) (b:=w.heap.size+1) (d:=d) rfl rfl hS1 ?_
 refine x1 6 0 (some 11) (x:= .tmp 2) (b:=w.heap.size) (d:=n) rfl rfl hS1 ?_
 refine x2 5 (some 10) rfl (Aa HD _) hS1 (fun uw2 hS2=> ?_)
 clear hS1
 simp only[nn]
 refine x2 7 (some 12) rfl (Aa HN _) hS2 (fun uw3 hS3=> ?_)
 clear hS2
 simp only[nn]
 refine x0 8 (some 13) (.bool true) rfl hS3 ?_
 refine x0 9 (some 14) (.bool true) rfl hS3 ?_
 refine x0 10 (some 4) (.bool true) rfl hS3 ?_
 refine wpAnyH_done (by kernel_rfl) ?_ _
 try simp only[nn]
 replace LL:=Ab hS3
 clear hS3
 go_wp2_with fail
 go_ret
 exact⟨rfl,(Aa LL).below⟩
theorem turns_32 (n d:DD) (hn:FD n) (hd:FD d) (h1:Bs d=3) (h2:Bs n=2) (w:World):Calls prog 131 #[n.agg,d.agg] w fun e w'=>e= .returned (.bool (Dw n d))/\Below w.heap.size w w':=by
 have HD:=Ab (Bp d hd)
 have HN:=Ab (Bp n hn)
 clear hn hd
 have LL:=Ab (Kp.of2 (Lie.new2 w (.D n) (.D d)))
 unfold Dw
 rw[h1,h2]
 rw[h1] at HD
 rw[h2] at HN
 have hq0:=Ev n
 have hq1:=Ev d
 rw[hq0,hq1]
 clear hq0 hq1
 go_enter func131,ntmps131
 go_wp2_with fail
 refine wp_region_held_drew (P:=prog) (S:=fun X=>Kp w X [(w.heap.size, .D n),(w.heap.size+1, .D d)]) (by kernel_rfl) (Kp.drew (Aa LL)) (fun hS0=> ?_)
 refine x1 0 1 (some 5) (x:= .tmp 3) (b:=w.heap.size+1) (d:=d) rfl rfl hS0 ?_
 refine x2 1 (some 6) rfl (Aa HD _) hS0 (fun uw1 hS1=> ?_)
 clear hS0
 simp only[nn]
 refine x0 2 (some 7) (.bool true) rfl hS1 ?_
 refine x0 3 (some 8) (.bool true) rfl hS1 ?_
 refine x1 4 1 (some 9) (x:= .tmp 3) (b:=w.heap.size+1) (d:=d) rfl rfl hS1 ?_
 refine x1 6 0 (some 11) (x:= .tmp 2) (b:=w.heap.size) (d:=n) rfl rfl hS1 ?_
 refine x2 5 (some 10) rfl (Aa HD _) hS1 (fun uw2 hS2=> ?_)
 clear hS1
 simp only[nn]
 refine x2 7 (some 12) rfl (Aa HN _) hS2 (fun uw3 hS3=> ?_)
 clear hS2
 simp only[nn]
 refine x0 8 (some 13) (.bool true) rfl hS3 ?_
 refine x0 9 (some 14) (.bool true) rfl hS3 ?_
 refine x0 10 (some 4) (.bool true) rfl hS3 ?_
 refine wpAnyH_done (by kernel_rfl) ?_ _
 try simp only[nn]
 replace LL:=Ab hS3
 clear hS3
 go_wp2_with fail
 go_ret
 exact⟨rfl,(Aa LL).below⟩
theorem turns_33 (n d:DD) (hn:FD n) (hd:FD d) (h1:Bs d=3) (h2:Bs n=3) (w:World):Calls prog 131 #[n.agg,d.agg] w fun e w'=>e= .returned (.bool (Dw n d))/\Below w.heap.size w w':=by
 have HD:=Ab (Bp d hd)
 have HN:=Ab (Bp n hn)
 clear hn hd
 have LL:=Ab (Kp.of2 (Lie.new2 w (.D n) (.D d)))
 unfold Dw
 rw[h1,h2]
 rw[h1] at HD
 rw[h2] at HN
 have hq0:=Ev n
 have hq1:=Ev d
 rw[hq0,hq1]
 clear hq0 hq1
 go_enter func131,ntmps131
 go_wp2_with fail
 refine wp_region_held_drew (P:=prog) (S:=fun X=>Kp w X [(w.heap.size, .D n),(w.heap.size+1, .D d)]) (by kernel_rfl) (Kp.drew (Aa LL)) (fun hS0=> ?_)
 refine x1 0 1 (some 5) (x:= .tmp 3) (b:=w.heap.size+1) (d:=d) rfl rfl hS0 ?_
 refine x2 1 (some 6) rfl (Aa HD _) hS0 (fun uw1 hS1=> ?_)
 clear hS0
 simp only[nn]
 refine x0 2 (some 7) (.bool true) rfl hS1 ?_
 refine x0 3 (some 8) (.bool true) rfl hS1 ?_
 refine x1 4 1 (some 9) (x:= .tmp 3) (b:=w.heap.size+1) (d:=d) rfl rfl hS1 ?_
 refine x1 6 0 (some 11) (x:= .tmp 2) (b:=w.heap.size) (d:=n) rfl rfl hS1 ?_
 refine x2 5 (some 10) rfl (Aa HD _) hS1 (fun uw2 hS2=> ?_)
 clear hS1
 simp only[nn]
 refine x2 7 (some 12) rfl (Aa HN _) hS2 (fun uw3 hS3=> ?_)
 clear hS2
 simp only[nn]
 refine x0 8 (some 13) (.bool false) rfl hS3 ?_
 refine x0 9 (some 14) (.bool false) rfl hS3 ?_
 refine x0 10 (some 4) (.bool false) rfl hS3 ?_
 refine wpAnyH_done (by kernel_rfl) ?_ _
 try simp only[nn]
 replace LL:=Ab hS3
 clear hS3
 go_wp2_with fail
 go_ret
 exact⟨rfl,(Aa LL).below⟩
theorem Ke (d:DD):Bs d=0∨Bs d=1∨Bs d=2∨Bs d=3:=by
 unfold Bs
 split
 ·exact Or.inl rfl
 ·split
  ·exact Or.inr (Or.inr (Or.inl rfl))
  ·split
   ·exact Or.inr (Or.inr (Or.inr rfl))
   ·exact Or.inr (Or.inl rfl)
theorem Xh (n d:DD) (hn:FD n) (hd:FD d) (w:World):Calls prog 131 #[n.agg,d.agg] w fun e w'=>e= .returned (.bool (Dw n d))/\Below w.heap.size w w':=by
 rcases Ke d with h1|h1|h1|h1
 ·rcases Ke n with h2|h2|h2|h2
  ·exact turns_00 n d hn hd h1 h2 w
  ·exact turns_01 n d hn hd h1 h2 w
  ·exact turns_02 n d hn hd h1 h2 w
  ·exact turns_03 n d hn hd h1 h2 w
 ·exact turns_1 n d hn hd h1 w
 ·rcases Ke n with h2|h2|h2|h2
  ·exact turns_20 n d hn hd h1 h2 w
  ·exact turns_21 n d hn hd h1 h2 w
  ·exact turns_22 n d hn hd h1 h2 w
  ·exact turns_23 n d hn hd h1 h2 w
 ·rcases Ke n with h2|h2|h2|h2
  ·exact turns_30 n d hn hd h1 h2 w
  ·exact turns_31 n d hn hd h1 h2 w
  ·exact turns_32 n d hn hd h1 h2 w
  ·exact turns_33 n d hn hd h1 h2 w

theorem Vt (n d:DD) (hn:FD n) (hd:FD d) (w:World) (hT:Lib.Utf8Tabs 0 1 w):Calls prog 112 #[n.agg,d.agg] w fun e w'=>e= .returned (.bool (Ou n d))/\Below w.heap.size w w':=by
 have HT:=Ab hT
 clear hT
 have HTu:=Ab (Xh n d hn hd)
 have HSh:=Ab (Bp n hn)
 have HG:=Ab (fun w hT=>Mi n.g d.g hn.2.1 hd.2.1 w hT)
 have HS:=Ab (fun w hT=>Mi n.s d.s hn.2.2 hd.2.2 w hT)
 have HV:=Ab (fun w hT=>Mi n.v d.v hn.1 hd.1 w hT)
 clear hn hd
 have LL:=Ab (Lie.new2 w (.D n) (.D d))
 unfold Ou
 generalize Dw n d=tu at *
 generalize Bs n=sh at *
 generalize Zt n.g d.g=dg at *
 generalize Zt n.s d.s=ds at *
 generalize Zt n.v d.v=dv at *
 generalize hq2:(d.c==2)=q2 at *
 generalize hqe:(d.e !=0)=qe at *
 generalize hqn:(d.e !=n.e)=qn at *
 generalize hn1:(n.w==1)=n1 at *
 generalize hw2:(d.w==2)=w2 at *
 have hq0:=Ev n
 have hq1:=Ev d
 rw[hq0,hq1]
 clear hq0 hq1
 by_cases h3:sh=3
 ·subst h3
  go_enter func112,ntmps112
  cases q2
  ·cases qe
   ·go_wp2_with (first|go_skip|((with_reducible apply Ap);(case ho=>rfl);(case hw=>rfl);(case hx=>rfl);(case hc=>first|exact(Aa LL).one|exact(Aa LL).two);simp only[nn])|((with_reducible apply Av);(case ho=>rfl);(case hw=>rfl);(case hx=>rfl);(case hc=>first|exact(Aa LL).one|exact(Aa LL).two);simp only[nn])|((with_reducible apply Ax);(case ho=>rfl);(case hw=>rfl);(case hx=>rfl);(case hc=>first|exact(Aa LL).one|exact(Aa LL).two);simp only[nn])|((with_reducible apply Aw);(case ho=>rfl);(case hw=>rfl);(case hx=>rfl);(case hc=>first|exact(Aa LL).one|exact(Aa LL).two);simp only[nn])|((with_reducible apply Au);(case ho=>rfl);(case hw=>rfl);(case hx=>rfl);(case hc=>first|exact(Aa LL).one|exact(Aa LL).two);simp only[nn])|((with_reducible apply Aq);(case ho=>rfl);(case hw=>rfl);(case hx=>rfl);(case hc=>first|exact(Aa LL).one|exact(Aa LL).two);simp only[nn])|((with_reducible apply Ak);(case ho=>rfl);(case hw=>rfl);(case hx=>rfl);(case hc=>first|exact(Aa LL).one|exact(Aa LL).two);simp only[nn])|(go_at_call 119;refine(Ae _ _).mono ?_;rintro _ _ ⟨rfl,rfl⟩))
    refine(Aa HTu _).mono ?_
    rintro _ w16 ⟨rfl,hb⟩
    replace LL:=Ab ((Aa LL).on hb)
    clear hb
    cases tu
    ·go_wp2_with (first|go_skip|((with_reducible apply Ap);(case ho=>rfl);(case hw=>rfl);(case hx=>rfl);(case hc=>first|exact(Aa LL).one|exact(Aa LL).two);simp only[nn])|((with_reducible apply Av);(case ho=>rfl);(case hw=>rfl);(case hx=>rfl);(case hc=>first|exact(Aa LL).one|exact(Aa LL).two);simp only[nn])|((with_reducible apply Ax);(case ho=>rfl);(case hw=>rfl);(case hx=>rfl);(case hc=>first|exact(Aa LL).one|exact(Aa LL).two);simp only[nn])|((with_reducible apply Aw);(case ho=>rfl);(case hw=>rfl);(case hx=>rfl);(case hc=>first|exact(Aa LL).one|exact(Aa LL).two);simp only[nn])|((with_reducible apply Au);(case ho=>rfl);(case hw=>rfl);(case hx=>rfl);(case hc=>first|exact(Aa LL).one|exact(Aa LL).two);simp only[nn])|((with_reducible apply Aq);(case ho=>rfl);(case hw=>rfl);(case hx=>rfl);(case hc=>first|exact(Aa LL).one|exact(Aa LL).two);simp only[nn])|((with_reducible apply Ak);(case ho=>rfl);(case hw=>rfl);(case hx=>rfl);(case hc=>first|exact(Aa LL).one|exact(Aa LL).two);simp only[nn])|(go_at_call 119;refine(Ae _ _).mono ?_;rintro _ _ ⟨rfl,rfl⟩))
     refine(Aa HSh _).mono ?_
     rintro _ w17 ⟨rfl,hb⟩
     replace LL:=Ab ((Aa LL).on hb)
     clear hb
     go_wp2_with (first|go_skip|((with_reducible apply Ap);(case ho=>rfl);(case hw=>rfl);(case hx=>rfl);(case hc=>first|exact(Aa LL).one|exact(Aa LL).two);simp only[nn])|((with_reducible apply Av);(case ho=>rfl);(case hw=>rfl);(case hx=>rfl);(case hc=>first|exact(Aa LL).one|exact(Aa LL).two);simp only[nn])|((with_reducible apply Ax);(case ho=>rfl);(case hw=>rfl);(case hx=>rfl);(case hc=>first|exact(Aa LL).one|exact(Aa LL).two);simp only[nn])|((with_reducible apply Aw);(case ho=>rfl);(case hw=>rfl);(case hx=>rfl);(case hc=>first|exact(Aa LL).one|exact(Aa LL).two);simp only[nn])|((with_reducible apply Au);(case ho=>rfl);(case hw=>rfl);(case hx=>rfl);(case hc=>first|exact(Aa LL).one|exact(Aa LL).two);simp only[nn])|((with_reducible apply Aq);(case ho=>rfl);(case hw=>rfl);(case hx=>rfl);(case hc=>first|exact(Aa LL).one|exact(Aa LL).two);simp only[nn])|((with_reducible apply Ak);(case ho=>rfl);(case hw=>rfl);(case hx=>rfl);(case hc=>first|exact(Aa LL).one|exact(Aa LL).two);simp only[nn])|(go_at_call 119;refine(Ae _ _).mono ?_;rintro _ _ ⟨rfl,rfl⟩))
     refine(Aa HG _ (Ag (Aa HT) (Aa LL).below)).mono ?_
     rintro _ w18 ⟨rfl,hb⟩
     replace LL:=Ab ((Aa LL).on hb)
     clear hb
     cases dg
     ·go_wp2_with (first|go_skip|((with_reducible apply Ap);(case ho=>rfl);(case hw=>rfl);(case hx=>rfl);(case hc=>first|exact(Aa LL).one|exact(Aa LL).two);simp only[nn])|((with_reducible apply Av);(case ho=>rfl);(case hw=>rfl);(case hx=>rfl);(case hc=>first|exact(Aa LL).one|exact(Aa LL).two);simp only[nn])|((with_reducible apply Ax);(case ho=>rfl);(case hw=>rfl);(case hx=>rfl);(case hc=>first|exact(Aa LL).one|exact(Aa LL).two);simp only[nn])|((with_reducible apply Aw);(case ho=>rfl);(case hw=>rfl);(case hx=>rfl);(case hc=>first|exact(Aa LL).one|exact(Aa LL).two);simp only[nn])|((with_reducible apply Au);(case ho=>rfl);(case hw=>rfl);(case hx=>rfl);(case hc=>first|exact(Aa LL).one|exact(Aa LL).two);simp only[nn])|((with_reducible apply Aq);(case ho=>rfl);(case hw=>rfl);(case hx=>rfl);(case hc=>first|exact(Aa LL).one|exact(Aa LL).two);simp only[nn])|((with_reducible apply Ak);(case ho=>rfl);(case hw=>rfl);(case hx=>rfl);(case hc=>first|exact(Aa LL).one|exact(Aa LL).two);simp only[nn])|(go_at_call 119;refine(Ae _ _).mono ?_;rintro _ _ ⟨rfl,rfl⟩))
      refine(Aa HS _ (Ag (Aa HT) (Aa LL).below)).mono ?_
      rintro _ w19 ⟨rfl,hb⟩
      replace LL:=Ab ((Aa LL).on hb)
      clear hb
      go_wp2_with (first|go_skip|((with_reducible apply Ap);(case ho=>rfl);(case hw=>rfl);(case hx=>rfl);(case hc=>first|exact(Aa LL).one|exact(Aa LL).two);simp only[nn])|((with_reducible apply Av);(case ho=>rfl);(case hw=>rfl);(case hx=>rfl);(case hc=>first|exact(Aa LL).one|exact(Aa LL).two);simp only[nn])|((with_reducible apply Ax);(case ho=>rfl);(case hw=>rfl);(case hx=>rfl);(case hc=>first|exact(Aa LL).one|exact(Aa LL).two);simp only[nn])|((with_reducible apply Aw);(case ho=>rfl);(case hw=>rfl);(case hx=>rfl);(case hc=>first|exact(Aa LL).one|exact(Aa LL).two);simp only[nn])|((with_reducible apply Au);(case ho=>rfl);(case hw=>rfl);(case hx=>rfl);(case hc=>first|exact(Aa LL).one|exact(Aa LL).two);simp only[nn])|((with_reducible apply Aq);(case ho=>rfl);(case hw=>rfl);(case hx=>rfl);(case hc=>first|exact(Aa LL).one|exact(Aa LL).two);simp only[nn])|((with_reducible apply Ak);(case ho=>rfl);(case hw=>rfl);(case hx=>rfl);(case hc=>first|exact(Aa LL).one|exact(Aa LL).two);simp only[nn])|(go_at_call 119;refine(Ae _ _).mono ?_;rintro _ _ ⟨rfl,rfl⟩))
      go_ret
      exact⟨rfl,(Aa LL).below⟩
     ·go_wp2_with (first|go_skip|((with_reducible apply Ap);(case ho=>rfl);(case hw=>rfl);(case hx=>rfl);(case hc=>first|exact(Aa LL).one|exact(Aa LL).two);simp only[nn])|((with_reducible apply Av);(case ho=>rfl);(case hw=>rfl);(case hx=>rfl);(case hc=>first|exact(Aa LL).one|exact(Aa LL).two);simp only[nn])|((with_reducible apply Ax);(case ho=>rfl);(case hw=>rfl);(case hx=>rfl);(case hc=>first|exact(Aa LL).one|exact(Aa LL).two);simp only[nn])|((with_reducible apply Aw);(case ho=>rfl);(case hw=>rfl);(case hx=>rfl);(case hc=>first|exact(Aa LL).one|exact(Aa LL).two);simp only[nn])|((with_reducible apply Au);(case ho=>rfl);(case hw=>rfl);(case hx=>rfl);(case hc=>first|exact(Aa LL).one|exact(Aa LL).two);simp only[nn])|((with_reducible apply Aq);(case ho=>rfl);(case hw=>rfl);(case hx=>rfl);(case hc=>first|exact(Aa LL).one|exact(Aa LL).two);simp only[nn])|((with_reducible apply Ak);(case ho=>rfl);(case hw=>rfl);(case hx=>rfl);(case hc=>first|exact(Aa LL).one|exact(Aa LL).two);simp only[nn])|(go_at_call 119;refine(Ae _ _).mono ?_;rintro _ _ ⟨rfl,rfl⟩))
      go_ret
      exact⟨rfl,(Aa LL).below⟩
    ·go_wp2_with (first|go_skip|((with_reducible apply Ap);(case ho=>rfl);(case hw=>rfl);(case hx=>rfl);(case hc=>first|exact(Aa LL).one|exact(Aa LL).two);simp only[nn])|((with_reducible apply Av);(case ho=>rfl);(case hw=>rfl);(case hx=>rfl);(case hc=>first|exact(Aa LL).one|exact(Aa LL).two);simp only[nn])|((with_reducible apply Ax);(case ho=>rfl);(case hw=>rfl);(case hx=>rfl);(case hc=>first|exact(Aa LL).one|exact(Aa LL).two);simp only[nn])|((with_reducible apply Aw);(case ho=>rfl);(case hw=>rfl);(case hx=>rfl);(case hc=>first|exact(Aa LL).one|exact(Aa LL).two);simp only[nn])|((with_reducible apply Au);(case ho=>rfl);(case hw=>rfl);(case hx=>rfl);(case hc=>first|exact(Aa LL).one|exact(Aa LL).two);simp only[nn])|((with_reducible apply Aq);(case ho=>rfl);(case hw=>rfl);(case hx=>rfl);(case hc=>first|exact(Aa LL).one|exact(Aa LL).two);simp only[nn])|((with_reducible apply Ak);(case ho=>rfl);(case hw=>rfl);(case hx=>rfl);(case hc=>first|exact(Aa LL).one|exact(Aa LL).two);simp only[nn])|(go_at_call 119;refine(Ae _ _).mono ?_;rintro _ _ ⟨rfl,rfl⟩))
     go_ret
     exact⟨rfl,(Aa LL).below⟩
   ·cases qn
    ·go_wp2_with (first|go_skip|((with_reducible apply Ap);(case ho=>rfl);(case hw=>rfl);(case hx=>rfl);(case hc=>first|exact(Aa LL).one|exact(Aa LL).two);simp only[nn])|((with_reducible apply Av);(case ho=>rfl);(case hw=>rfl);(case hx=>rfl);(case hc=>first|exact(Aa LL).one|exact(Aa LL).two);simp only[nn])|((with_reducible apply Ax);(case ho=>rfl);(case hw=>rfl);(case hx=>rfl);(case hc=>first|exact(Aa LL).one|exact(Aa LL).two);simp only[nn])|((with_reducible apply Aw);(case ho=>rfl);(case hw=>rfl);(case hx=>rfl);(case hc=>first|exact(Aa LL).one|exact(Aa LL).two);simp only[nn])|((with_reducible apply Au);(case ho=>rfl);(case hw=>rfl);(case hx=>rfl);(case hc=>first|exact(Aa LL).one|exact(Aa LL).two);simp only[nn])|((with_reducible apply Aq);(case ho=>rfl);(case hw=>rfl);(case hx=>rfl);(case hc=>first|exact(Aa LL).one|exact(Aa LL).two);simp only[nn])|((with_reducible apply Ak);(case ho=>rfl);(case hw=>rfl);(case hx=>rfl);(case hc=>first|exact(Aa LL).one|exact(Aa LL).two);simp only[nn])|(go_at_call 119;refine(Ae _ _).mono ?_;rintro _ _ ⟨rfl,rfl⟩))
     refine(Aa HTu _).mono ?_
     rintro _ w22 ⟨rfl,hb⟩
     replace LL:=Ab ((Aa LL).on hb)
     clear hb
     cases tu
     ·go_wp2_with (first|go_skip|((with_reducible apply Ap);(case ho=>rfl);(case hw=>rfl);(case hx=>rfl);(case hc=>first|exact(Aa LL).one|exact(Aa LL).two);simp only[nn])|((with_reducible apply Av);(case ho=>rfl);(case hw=>rfl);(case hx=>rfl);(case hc=>first|exact(Aa LL).one|exact(Aa LL).two);simp only[nn])|((with_reducible apply Ax);(case ho=>rfl);(case hw=>rfl);(case hx=>rfl);(case hc=>first|exact(Aa LL).one|exact(Aa LL).two);simp only[nn])|((with_reducible apply Aw);(case ho=>rfl);(case hw=>rfl);(case hx=>rfl);(case hc=>first|exact(Aa LL).one|exact(Aa LL).two);simp only[nn])|((with_reducible apply Au);(case ho=>rfl);(case hw=>rfl);(case hx=>rfl);(case hc=>first|exact(Aa LL).one|exact(Aa LL).two);simp only[nn])|((with_reducible apply Aq);(case ho=>rfl);(case hw=>rfl);(case hx=>rfl);(case hc=>first|exact(Aa LL).one|exact(Aa LL).two);simp only[nn])|((with_reducible apply Ak);(case ho=>rfl);(case hw=>rfl);(case hx=>rfl);(case hc=>first|exact(Aa LL).one|exact(Aa LL).two);simp only[nn])|(go_at_call 119;refine(Ae _ _).mono ?_;rintro _ _ ⟨rfl,rfl⟩))
      refine(Aa HSh _).mono ?_
      rintro _ w23 ⟨rfl,hb⟩
      replace LL:=Ab ((Aa LL).on hb)
      clear hb
      go_wp2_with (first|go_skip|((with_reducible apply Ap);(case ho=>rfl);(case hw=>rfl);(case hx=>rfl);(case hc=>first|exact(Aa LL).one|exact(Aa LL).two);simp only[nn])|((with_reducible apply Av);(case ho=>rfl);(case hw=>rfl);(case hx=>rfl);(case hc=>first|exact(Aa LL).one|exact(Aa LL).two);simp only[nn])|((with_reducible apply Ax);(case ho=>rfl);(case hw=>rfl);(case hx=>rfl);(case hc=>first|exact(Aa LL).one|exact(Aa LL).two);simp only[nn])|((with_reducible apply Aw);(case ho=>rfl);(case hw=>rfl);(case hx=>rfl);(case hc=>first|exact(Aa LL).one|exact(Aa LL).two);simp only[nn])|((with_reducible apply Au);(case ho=>rfl);(case hw=>rfl);(case hx=>rfl);(case hc=>first|exact(Aa LL).one|exact(Aa LL).two);simp only[nn])|((with_reducible apply Aq);(case ho=>rfl);(case hw=>rfl);(case hx=>rfl);(case hc=>first|exact(Aa LL).one|exact(Aa LL).two);simp only[nn])|((with_reducible apply Ak);(case ho=>rfl);(case hw=>rfl);(case hx=>rfl);(case hc=>first|exact(Aa LL).one|exact(Aa LL).two);simp only[nn])|(go_at_call 119;refine(Ae _ _).mono ?_;rintro _ _ ⟨rfl,rfl⟩))
      refine(Aa HG _ (Ag (Aa HT) (Aa LL).below)).mono ?_
      rintro _ w24 ⟨rfl,hb⟩
      replace LL:=Ab ((Aa LL).on hb)
      clear hb
      cases dg
      ·go_wp2_with (first|go_skip|((with_reducible apply Ap);(case ho=>rfl);(case hw=>rfl);(case hx=>rfl);(case hc=>first|exact(Aa LL).one|exact(Aa LL).two);simp only[nn])|((with_reducible apply Av);(case ho=>rfl);(case hw=>rfl);(case hx=>rfl);(case hc=>first|exact(Aa LL).one|exact(Aa LL).two);simp only[nn])|((with_reducible apply Ax);(case ho=>rfl);(case hw=>rfl);(case hx=>rfl);(case hc=>first|exact(Aa LL).one|exact(Aa LL).two);simp only[nn])|((with_reducible apply Aw);(case ho=>rfl);(case hw=>rfl);(case hx=>rfl);(case hc=>first|exact(Aa LL).one|exact(Aa LL).two);simp only[nn])|((with_reducible apply Au);(case ho=>rfl);(case hw=>rfl);(case hx=>rfl);(case hc=>first|exact(Aa LL).one|exact(Aa LL).two);simp only[nn])|((with_reducible apply Aq);(case ho=>rfl);(case hw=>rfl);(case hx=>rfl);(case hc=>first|exact(Aa LL).one|exact(Aa LL).two);simp only[nn])|((with_reducible apply Ak);(case ho=>rfl);(case hw=>rfl);(case hx=>rfl);(case hc=>first|exact(Aa LL).one|exact(Aa LL).two);simp only[nn])|(go_at_call 119;refine(Ae _ _).mono ?_;rintro _ _ ⟨rfl,rfl⟩))
       refine(Aa HS _ (Ag (Aa HT) (Aa LL).below)).mono ?_
       rintro _ w25 ⟨rfl,hb⟩
       replace LL:=Ab ((Aa LL).on hb)
       clear hb
       go_wp2_with (first|go_skip|((with_reducible apply Ap);(case ho=>rfl);(case hw=>rfl);(case hx=>rfl);(case hc=>first|exact(Aa LL).one|exact(Aa LL).two);simp only[nn])|((with_reducible apply Av);(case ho=>rfl);(case hw=>rfl);(case hx=>rfl);(case hc=>first|exact(Aa LL).one|exact(Aa LL).two);simp only[nn])|((with_reducible apply Ax);(case ho=>rfl);(case hw=>rfl);(case hx=>rfl);(case hc=>first|exact(Aa LL).one|exact(Aa LL).two);simp only[nn])|((with_reducible apply Aw);(case ho=>rfl);(case hw=>rfl);(case hx=>rfl);(case hc=>first|exact(Aa LL).one|exact(Aa LL).two);simp only[nn])|((with_reducible apply Au);(case ho=>rfl);(case hw=>rfl);(case hx=>rfl);(case hc=>first|exact(Aa LL).one|exact(Aa LL).two);simp only[nn])|((with_reducible apply Aq);(case ho=>rfl);(case hw=>rfl);(case hx=>rfl);(case hc=>first|exact(Aa LL).one|exact(Aa LL).two);simp only[nn])|((with_reducible apply Ak);(case ho=>rfl);(case hw=>rfl);(case hx=>rfl);(case hc=>first|exact(Aa LL).one|exact(Aa LL).two);simp only[nn])|(go_at_call 119;refine(Ae _ _).mono ?_;rintro _ _ ⟨rfl,rfl⟩))
       go_ret
       exact⟨rfl,(Aa LL).below⟩
      ·go_wp2_with (first|go_skip|((with_reducible apply Ap);(case ho=>rfl);(case hw=>rfl);(case hx=>rfl);(case hc=>first|exact(Aa LL).one|exact(Aa LL).two);simp only[nn])|((with_reducible apply Av);(case ho=>rfl);(case hw=>rfl);(case hx=>rfl);(case hc=>first|exact(Aa LL).one|exact(Aa LL).two);simp only[nn])|((with_reducible apply Ax);(case ho=>rfl);(case hw=>rfl);(case hx=>rfl);(case hc=>first|exact(Aa LL).one|exact(Aa LL).two);simp only[nn])|((with_reducible apply Aw);(case ho=>rfl);(case hw=>rfl);(case hx=>rfl);(case hc=>first|exact(Aa LL).one|exact(Aa LL).two);simp only[nn])|((with_reducible apply Au);(case ho=>rfl);(case hw=>rfl);(case hx=>rfl);(case hc=>first|exact(Aa LL).one|exact(Aa LL).two);simp only[nn])|((with_reducible apply Aq);(case ho=>rfl);(case hw=>rfl);(case hx=>rfl);(case hc=>first|exact(Aa LL).one|exact(Aa LL).two);simp only[nn])|((with_reducible apply Ak);(case ho=>rfl);(case hw=>rfl);(case hx=>rfl);(case hc=>first|exact(Aa LL).one|exact(Aa LL).two);simp only[nn])|(go_at_call 119;refine(Ae _ _).mono ?_;rintro _ _ ⟨rfl,rfl⟩))
       go_ret
       exact⟨rfl,(Aa LL).below⟩
     ·go_wp2_with (first|go_skip|((with_reducible apply Ap);(case ho=>rfl);(case hw=>rfl);(case hx=>rfl);(case hc=>first|exact(Aa LL).one|exact(Aa LL).two);simp only[nn])|((with_reducible apply Av);(case ho=>rfl);(case hw=>rfl);(case hx=>rfl);(case hc=>first|exact(Aa LL).one|exact(Aa LL).two);simp only[nn])|((with_reducible apply Ax);(case ho=>rfl);(case hw=>rfl);(case hx=>rfl);(case hc=>first|exact(Aa LL).one|exact(Aa LL).two);simp only[nn])|((with_reducible apply Aw);(case ho=>rfl);(case hw=>rfl);(case hx=>rfl);(case hc=>first|exact(Aa LL).one|exact(Aa LL).two);simp only[nn])|((with_reducible apply Au);(case ho=>rfl);(case hw=>rfl);(case hx=>rfl);(case hc=>first|exact(Aa LL).one|exact(Aa LL).two);simp only[nn])|((with_reducible apply Aq);(case ho=>rfl);(case hw=>rfl);(case hx=>rfl);(case hc=>first|exact(Aa LL).one|exact(Aa LL).two);simp only[nn])|((with_reducible apply Ak);(case ho=>rfl);(case hw=>rfl);(case hx=>rfl);(case hc=>first|exact(Aa LL).one|exact(Aa LL).two);simp only[nn])|(go_at_call 119;refine(Ae _ _).mono ?_;rintro _ _ ⟨rfl,rfl⟩))
      go_ret
      exact⟨rfl,(Aa LL).below⟩
    ·go_wp2_with (first|go_skip|((with_reducible apply Ap);(case ho=>rfl);(case hw=>rfl);(case hx=>rfl);(case hc=>first|exact(Aa LL).one|exact(Aa LL).two);simp only[nn])|((with_reducible apply Av);(case ho=>rfl);(case hw=>rfl);(case hx=>rfl);(case hc=>first|exact(Aa LL).one|exact(Aa LL).two);simp only[nn])|((with_reducible apply Ax);(case ho=>rfl);(case hw=>rfl);(case hx=>rfl);(case hc=>first|exact(Aa LL).one|exact(Aa LL).two);simp only[nn])|((with_reducible apply Aw);(case ho=>rfl);(case hw=>rfl);(case hx=>rfl);(case hc=>first|exact(Aa LL).one|exact(Aa LL).two);simp only[nn])|((with_reducible apply Au);(case ho=>rfl);(case hw=>rfl);(case hx=>rfl);(case hc=>first|exact(Aa LL).one|exact(Aa LL).two);simp only[nn])|((with_reducible apply Aq);(case ho=>rfl);(case hw=>rfl);(case hx=>rfl);(case hc=>first|exact(Aa LL).one|exact(Aa LL).two);simp only[nn])|((with_reducible apply Ak);(case ho=>rfl);(case hw=>rfl);(case hx=>rfl);(case hc=>first|exact(Aa LL).one|exact(Aa LL).two);simp only[nn])|(go_at_call 119;refine(Ae _ _).mono ?_;rintro _ _ ⟨rfl,rfl⟩))
     go_ret
     exact⟨rfl,(Aa LL).below⟩
  ·go_wp2_with (first|go_skip|((with_reducible apply Ap);(case ho=>rfl);(case hw=>rfl);(case hx=>rfl);(case hc=>first|exact(Aa LL).one|exact(Aa LL).two);simp only[nn])|((with_reducible apply Av);(case ho=>rfl);(case hw=>rfl);(case hx=>rfl);(case hc=>first|exact(Aa LL).one|exact(Aa LL).two);simp only[nn])|((with_reducible apply Ax);(case ho=>rfl);(case hw=>rfl);(case hx=>rfl);(case hc=>first|exact(Aa LL).one|exact(Aa LL).two);simp only[nn])|((with_reducible apply Aw);(case ho=>rfl);(case hw=>rfl);(case hx=>rfl);(case hc=>first|exact(Aa LL).one|exact(Aa LL).two);simp only[nn])|((with_reducible apply Au);(case ho=>rfl);(case hw=>rfl);(case hx=>rfl);(case hc=>first|exact(Aa LL).one|exact(Aa LL).two);simp only[nn])|((with_reducible apply Aq);(case ho=>rfl);(case hw=>rfl);(case hx=>rfl);(case hc=>first|exact(Aa LL).one|exact(Aa LL).two);simp only[nn])|((with_reducible apply Ak);(case ho=>rfl);(case hw=>rfl);(case hx=>rfl);(case hc=>first|exact(Aa LL).one|exact(Aa LL).two);simp only[nn])|(go_at_call 119;refine(Ae _ _).mono ?_;rintro _ _ ⟨rfl,rfl⟩))
   go_ret
   exact⟨rfl,(Aa LL).below⟩
 ·have e3:(sh==3)=false:=by simp[h3]
  rw[e3]
  go_enter func112,ntmps112
  cases q2
  ·cases qe
   ·go_wp2_with (first|go_skip|((with_reducible apply Ap);(case ho=>rfl);(case hw=>rfl);(case hx=>rfl);(case hc=>first|exact(Aa LL).one|exact(Aa LL).two);simp only[nn])|((with_reducible apply Av);(case ho=>rfl);(case hw=>rfl);(case hx=>rfl);(case hc=>first|exact(Aa LL).one|exact(Aa LL).two);simp only[nn])|((with_reducible apply Ax);(case ho=>rfl);(case hw=>rfl);(case hx=>rfl);(case hc=>first|exact(Aa LL).one|exact(Aa LL).two);simp only[nn])|((with_reducible apply Aw);(case ho=>rfl);(case hw=>rfl);(case hx=>rfl);(case hc=>first|exact(Aa LL).one|exact(Aa LL).two);simp only[nn])|((with_reducible apply Au);(case ho=>rfl);(case hw=>rfl);(case hx=>rfl);(case hc=>first|exact(Aa LL).one|exact(Aa LL).two);simp only[nn])|((with_reducible apply Aq);(case ho=>rfl);(case hw=>rfl);(case hx=>rfl);(case hc=>first|exact(Aa LL).one|exact(Aa LL).two);simp only[nn])|((with_reducible apply Ak);(case ho=>rfl);(case hw=>rfl);(case hx=>rfl);(case hc=>first|exact(Aa LL).one|exact(Aa LL).two);simp only[nn])|(go_at_call 119;refine(Ae _ _).mono ?_;rintro _ _ ⟨rfl,rfl⟩))
    refine(Aa HTu _).mono ?_
    rintro _ w28 ⟨rfl,hb⟩
    replace LL:=Ab ((Aa LL).on hb)
    clear hb
    cases tu
    ·go_wp2_with (first|go_skip|((with_reducible apply Ap);(case ho=>rfl);(case hw=>rfl);(case hx=>rfl);(case hc=>first|exact(Aa LL).one|exact(Aa LL).two);simp only[nn])|((with_reducible apply Av);(case ho=>rfl);(case hw=>rfl);(case hx=>rfl);(case hc=>first|exact(Aa LL).one|exact(Aa LL).two);simp only[nn])|((with_reducible apply Ax);(case ho=>rfl);(case hw=>rfl);(case hx=>rfl);(case hc=>first|exact(Aa LL).one|exact(Aa LL).two);simp only[nn])|((with_reducible apply Aw);(case ho=>rfl);(case hw=>rfl);(case hx=>rfl);(case hc=>first|exact(Aa LL).one|exact(Aa LL).two);simp only[nn])|((with_reducible apply Au);(case ho=>rfl);(case hw=>rfl);(case hx=>rfl);(case hc=>first|exact(Aa LL).one|exact(Aa LL).two);simp only[nn])|((with_reducible apply Aq);(case ho=>rfl);(case hw=>rfl);(case hx=>rfl);(case hc=>first|exact(Aa LL).one|exact(Aa LL).two);simp only[nn])|((with_reducible apply Ak);(case ho=>rfl);(case hw=>rfl);(case hx=>rfl);(case hc=>first|exact(Aa LL).one|exact(Aa LL).two);simp only[nn])|(go_at_call 119;refine(Ae _ _).mono ?_;rintro _ _ ⟨rfl,rfl⟩))
     refine(Aa HSh _).mono ?_
     rintro _ w32 ⟨rfl,hb⟩
     replace LL:=Ab ((Aa LL).on hb)
     clear hb
     cases n1
     ·go_wp2_with (first|go_skip|((with_reducible apply Ap);(case ho=>rfl);(case hw=>rfl);(case hx=>rfl);(case hc=>first|exact(Aa LL).one|exact(Aa LL).two);simp only[nn])|((with_reducible apply Av);(case ho=>rfl);(case hw=>rfl);(case hx=>rfl);(case hc=>first|exact(Aa LL).one|exact(Aa LL).two);simp only[nn])|((with_reducible apply Ax);(case ho=>rfl);(case hw=>rfl);(case hx=>rfl);(case hc=>first|exact(Aa LL).one|exact(Aa LL).two);simp only[nn])|((with_reducible apply Aw);(case ho=>rfl);(case hw=>rfl);(case hx=>rfl);(case hc=>first|exact(Aa LL).one|exact(Aa LL).two);simp only[nn])|((with_reducible apply Au);(case ho=>rfl);(case hw=>rfl);(case hx=>rfl);(case hc=>first|exact(Aa LL).one|exact(Aa LL).two);simp only[nn])|((with_reducible apply Aq);(case ho=>rfl);(case hw=>rfl);(case hx=>rfl);(case hc=>first|exact(Aa LL).one|exact(Aa LL).two);simp only[nn])|((with_reducible apply Ak);(case ho=>rfl);(case hw=>rfl);(case hx=>rfl);(case hc=>first|exact(Aa LL).one|exact(Aa LL).two);simp only[nn])|(go_at_call 119;refine(Ae _ _).mono ?_;rintro _ _ ⟨rfl,rfl⟩))
      go_ret
      exact⟨rfl,(Aa LL).below⟩
     ·cases w2
      ·go_wp2_with (first|go_skip|((with_reducible apply Ap);(case ho=>rfl);(case hw=>rfl);(case hx=>rfl);(case hc=>first|exact(Aa LL).one|exact(Aa LL).two);simp only[nn])|((with_reducible apply Av);(case ho=>rfl);(case hw=>rfl);(case hx=>rfl);(case hc=>first|exact(Aa LL).one|exact(Aa LL).two);simp only[nn])|((with_reducible apply Ax);(case ho=>rfl);(case hw=>rfl);(case hx=>rfl);(case hc=>first|exact(Aa LL).one|exact(Aa LL).two);simp only[nn])|((with_reducible apply Aw);(case ho=>rfl);(case hw=>rfl);(case hx=>rfl);(case hc=>first|exact(Aa LL).one|exact(Aa LL).two);simp only[nn])|((with_reducible apply Au);(case ho=>rfl);(case hw=>rfl);(case hx=>rfl);(case hc=>first|exact(Aa LL).one|exact(Aa LL).two);simp only[nn])|((with_reducible apply Aq);(case ho=>rfl);(case hw=>rfl);(case hx=>rfl);(case hc=>first|exact(Aa LL).one|exact(Aa LL).two);simp only[nn])|((with_reducible apply Ak);(case ho=>rfl);(case hw=>rfl);(case hx=>rfl);(case hc=>first|exact(Aa LL).one|exact(Aa LL).two);simp only[nn])|(go_at_call 119;refine(Ae _ _).mono ?_;rintro _ _ ⟨rfl,rfl⟩))
       refine(Aa HV _ (Ag (Aa HT) (Aa LL).below)).mono ?_
       rintro _ w33 ⟨rfl,hb⟩
       replace LL:=Ab ((Aa LL).on hb)
       clear hb
       go_wp2_with (first|go_skip|((with_reducible apply Ap);(case ho=>rfl);(case hw=>rfl);(case hx=>rfl);(case hc=>first|exact(Aa LL).one|exact(Aa LL).two);simp only[nn])|((with_reducible apply Av);(case ho=>rfl);(case hw=>rfl);(case hx=>rfl);(case hc=>first|exact(Aa LL).one|exact(Aa LL).two);simp only[nn])|((with_reducible apply Ax);(case ho=>rfl);(case hw=>rfl);(case hx=>rfl);(case hc=>first|exact(Aa LL).one|exact(Aa LL).two);simp only[nn])|((with_reducible apply Aw);(case ho=>rfl);(case hw=>rfl);(case hx=>rfl);(case hc=>first|exact(Aa LL).one|exact(Aa LL).two);simp only[nn])|((with_reducible apply Au);(case ho=>rfl);(case hw=>rfl);(case hx=>rfl);(case hc=>first|exact(Aa LL).one|exact(Aa LL).two);simp only[nn])|((with_reducible apply Aq);(case ho=>rfl);(case hw=>rfl);(case hx=>rfl);(case hc=>first|exact(Aa LL).one|exact(Aa LL).two);simp only[nn])|((with_reducible apply Ak);(case ho=>rfl);(case hw=>rfl);(case hx=>rfl);(case hc=>first|exact(Aa LL).one|exact(Aa LL).two);simp only[nn])|(go_at_call 119;refine(Ae _ _).mono ?_;rintro _ _ ⟨rfl,rfl⟩))
       go_ret
       exact⟨rfl,(Aa LL).below⟩
      ·go_wp2_with (first|go_skip|((with_reducible apply Ap);(case ho=>rfl);(case hw=>rfl);(case hx=>rfl);(case hc=>first|exact(Aa LL).one|exact(Aa LL).two);simp only[nn])|((with_reducible apply Av);(case ho=>rfl);(case hw=>rfl);(case hx=>rfl);(case hc=>first|exact(Aa LL).one|exact(Aa LL).two);simp only[nn])|((with_reducible apply Ax);(case ho=>rfl);(case hw=>rfl);(case hx=>rfl);(case hc=>first|exact(Aa LL).one|exact(Aa LL).two);simp only[nn])|((with_reducible apply Aw);(case ho=>rfl);(case hw=>rfl);(case hx=>rfl);(case hc=>first|exact(Aa LL).one|exact(Aa LL).two);simp only[nn])|((with_reducible apply Au);(case ho=>rfl);(case hw=>rfl);(case hx=>rfl);(case hc=>first|exact(Aa LL).one|exact(Aa LL).two);simp only[nn])|((with_reducible apply Aq);(case ho=>rfl);(case hw=>rfl);(case hx=>rfl);(case hc=>first|exact(Aa LL).one|exact(Aa LL).two);simp only[nn])|((with_reducible apply Ak);(case ho=>rfl);(case hw=>rfl);(case hx=>rfl);(case hc=>first|exact(Aa LL).one|exact(Aa LL).two);simp only[nn])|(go_at_call 119;refine(Ae _ _).mono ?_;rintro _ _ ⟨rfl,rfl⟩))
       go_ret
       exact⟨rfl,(Aa LL).below⟩
    ·go_wp2_with (first|go_skip|((with_reducible apply Ap);(case ho=>rfl);(case hw=>rfl);(case hx=>rfl);(case hc=>first|exact(Aa LL).one|exact(Aa LL).two);simp only[nn])|((with_reducible apply Av);(case ho=>rfl);(case hw=>rfl);(case hx=>rfl);(case hc=>first|exact(Aa LL).one|exact(Aa LL).two);simp only[nn])|((with_reducible apply Ax);(case ho=>rfl);(case hw=>rfl);(case hx=>rfl);(case hc=>first|exact(Aa LL).one|exact(Aa LL).two);simp only[nn])|((with_reducible apply Aw);(case ho=>rfl);(case hw=>rfl);(case hx=>rfl);(case hc=>first|exact(Aa LL).one|exact(Aa LL).two);simp only[nn])|((with_reducible apply Au);(case ho=>rfl);(case hw=>rfl);(case hx=>rfl);(case hc=>first|exact(Aa LL).one|exact(Aa LL).two);simp only[nn])|((with_reducible apply Aq);(case ho=>rfl);(case hw=>rfl);(case hx=>rfl);(case hc=>first|exact(Aa LL).one|exact(Aa LL).two);simp only[nn])|((with_reducible apply Ak);(case ho=>rfl);(case hw=>rfl);(case hx=>rfl);(case hc=>first|exact(Aa LL).one|exact(Aa LL).two);simp only[nn])|(go_at_call 119;refine(Ae _ _).mono ?_;rintro _ _ ⟨rfl,rfl⟩))
     go_ret
     exact⟨rfl,(Aa LL).below⟩
   ·cases qn
    ·go_wp2_with (first|go_skip|((with_reducible apply Ap);(case ho=>rfl);(case hw=>rfl);(case hx=>rfl);(case hc=>first|exact(Aa LL).one|exact(Aa LL).two);simp only[nn])|((with_reducible apply Av);(case ho=>rfl);(case hw=>rfl);(case hx=>rfl);(case hc=>first|exact(Aa LL).one|exact(Aa LL).two);simp only[nn])|((with_reducible apply Ax);(case ho=>rfl);(case hw=>rfl);(case hx=>rfl);(case hc=>first|exact(Aa LL).one|exact(Aa LL).two);simp only[nn])|((with_reducible apply Aw);(case ho=>rfl);(case hw=>rfl);(case hx=>rfl);(case hc=>first|exact(Aa LL).one|exact(Aa LL).two);simp only[nn])|((with_reducible apply Au);(case ho=>rfl);(case hw=>rfl);(case hx=>rfl);(case hc=>first|exact(Aa LL).one|exact(Aa LL).two);simp only[nn])|((with_reducible apply Aq);(case ho=>rfl);(case hw=>rfl);(case hx=>rfl);(case hc=>first|exact(Aa LL).one|exact(Aa LL).two);simp only[nn])|((with_reducible apply Ak);(case ho=>rfl);(case hw=>rfl);(case hx=>rfl);(case hc=>first|exact(Aa LL).one|exact(Aa LL).two);simp only[nn])|(go_at_call 119;refine(Ae _ _).mono ?_;rintro _ _ ⟨rfl,rfl⟩))
     refine(Aa HTu _).mono ?_
     rintro _ w34 ⟨rfl,hb⟩
     replace LL:=Ab ((Aa LL).on hb)
     clear hb
     cases tu
     ·go_wp2_with (first|go_skip|((with_reducible apply Ap);(case ho=>rfl);(case hw=>rfl);(case hx=>rfl);(case hc=>first|exact(Aa LL).one|exact(Aa LL).two);simp only[nn])|((with_reducible apply Av);(case ho=>rfl);(case hw=>rfl);(case hx=>rfl);(case hc=>first|exact(Aa LL).one|exact(Aa LL).two);simp only[nn])|((with_reducible apply Ax);(case ho=>rfl);(case hw=>rfl);(case hx=>rfl);(case hc=>first|exact(Aa LL).one|exact(Aa LL).two);simp only[nn])|((with_reducible apply Aw);(case ho=>rfl);(case hw=>rfl);(case hx=>rfl);(case hc=>first|exact(Aa LL).one|exact(Aa LL).two);simp only[nn])|((with_reducible apply Au);(case ho=>rfl);(case hw=>rfl);(case hx=>rfl);(case hc=>first|exact(Aa LL).one|exact(Aa LL).two);simp only[nn])|((with_reducible apply Aq);(case ho=>rfl);(case hw=>rfl);(case hx=>rfl);(case hc=>first|exact(Aa LL).one|exact(Aa LL).two);simp only[nn])|((with_reducible apply Ak);(case ho=>rfl);(case hw=>rfl);(case hx=>rfl);(case hc=>first|exact(Aa LL).one|exact(Aa LL).two);simp only[nn])|(go_at_call 119;refine(Ae _ _).mono ?_;rintro _ _ ⟨rfl,rfl⟩))
      refine(Aa HSh _).mono ?_
      rintro _ w38 ⟨rfl,hb⟩
      replace LL:=Ab ((Aa LL).on hb)
      clear hb
      cases n1
      ·go_wp2_with (first|go_skip|((with_reducible apply Ap);(case ho=>rfl);(case hw=>rfl);(case hx=>rfl);(case hc=>first|exact(Aa LL).one|exact(Aa LL).two);simp only[nn])|((with_reducible apply Av);(case ho=>rfl);(case hw=>rfl);(case hx=>rfl);(case hc=>first|exact(Aa LL).one|exact(Aa LL).two);simp only[nn])|((with_reducible apply Ax);(case ho=>rfl);(case hw=>rfl);(case hx=>rfl);(case hc=>first|exact(Aa LL).one|exact(Aa LL).two);simp only[nn])|((with_reducible apply Aw);(case ho=>rfl);(case hw=>rfl);(case hx=>rfl);(case hc=>first|exact(Aa LL).one|exact(Aa LL).two);simp only[nn])|((with_reducible apply Au);(case ho=>rfl);(case hw=>rfl);(case hx=>rfl);(case hc=>first|exact(Aa LL).one|exact(Aa LL).two);simp only[nn])|((with_reducible apply Aq);(case ho=>rfl);(case hw=>rfl);(case hx=>rfl);(case hc=>first|exact(Aa LL).one|exact(Aa LL).two);simp only[nn])|((with_reducible apply Ak);(case ho=>rfl);(case hw=>rfl);(case hx=>rfl);(case hc=>first|exact(Aa LL).one|exact(Aa LL).two);simp only[nn])|(go_at_call 119;refine(Ae _ _).mono ?_;rintro _ _ ⟨rfl,rfl⟩))
       go_ret
       exact⟨rfl,(Aa LL).below⟩
      ·cases w2
       ·go_wp2_with (first|go_skip|((with_reducible apply Ap);(case ho=>rfl);(case hw=>rfl);(case hx=>rfl);(case hc=>first|exact(Aa LL).one|exact(Aa LL).two);simp only[nn])|((with_reducible apply Av);(case ho=>rfl);(case hw=>rfl);(case hx=>rfl);(case hc=>first|exact(Aa LL).one|exact(Aa LL).two);simp only[nn])|((with_reducible apply Ax);(case ho=>rfl);(case hw=>rfl);(case hx=>rfl);(case hc=>first|exact(Aa LL).one|exact(Aa LL).two);simp only[nn])|((with_reducible apply Aw);(case ho=>rfl);(case hw=>rfl);(case hx=>rfl);(case hc=>first|exact(Aa LL).one|exact(Aa LL).two);simp only[nn])|((with_reducible apply Au);(case ho=>rfl);(case hw=>rfl);(case hx=>rfl);(case hc=>first|exact(Aa LL).one|exact(Aa LL).two);simp only[nn])|((with_reducible apply Aq);(case ho=>rfl);(case hw=>rfl);(case hx=>rfl);(case hc=>first|exact(Aa LL).one|exact(Aa LL).two);simp only[nn])|((with_reducible apply Ak);(case ho=>rfl);(case hw=>rfl);(case hx=>rfl);(case hc=>first|exact(Aa LL).one|exact(Aa LL).two);simp only[nn])|(go_at_call 119;refine(Ae _ _).mono ?_;rintro _ _ ⟨rfl,rfl⟩))
        refine(Aa HV _ (Ag (Aa HT) (Aa LL).below)).mono ?_
        rintro _ w39 ⟨rfl,hb⟩
        replace LL:=Ab ((Aa LL).on hb)
        clear hb
        go_wp2_with (first|go_skip|((with_reducible apply Ap);(case ho=>rfl);(case hw=>rfl);(case hx=>rfl);(case hc=>first|exact(Aa LL).one|exact(Aa LL).two);simp only[nn])|((with_reducible apply Av);(case ho=>rfl);(case hw=>rfl);(case hx=>rfl);(case hc=>first|exact(Aa LL).one|exact(Aa LL).two);simp only[nn])|((with_reducible apply Ax);(case ho=>rfl);(case hw=>rfl);(case hx=>rfl);(case hc=>first|exact(Aa LL).one|exact(Aa LL).two);simp only[nn])|((with_reducible apply Aw);(case ho=>rfl);(case hw=>rfl);(case hx=>rfl);(case hc=>first|exact(Aa LL).one|exact(Aa LL).two);simp only[nn])|((with_reducible apply Au);(case ho=>rfl);(case hw=>rfl);(case hx=>rfl);(case hc=>first|exact(Aa LL).one|exact(Aa LL).two);simp only[nn])|((with_reducible apply Aq);(case ho=>rfl);(case hw=>rfl);(case hx=>rfl);(case hc=>first|exact(Aa LL).one|exact(Aa LL).two);simp only[nn])|((with_reducible apply Ak);(case ho=>rfl);(case hw=>rfl);(case hx=>rfl);(case hc=>first|exact(Aa LL).one|exact(Aa LL).two);simp only[nn])|(go_at_call 119;refine(Ae _ _).mono ?_;rintro _ _ ⟨rfl,rfl⟩))
        go_ret
        exact⟨rfl,(Aa LL).below⟩
       ·go_wp2_with (first|go_skip|((with_reducible apply Ap);(case ho=>rfl);(case hw=>rfl);(case hx=>rfl);(case hc=>first|exact(Aa LL).one|exact(Aa LL).two);simp only[nn])|((with_reducible apply Av);(case ho=>rfl);(case hw=>rfl);(case hx=>rfl);(case hc=>first|exact(Aa LL).one|exact(Aa LL).two);simp only[nn])|((with_reducible apply Ax);(case ho=>rfl);(case hw=>rfl);(case hx=>rfl);(case hc=>first|exact(Aa LL).one|exact(Aa LL).two);simp only[nn])|((with_reducible apply Aw);(case ho=>rfl);(case hw=>rfl);(case hx=>rfl);(case hc=>first|exact(Aa LL).one|exact(Aa LL).two);simp only[nn])|((with_reducible apply Au);(case ho=>rfl);(case hw=>rfl);(case hx=>rfl);(case hc=>first|exact(Aa LL).one|exact(Aa LL).two);simp only[nn])|((with_reducible apply Aq);(case ho=>rfl);(case hw=>rfl);(case hx=>rfl);(case hc=>first|exact(Aa LL).one|exact(Aa LL).two);simp only[nn])|((with_reducible apply Ak);(case ho=>rfl);(case hw=>rfl);(case hx=>rfl);(case hc=>first|exact(Aa LL).one|exact(Aa LL).two);simp only[nn])|(go_at_call 119;refine(Ae _ _).mono ?_;rintro _ _ ⟨rfl,rfl⟩))
        go_ret
        exact⟨rfl,(Aa LL).below⟩
     ·go_wp2_with (first|go_skip|((with_reducible apply Ap);(case ho=>rfl);(case hw=>rfl);(case hx=>rfl);(case hc=>first|exact(Aa LL).one|exact(Aa LL).two);simp only[nn])|((with_reducible apply Av);(case ho=>rfl);(case hw=>rfl);(case hx=>rfl);(case hc=>first|exact(Aa LL).one|exact(Aa LL).two);simp only[nn])|((with_reducible apply Ax);(case ho=>rfl);(case hw=>rfl);(case hx=>rfl);(case hc=>first|exact(Aa LL).one|exact(Aa LL).two);simp only[nn])|((with_reducible apply Aw);(case ho=>rfl);(case hw=>rfl);(case hx=>rfl);(case hc=>first|exact(Aa LL).one|exact(Aa LL).two);simp only[nn])|((with_reducible apply Au);(case ho=>rfl);(case hw=>rfl);(case hx=>rfl);(case hc=>first|exact(Aa LL).one|exact(Aa LL).two);simp only[nn])|((with_reducible apply Aq);(case ho=>rfl);(case hw=>rfl);(case hx=>rfl);(case hc=>first|exact(Aa LL).one|exact(Aa LL).two);simp only[nn])|((with_reducible apply Ak);(case ho=>rfl);(case hw=>rfl);(case hx=>rfl);(case hc=>first|exact(Aa LL).one|exact(Aa LL).two);simp only[nn])|(go_at_call 119;refine(Ae _ _).mono ?_;rintro _ _ ⟨rfl,rfl⟩))
      go_ret
      exact⟨rfl,(Aa LL).below⟩
    ·go_wp2_with (first|go_skip|((with_reducible apply Ap);(case ho=>rfl);(case hw=>rfl);(case hx=>rfl);(case hc=>first|exact(Aa LL).one|exact(Aa LL).two);simp only[nn])|((with_reducible apply Av);(case ho=>rfl);(case hw=>rfl);(case hx=>rfl);(case hc=>first|exact(Aa LL).one|exact(Aa LL).two);simp only[nn])|((with_reducible apply Ax);(case ho=>rfl);(case hw=>rfl);(case hx=>rfl);(case hc=>first|exact(Aa LL).one|exact(Aa LL).two);simp only[nn])|((with_reducible apply Aw);(case ho=>rfl);(case hw=>rfl);(case hx=>rfl);(case hc=>first|exact(Aa LL).one|exact(Aa LL).two);simp only[nn])|((with_reducible apply Au);(case ho=>rfl);(case hw=>rfl);(case hx=>rfl);(case hc=>first|exact(Aa LL).one|exact(Aa LL).two);simp only[nn])|((with_reducible apply Aq);(case ho=>rfl);(case hw=>rfl);(case hx=>rfl);(case hc=>first|exact(Aa LL).one|exact(Aa LL).two);simp only[nn])|((with_reducible apply Ak);(case ho=>rfl);(case hw=>rfl);(case hx=>rfl);(case hc=>first|exact(Aa LL).one|exact(Aa LL).two);simp only[nn])|(go_at_call 119;refine(Ae _ _).mono ?_;rintro _ _ ⟨rfl,rfl⟩))
     go_ret
     exact⟨rfl,(Aa LL).below⟩
  ·go_wp2_with (first|go_skip|((with_reducible apply Ap);(case ho=>rfl);(case hw=>rfl);(case hx=>rfl);(case hc=>first|exact(Aa LL).one|exact(Aa LL).two);simp only[nn])|((with_reducible apply Av);(case ho=>rfl);(case hw=>rfl);(case hx=>rfl);(case hc=>first|exact(Aa LL).one|exact(Aa LL).two);simp only[nn])|((with_reducible apply Ax);(case ho=>rfl);(case hw=>rfl);(case hx=>rfl);(case hc=>first|exact(Aa LL).one|exact(Aa LL).two);simp only[nn])|((with_reducible apply Aw);(case ho=>rfl);(case hw=>rfl);(case hx=>rfl);(case hc=>first|exact(Aa LL).one|exact(Aa LL).two);simp only[nn])|((with_reducible apply Au);(case ho=>rfl);(case hw=>rfl);(case hx=>rfl);(case hc=>first|exact(Aa LL).one|exact(Aa LL).two);simp only[nn])|((with_reducible apply Aq);(case ho=>rfl);(case hw=>rfl);(case hx=>rfl);(case hc=>first|exact(Aa LL).one|exact(Aa LL).two);simp only[nn])|((with_reducible apply Ak);(case ho=>rfl);(case hw=>rfl);(case hx=>rfl);(case hc=>first|exact(Aa LL).one|exact(Aa LL).two);simp only[nn])|(go_at_call 119;refine(Ae _ _).mono ?_;rintro _ _ ⟨rfl,rfl⟩))
   go_ret
   exact⟨rfl,(Aa LL).below⟩
