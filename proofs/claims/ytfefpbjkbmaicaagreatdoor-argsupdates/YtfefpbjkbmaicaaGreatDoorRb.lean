import Derived.Test.YtfefpbjkbmaicaaGreatDoorRa
set_option linter.all false
namespace Go.Proofs.YtfefpbjkbmaicaaGreatDoor
set_option maxRecDepth 100000
set_option maxHeartbeats 0
section
open Go Go.Proofs Go.Maps Go.RowKit FM Tryz
attribute [local go_sem] Av Ap Dv Du De Au Ao Az Dd Gu Gt
theorem ldM {o:Oper} {a:Act} {w:World} {b:Bool} {v:Value} {t:Nat} (h:(execOp a.eval o).run prog w= .ok (.value (.iface (mt b) v)) w) (hb:mt b=t):(execOp a.eval o).run prog w= .ok (.value (.iface t v)) w:=hb▸h
theorem own_a (h:HP) (j:Nat) (q:OB) (k:KK) (w:World) (H:h.Is w) (hl:h.l.length<=65536) (hj:h.l[j]? =some q) (hk:OkK k) (hm:mt q.m=74):Calls prog 156 #[.pointer (some ⟨h.b,0,none⟩), .int .i64 ((j:Int)+1),k.agg] w fun e w'=>e= .returned (.tuple #[(getD q.T k).agg, .bool (q.T.find k).isSome, .nilIface])/\Below w.heap.size w w':=by
 have SS:=Ac (Sy.nil w [])
 rw[Ec]
 go_enter func156,ntmps156
 go_wp2_with (first|go_skip|((with_reducible show wpList ..);first|(refine zB 42 (k.cs) (by rfl) rfl rfl rfl SS ?_;clear SS;intro Xa Ba SS;simp only[nn])|(refine zA 29 (Bx.cs) (by rfl) rfl SS ?_;clear SS;intro Xb Bb SS;simp only[nn])))
 have hS:Sy w _ [] [Al Ba k.cs,Al Bb Bx.cs]:=(Aa SS).drew
 clear SS
 have cu: ∀{X:World} {M:List Ob},Sy w X [] ([Al Ba k.cs]++M)->Sy w X [] [Al Ba k.cs]:=fun h=>Sy.left h
 refine wp_region_held_drew (P:=prog) (S:=fun X=>Sy w X [] [Al Ba k.cs]) (by kernel_rfl) (cu hS) (fun hS0=> ?_)
 refine gp 0 (some 9) (.pointer (some ⟨h.b,0,none⟩)) rfl rfl (cu hS) ?_
 refine gp 1 (some 10) (.int .i64 ((j:Int)+1)) rfl rfl (cu hS) ?_
 refine gp 6 (some 15) (.pointer (some ⟨h.b,0,none⟩)) rfl rfl (cu hS) ?_
 refine gp 7 (some 16) (.int .i64 ((j:Int)+1)) rfl rfl (cu hS) ?_
 refine gq 8 (some 17) (.agg k.cs.toArray) rfl rfl (fun X hX=>Ax (vs:=k.cs) 42 2 rwK szK rfl rfl (hX.hold 0 rfl) rfl rfl) (cu hS) ?_
 refine gr (rs:= [2]) (gcW 2 (some 11) rfl rfl (cu hS) (Qn h j q _ (H.on hS.fr.below) hj hl) ?_ gn)
 refine gp 3 (some 12) (.pointer (some ⟨q.b,0,none⟩)) rfl rfl (cu hS) ?_
 refine gp 4 (some 13) (.pointer (some ⟨q.b,8,none⟩)) rfl rfl (cu hS) ?_
 refine gq 5 (some 14) (.iface 74 (.agg #[])) rfl rfl (fun X hX=>ldM (Aj 102 isAgg102 rfl rfl ((H.on hX.fr.below).ob hj).1 rfl) hm) (cu hS) ?_
 refine gr (rs:= [9]) (gcB 9 (some 18) rfl rfl hS (Yb h j q k _ (H.on hS.fr.below) hl hj hk) (fun x=>cu x) ?_ gn)
 intro Y2 hq2
 refine gp 10 (some 19) ((getD q.T k).agg) rfl rfl (cu hq2) ?_
 refine gp 11 (some 20) (.bool (q.T.find k).isSome) rfl rfl (cu hq2) ?_
 refine gp 12 (some 21) (.nilIface) rfl rfl (cu hq2) ?_
 refine gr (rs:= [13]) (Na (vs:=(getD q.T k).cs) (new:=(getD q.T k).cs) 13 1 29 rfl rfl (by kernel_rfl) rfl rfl rfl rfl (Jg _) szD hq2 rfl (by simp[Dq,VV.cs,KK.cs,DD.cs,OB.cs,hcs,Bx,Bz]) (by simp[Dq,VV.cs,KK.cs,DD.cs,OB.cs,hcs,Bx,Bz]) (fun _ hZ=>cu hZ) ?_ gn)
 intro Y3 hq3
 refine gp 14 (some 7) (.bool (q.T.find k).isSome) rfl rfl (cu hq3) ?_
 refine gp 15 (some 8) (.nilIface) rfl rfl (cu hq3) ?_
 refine wpAnyH_done (by kernel_rfl) ?_ _
 try simp only[nn]
 have SS:=Ac hq3
 go_wp2
 refine bodyPost_ret (Nq rwD szD rfl rfl rfl rfl ((Aa SS).hold 1 rfl) rfl) rfl ?_
 exact⟨rfl,(Aa SS).fr.below⟩
theorem own_o (h:HP) (j:Nat) (q:OB) (k:KK) (w:World) (H:h.Is w) (hl:h.l.length<=65536) (hj:h.l[j]? =some q) (hk:OkK k) (hm:mt q.m=70):Calls prog 156 #[.pointer (some ⟨h.b,0,none⟩), .int .i64 ((j:Int)+1),k.agg] w fun e w'=>e= .returned (.tuple #[(getD q.T k).agg, .bool (q.T.find k).isSome, .nilIface])/\Below w.heap.size w w':=by
 have SS:=Ac (Sy.nil w [])
 rw[Ec]
 go_enter func156,ntmps156
 go_wp2_with (first|go_skip|((with_reducible show wpList ..);first|(refine zB 42 (k.cs) (by rfl) rfl rfl rfl SS ?_;clear SS;intro Xa Ba SS;simp only[nn])|(refine zA 29 (Bx.cs) (by rfl) rfl SS ?_;clear SS;intro Xb Bb SS;simp only[nn])))
 have hS:Sy w _ [] [Al Ba k.cs,Al Bb Bx.cs]:=(Aa SS).drew
 clear SS
 have cu: ∀{X:World} {M:List Ob},Sy w X [] ([Al Ba k.cs]++M)->Sy w X [] [Al Ba k.cs]:=fun h=>Sy.left h
 refine wp_region_held_drew (P:=prog) (S:=fun X=>Sy w X [] [Al Ba k.cs]) (by kernel_rfl) (cu hS) (fun hS0=> ?_)
 refine gp 0 (some 9) (.pointer (some ⟨h.b,0,none⟩)) rfl rfl (cu hS) ?_
 refine gp 1 (some 10) (.int .i64 ((j:Int)+1)) rfl rfl (cu hS) ?_
 refine gp 6 (some 15) (.pointer (some ⟨h.b,0,none⟩)) rfl rfl (cu hS) ?_
 refine gp 7 (some 16) (.int .i64 ((j:Int)+1)) rfl rfl (cu hS) ?_
 refine gq 8 (some 17) (.agg k.cs.toArray) rfl rfl (fun X hX=>Ax (vs:=k.cs) 42 2 rwK szK rfl rfl (hX.hold 0 rfl) rfl rfl) (cu hS) ?_
 refine gr (rs:= [2]) (gcW 2 (some 11) rfl rfl (cu hS) (Qn h j q _ (H.on hS.fr.below) hj hl) ?_ gn)
 refine gp 3 (some 12) (.pointer (some ⟨q.b,0,none⟩)) rfl rfl (cu hS) ?_
 refine gp 4 (some 13) (.pointer (some ⟨q.b,8,none⟩)) rfl rfl (cu hS) ?_
 refine gq 5 (some 14) (.iface 70 (.agg #[])) rfl rfl (fun X hX=>ldM (Aj 102 isAgg102 rfl rfl ((H.on hX.fr.below).ob hj).1 rfl) hm) (cu hS) ?_
 refine gr (rs:= [9]) (gcB 9 (some 18) rfl rfl hS (Yb h j q k _ (H.on hS.fr.below) hl hj hk) (fun x=>cu x) ?_ gn)
 intro Y2 hq2
 refine gp 10 (some 19) ((getD q.T k).agg) rfl rfl (cu hq2) ?_
 refine gp 11 (some 20) (.bool (q.T.find k).isSome) rfl rfl (cu hq2) ?_
 refine gp 12 (some 21) (.nilIface) rfl rfl (cu hq2) ?_
 refine gr (rs:= [13]) (Na (vs:=(getD q.T k).cs) (new:=(getD q.T k).cs) 13 1 29 rfl rfl (by kernel_rfl) rfl rfl rfl rfl (Jg _) szD hq2 rfl (by simp[Dq,VV.cs,KK.cs,DD.cs,OB.cs,hcs,Bx,Bz]) (by simp[Dq,VV.cs,KK.cs,DD.cs,OB.cs,hcs,Bx,Bz]) (fun _ hZ=>cu hZ) ?_ gn)
 intro Y3 hq3
 refine gp 14 (some 7) (.bool (q.T.find k).isSome) rfl rfl (cu hq3) ?_
 refine gp 15 (some 8) (.nilIface) rfl rfl (cu hq3) ?_
 refine wpAnyH_done (by kernel_rfl) ?_ _
 try simp only[nn]
 have SS:=Ac hq3
 go_wp2
 refine bodyPost_ret (Nq rwD szD rfl rfl rfl rfl ((Aa SS).hold 1 rfl) rfl) rfl ?_
 exact⟨rfl,(Aa SS).fr.below⟩
theorem Zo (h:HP) (j:Nat) (q:OB) (k:KK) (w:World) (H:h.Is w) (hl:h.l.length<=65536) (hj:h.l[j]? =some q) (hk:OkK k):Calls prog 156 #[.pointer (some ⟨h.b,0,none⟩), .int .i64 ((j:Int)+1),k.agg] w fun e w'=>e= .returned (.tuple #[(getD q.T k).agg, .bool (q.T.find k).isSome, .nilIface])/\Below w.heap.size w w':=by
 cases hqm:q.m with
 |false=>exact own_o h j q k w H hl hj hk (by rw[hqm];rfl)
 |true=>exact own_a h j q k w H hl hj hk (by rw[hqm];rfl)
