import Derived.Test.YtieahhciibdnaaaGreatDoorQy
set_option linter.all false
namespace Go.Proofs.YtieahhciibdnaaaGreatDoor
set_option maxRecDepth 100000
set_option maxHeartbeats 0
section
open Go Go.Proofs Go.Maps Go.RowKit FM Tryz
attribute [local go_sem] Ak Ae Aq Dl Dk Bl Af Aj Ad Bj Et Es
def DefP (h:HP) (j:Nat) (q:OB) (k:KK) (d:DD) (h1:HP) (y:Bool):Prop:=y=ZaR q.x (getD q.T k) d/\((y=false/\h1=h)∨(y=true/\ ∃T':TT,h1=h.tab j q T'/\T'.last<=q.T.last+1/\pr T'=putP (pr q.T) k (Du q.x (getD q.T k) d)))
theorem Zau (T:TT) (k:KK) (d:DD) (w:World) (hT:T.Is w) (hU:Lib.Utf8Tabs 1 2 w) (hk:OkK k) (hl:T.last<4000000) (hTT: ∀b∈T.blocks,6<=b) (hg:goodK k=true):Calls prog 90 #[.pointer (some ⟨T.t,0,none⟩),k.agg,d.agg] w fun e w'=>e= .returned (.int .i64 0)/\ ∃T':TT,T'.Is w'/\T'.t=T.t/\Fr w w' T.blocks/\(∀b∈T'.blocks,b∈T.blocks∨w.heap.size<=b)/\PutT T k d T':=by
 refine(put12 T k d w hT hU hk hl (fun b hb=>Nat.le_trans (by decide) (hTT b hb))).mono (fun e w' hh=> ?_)
 obtain⟨h1,T',a,b,c,d2,e2⟩:=hh
 exact⟨by rw[h1,if_pos hg],T',a,b,c,d2,e2⟩
theorem Vt (h:HP) (j:Nat) (q:OB) (k:KK) (d:DD) (w:World) (H:h.Is w) (hl:h.l.length<=65536) (hj:h.l[j]? =some q) (hT:Tabs w) (hk:OkK k) (hg:goodK k=true) (hFn:FD (getD q.T k)) (hFd:FD d) (hlast:q.T.last<4000000):Calls prog 66 #[.agg #[], .pointer (some ⟨h.b,0,none⟩), .int .i64 ((j:Int)+1),k.agg,d.agg] w fun e w'=> ∃(h1:HP) (y:Bool),e= .returned (.tuple #[.bool y, .nilIface])/\DefP h j q k d h1 y/\h.To h1 w w':=by
 have HA:=fun (w:World) (hT:Tabs w)=>Zen q.x (getD q.T k) d hFn hFd w hT.1
 cases hb:ZaR q.x (getD q.T k) d with
 |false=>
  simp only[hb] at HA
  have SS:=Ab H.start
  rw[Dg,Lh]
  go_enter func66,ntmps66
  go_wp2_with (first|go_skip|((with_reducible show wpList ..);first|((refine bx0 85 (by rfl) rfl rfl (Aa SS) ?_);intro X0 B0 S0;replace SS:=Ab S0;clear S0;simp only[nn])|(refine zB 45 (k.cs) (by rfl) rfl rfl rfl SS ?_;clear SS;intro Xa Ba SS;simp only[nn])|(refine zB 48 (d.cs) (by rfl) rfl rfl rfl SS ?_;clear SS;intro Xb Bb SS;simp only[nn])))
  refine(Pf h j q _ ((Aa SS).hp 0 rfl) hj hl).mono ?_
  rintro _ _ ⟨rfl,rfl⟩
  go_wp2
  have hS2:Sy w _ h.blocks [hpO h,Ao Ba k.cs,Ao Bb d.cs]:=(Aa SS).drew
  clear SS
  have cu: ∀{X:World} {M:List Ob},Sy w X h.blocks ([hpO h,Ao Ba k.cs,Ao Bb d.cs]++M)->Sy w X h.blocks [hpO h,Ao Ba k.cs,Ao Bb d.cs]:=fun h=>Sy.left h
  refine wp_region_held_drew (P:=prog) (S:=fun X=>Sy w X h.blocks _) (by kernel_rfl) (hS2) (fun hS0=> ?_)
  refine gp 0 (some 22) (.pointer (some ⟨q.b,0,none⟩)) rfl rfl (hS2) ?_
  refine gp 1 (some 23) (.pointer (some ⟨q.b,0,none⟩)) rfl rfl (hS2) ?_
  refine gp 2 (some 24) (.pointer (some ⟨q.b,7,none⟩)) rfl rfl (hS2) ?_
  refine gq 3 (some 25) (.pointer (some ⟨q.T.t,0,none⟩)) rfl rfl (fun X hX=>Ag 121 isAgg121 rfl rfl ((hX.hp 0 rfl).ob hj).1 rfl) (hS2) ?_
  refine gq 4 (some 26) (.agg k.cs.toArray) rfl rfl (fun X hX=>Am (vs:=k.cs) 45 2 rwK szK rfl rfl (hX.hold 1 rfl) rfl rfl) (hS2) ?_
  refine gr (rs:= [5,9]) (gcB 5 (some 27) rfl rfl hS2 (Yb q.T k _ ((hS2.hp 0 rfl).ob hj).2.1 hk) id ?_ (Lg (v:= .agg (Ar.cs).toArray) 9 (some 13) 48 (Ar.cs) rfl rfl (by kernel_rfl) rfl (fun w=>by kernel_rfl) rfl (Nat.succ_pos _) hS2 (fun _ hZ=>cu hZ) ?_ gn))
  ·intro Ys1 hqs1
   refine gp 6 (some 21) (.tuple #[(getD q.T k).agg, .bool (q.T.find k).isSome]) rfl rfl (hqs1) ?_
   refine gp 7 (some 28) ((getD q.T k).agg) rfl rfl (hqs1) ?_
   refine gp 8 (some 29) (.bool (q.T.find k).isSome) rfl rfl (hqs1) ?_
   refine gr (rs:= [9]) (Lg (v:= .agg (Ar.cs).toArray) 9 (some 13) 48 (Ar.cs) rfl rfl (by kernel_rfl) rfl (fun w=>by kernel_rfl) rfl (Nat.succ_pos _) hqs1 (fun _ hZ=>cu hZ) ?_ gn)
   intro Ys2 Bs2 hEs2 hqs2
   clear hEs2
   simp only[nn]
   refine gr (rs:= [10]) (Jd (vs:=(getD q.T k).cs) (new:=(getD q.T k).cs) 10 3 48 rfl rfl (by kernel_rfl) rfl rfl rfl rfl (Gf _) szD hqs2 rfl (by simp[Bz,VV.cs,KK.cs,DD.cs,OB.cs,hcs,Ar,zeroV]) (by simp[Bz,VV.cs,KK.cs,DD.cs,OB.cs,hcs,Ar,zeroV]) (fun _ hZ=>cu hZ) ?_ gn)
   intro Ys3 hqs3
   refine gp 11 (some 14) (.bool (q.T.find k).isSome) rfl rfl (cu hqs3) ?_
   refine dn ?_
   try simp only[nn]
   have SS:=Ab hqs3
   go_wp2
   have hS3:Sy w _ h.blocks [hpO h,Ao Ba k.cs,Ao Bb d.cs,Ao Bs2 ((getD q.T k).cs)]:=(Aa SS).drew
   clear SS
   have cu: ∀{X:World} {M:List Ob},Sy w X h.blocks ([hpO h,Ao Ba k.cs,Ao Bb d.cs,Ao Bs2 ((getD q.T k).cs)]++M)->Sy w X h.blocks [hpO h,Ao Ba k.cs,Ao Bb d.cs,Ao Bs2 ((getD q.T k).cs)]:=fun h=>Sy.left h
   refine wp_region_held_drew (P:=prog) (S:=fun X=>Sy w X h.blocks _) (by kernel_rfl) (hS3) (fun hS0=> ?_)
   refine gp 0 (some 31) (.pointer (some ⟨q.b,0,none⟩)) rfl rfl (hS3) ?_
   refine gp 1 (some 32) (.pointer (some ⟨q.b,0,none⟩)) rfl rfl (hS3) ?_
   refine gp 2 (some 33) (.pointer (some ⟨q.b,6,none⟩)) rfl rfl (hS3) ?_
   refine gq 3 (some 34) (.bool q.x) rfl rfl (fun X hX=>Ag 4 isAgg4 rfl rfl ((hX.hp 0 rfl).ob hj).1 rfl) (hS3) ?_
   refine gq 4 (some 35) (.agg ((getD q.T k).cs).toArray) rfl rfl (fun X hX=>Am (vs:=(getD q.T k).cs) 48 18 rwD szD rfl rfl (hX.hold 3 rfl) rfl rfl) (hS3) ?_
   refine gq 5 (some 36) (.agg (d.cs).toArray) rfl rfl (fun X hX=>Am (vs:=d.cs) 48 18 rwD szD rfl rfl (hX.hold 2 rfl) rfl rfl) (hS3) ?_
   refine gr (rs:= [6,11]) (gcB 6 (some 37) rfl rfl hS3 (HA _ (hT.fr hS3.fr H.low)) id ?_ (Lg (v:= .agg (Ar.cs).toArray) 11 (some 15) 48 (Ar.cs) rfl rfl (by kernel_rfl) rfl (fun w=>by kernel_rfl) rfl (Nat.succ_pos _) hS3 (fun _ hZ=>cu hZ) ?_ gn))
   ·intro Yt1 hqt1
    refine gp 7 (some 30) (.tuple #[(Du q.x (getD q.T k) d).agg, .bool false, .int .i64 (Kh (getD q.T k) d)]) rfl rfl (hqt1) ?_
    refine gp 8 (some 38) ((Du q.x (getD q.T k) d).agg) rfl rfl (hqt1) ?_
    refine gp 9 (some 39) (.bool false) rfl rfl (hqt1) ?_
    refine gp 10 (some 40) (.int .i64 (Kh (getD q.T k) d)) rfl rfl (hqt1) ?_
    refine gr (rs:= [11]) (Lg (v:= .agg (Ar.cs).toArray) 11 (some 15) 48 (Ar.cs) rfl rfl (by kernel_rfl) rfl (fun w=>by kernel_rfl) rfl (Nat.succ_pos _) hqt1 (fun _ hZ=>cu hZ) ?_ gn)
    intro Yt2 Bt2 hEt2 hqt2
    clear hEt2
    simp only[nn]
    refine gr (rs:= [12]) (Jd (vs:=(Du q.x (getD q.T k) d).cs) (new:=(Du q.x (getD q.T k) d).cs) 12 4 48 rfl rfl (by kernel_rfl) rfl rfl rfl rfl (Gf _) szD hqt2 rfl (by simp[Bz,VV.cs,KK.cs,DD.cs,OB.cs,hcs,Ar,zeroV]) (by simp[Bz,VV.cs,KK.cs,DD.cs,OB.cs,hcs,Ar,zeroV]) (fun _ hZ=>cu hZ) ?_ gn)
    intro Yt3 hqt3
    refine gp 13 (some 16) (.bool false) rfl rfl (cu hqt3) ?_
    refine gp 14 (some 17) (.int .i64 (Kh (getD q.T k) d)) rfl rfl (cu hqt3) ?_
    refine dn ?_
    try simp only[nn]
    have SS:=Ab hqt3
    go_wp2
    go_ret2
    exact⟨h,false,rfl,⟨hb.symm, .inl ⟨rfl,rfl⟩⟩,HP.To.end H (Aa SS) rfl⟩
   ·intro Yt4 Bt4 hEt4 hqt4
    clear hEt4
    simp only[nn]
    refine gr (rs:= [6]) (gcB 6 (some 37) rfl rfl hqt4 (HA _ (hT.fr hqt4.fr H.low)) (fun x=>cu x) ?_ gn)
    intro Yt5 hqt5
    refine gp 7 (some 30) (.tuple #[(Du q.x (getD q.T k) d).agg, .bool false, .int .i64 (Kh (getD q.T k) d)]) rfl rfl (cu hqt5) ?_
    refine gp 8 (some 38) ((Du q.x (getD q.T k) d).agg) rfl rfl (cu hqt5) ?_
    refine gp 9 (some 39) (.bool false) rfl rfl (cu hqt5) ?_
    refine gp 10 (some 40) (.int .i64 (Kh (getD q.T k) d)) rfl rfl (cu hqt5) ?_
    refine gr (rs:= [12]) (Jd (vs:=(Du q.x (getD q.T k) d).cs) (new:=(Du q.x (getD q.T k) d).cs) 12 4 48 rfl rfl (by kernel_rfl) rfl rfl rfl rfl (Gf _) szD hqt5 rfl (by simp[Bz,VV.cs,KK.cs,DD.cs,OB.cs,hcs,Ar,zeroV]) (by simp[Bz,VV.cs,KK.cs,DD.cs,OB.cs,hcs,Ar,zeroV]) (fun _ hZ=>cu hZ) ?_ gn)
    intro Yt6 hqt6
    refine gp 13 (some 16) (.bool false) rfl rfl (cu hqt6) ?_
    refine gp 14 (some 17) (.int .i64 (Kh (getD q.T k) d)) rfl rfl (cu hqt6) ?_
    refine dn ?_
    try simp only[nn]
    have SS:=Ab hqt6
    go_wp2
    go_ret2
    exact⟨h,false,rfl,⟨hb.symm, .inl ⟨rfl,rfl⟩⟩,HP.To.end H (Aa SS) rfl⟩
  ·intro Ys4 Bs4 hEs4 hqs4
   clear hEs4
   simp only[nn]
   refine gr (rs:= [5]) (gcB 5 (some 27) rfl rfl hqs4 (Yb q.T k _ ((hqs4.hp 0 rfl).ob hj).2.1 hk) (fun x=>cu x) ?_ gn)
   intro Ys5 hqs5
   refine gp 6 (some 21) (.tuple #[(getD q.T k).agg, .bool (q.T.find k).isSome]) rfl rfl (cu hqs5) ?_
   refine gp 7 (some 28) ((getD q.T k).agg) rfl rfl (cu hqs5) ?_
   refine gp 8 (some 29) (.bool (q.T.find k).isSome) rfl rfl (cu hqs5) ?_
   refine gr (rs:= [10]) (Jd (vs:=(getD q.T k).cs) (new:=(getD q.T k).cs) 10 3 48 rfl rfl (by kernel_rfl) rfl rfl rfl rfl (Gf _) szD hqs5 rfl (by simp[Bz,VV.cs,KK.cs,DD.cs,OB.cs,hcs,Ar,zeroV]) (by simp[Bz,VV.cs,KK.cs,DD.cs,OB.cs,hcs,Ar,zeroV]) (fun _ hZ=>cu hZ) ?_ gn)
   intro Ys6 hqs6
   refine gp 11 (some 14) (.bool (q.T.find k).isSome) rfl rfl (cu hqs6) ?_
   refine dn ?_
   try simp only[nn]
   have SS:=Ab hqs6
   go_wp2
   have hS3:Sy w _ h.blocks [hpO h,Ao Ba k.cs,Ao Bb d.cs,Ao Bs4 ((getD q.T k).cs)]:=(Aa SS).drew
   clear SS
   have cu: ∀{X:World} {M:List Ob},Sy w X h.blocks ([hpO h,Ao Ba k.cs,Ao Bb d.cs,Ao Bs4 ((getD q.T k).cs)]++M)->Sy w X h.blocks [hpO h,Ao Ba k.cs,Ao Bb d.cs,Ao Bs4 ((getD q.T k).cs)]:=fun h=>Sy.left h
   refine wp_region_held_drew (P:=prog) (S:=fun X=>Sy w X h.blocks _) (by kernel_rfl) (hS3) (fun hS0=> ?_)
   refine gp 0 (some 31) (.pointer (some ⟨q.b,0,none⟩)) rfl rfl (hS3) ?_
   refine gp 1 (some 32) (.pointer (some ⟨q.b,0,none⟩)) rfl rfl (hS3) ?_
   refine gp 2 (some 33) (.pointer (some ⟨q.b,6,none⟩)) rfl rfl (hS3) ?_
   refine gq 3 (some 34) (.bool q.x) rfl rfl (fun X hX=>Ag 4 isAgg4 rfl rfl ((hX.hp 0 rfl).ob hj).1 rfl) (hS3) ?_
   refine gq 4 (some 35) (.agg ((getD q.T k).cs).toArray) rfl rfl (fun X hX=>Am (vs:=(getD q.T k).cs) 48 18 rwD szD rfl rfl (hX.hold 3 rfl) rfl rfl) (hS3) ?_
   refine gq 5 (some 36) (.agg (d.cs).toArray) rfl rfl (fun X hX=>Am (vs:=d.cs) 48 18 rwD szD rfl rfl (hX.hold 2 rfl) rfl rfl) (hS3) ?_
   refine gr (rs:= [6,11]) (gcB 6 (some 37) rfl rfl hS3 (HA _ (hT.fr hS3.fr H.low)) id ?_ (Lg (v:= .agg (Ar.cs).toArray) 11 (some 15) 48 (Ar.cs) rfl rfl (by kernel_rfl) rfl (fun w=>by kernel_rfl) rfl (Nat.succ_pos _) hS3 (fun _ hZ=>cu hZ) ?_ gn))
   ·intro Yt1 hqt1
    refine gp 7 (some 30) (.tuple #[(Du q.x (getD q.T k) d).agg, .bool false, .int .i64 (Kh (getD q.T k) d)]) rfl rfl (hqt1) ?_
    refine gp 8 (some 38) ((Du q.x (getD q.T k) d).agg) rfl rfl (hqt1) ?_
    refine gp 9 (some 39) (.bool false) rfl rfl (hqt1) ?_
    refine gp 10 (some 40) (.int .i64 (Kh (getD q.T k) d)) rfl rfl (hqt1) ?_
    refine gr (rs:= [11]) (Lg (v:= .agg (Ar.cs).toArray) 11 (some 15) 48 (Ar.cs) rfl rfl (by kernel_rfl) rfl (fun w=>by kernel_rfl) rfl (Nat.succ_pos _) hqt1 (fun _ hZ=>cu hZ) ?_ gn)
    intro Yt2 Bt2 hEt2 hqt2
    clear hEt2
    simp only[nn]
    refine gr (rs:= [12]) (Jd (vs:=(Du q.x (getD q.T k) d).cs) (new:=(Du q.x (getD q.T k) d).cs) 12 4 48 rfl rfl (by kernel_rfl) rfl rfl rfl rfl (Gf _) szD hqt2 rfl (by simp[Bz,VV.cs,KK.cs,DD.cs,OB.cs,hcs,Ar,zeroV]) (by simp[Bz,VV.cs,KK.cs,DD.cs,OB.cs,hcs,Ar,zeroV]) (fun _ hZ=>cu hZ) ?_ gn)
    intro Yt3 hqt3
    refine gp 13 (some 16) (.bool false) rfl rfl (cu hqt3) ?_
    refine gp 14 (some 17) (.int .i64 (Kh (getD q.T k) d)) rfl rfl (cu hqt3) ?_
    refine dn ?_
    try simp only[nn]
    have SS:=Ab hqt3
    go_wp2
    go_ret2
    exact⟨h,false,rfl,⟨hb.symm, .inl ⟨rfl,rfl⟩⟩,HP.To.end H (Aa SS) rfl⟩
   ·intro Yt4 Bt4 hEt4 hqt4
    clear hEt4
    simp only[nn]
    refine gr (rs:= [6]) (gcB 6 (some 37) rfl rfl hqt4 (HA _ (hT.fr hqt4.fr H.low)) (fun x=>cu x) ?_ gn)
    intro Yt5 hqt5
    refine gp 7 (some 30) (.tuple #[(Du q.x (getD q.T k) d).agg, .bool false, .int .i64 (Kh (getD q.T k) d)]) rfl rfl (cu hqt5) ?_
    refine gp 8 (some 38) ((Du q.x (getD q.T k) d).agg) rfl rfl (cu hqt5) ?_
    refine gp 9 (some 39) (.bool false) rfl rfl (cu hqt5) ?_
    refine gp 10 (some 40) (.int .i64 (Kh (getD q.T k) d)) rfl rfl (cu hqt5) ?_
    refine gr (rs:= [12]) (Jd (vs:=(Du q.x (getD q.T k) d).cs) (new:=(Du q.x (getD q.T k) d).cs) 12 4 48 rfl rfl (by kernel_rfl) rfl rfl rfl rfl (Gf _) szD hqt5 rfl (by simp[Bz,VV.cs,KK.cs,DD.cs,OB.cs,hcs,Ar,zeroV]) (by simp[Bz,VV.cs,KK.cs,DD.cs,OB.cs,hcs,Ar,zeroV]) (fun _ hZ=>cu hZ) ?_ gn)
    intro Yt6 hqt6
    refine gp 13 (some 16) (.bool false) rfl rfl (cu hqt6) ?_
    refine gp 14 (some 17) (.int .i64 (Kh (getD q.T k) d)) rfl rfl (cu hqt6) ?_
    refine dn ?_
    try simp only[nn]
    have SS:=Ab hqt6
    go_wp2
    go_ret2
    exact⟨h,false,rfl,⟨hb.symm, .inl ⟨rfl,rfl⟩⟩,HP.To.end H (Aa SS) rfl⟩
 |true=>
  simp only[hb] at HA
  have SS:=Ab H.start
  rw[Dg,Lh]
  go_enter func66,ntmps66
  go_wp2_with (first|go_skip|((with_reducible show wpList ..);first|((refine bx0 85 (by rfl) rfl rfl (Aa SS) ?_);intro X0 B0 S0;replace SS:=Ab S0;clear S0;simp only[nn])|(refine zB 45 (k.cs) (by rfl) rfl rfl rfl SS ?_;clear SS;intro Xa Ba SS;simp only[nn])|(refine zB 48 (d.cs) (by rfl) rfl rfl rfl SS ?_;clear SS;intro Xb Bb SS;simp only[nn])))
  refine(Pf h j q _ ((Aa SS).hp 0 rfl) hj hl).mono ?_
  rintro _ _ ⟨rfl,rfl⟩
  go_wp2
  have hS2:Sy w _ h.blocks [hpO h,Ao Ba k.cs,Ao Bb d.cs]:=(Aa SS).drew
  clear SS
  have cu: ∀{X:World} {M:List Ob},Sy w X h.blocks ([hpO h,Ao Ba k.cs,Ao Bb d.cs]++M)->Sy w X h.blocks [hpO h,Ao Ba k.cs,Ao Bb d.cs]:=fun h=>Sy.left h
  refine wp_region_held_drew (P:=prog) (S:=fun X=>Sy w X h.blocks _) (by kernel_rfl) (hS2) (fun hS0=> ?_)
  refine gp 0 (some 22) (.pointer (some ⟨q.b,0,none⟩)) rfl rfl (hS2) ?_
  refine gp 1 (some 23) (.pointer (some ⟨q.b,0,none⟩)) rfl rfl (hS2) ?_
  refine gp 2 (some 24) (.pointer (some ⟨q.b,7,none⟩)) rfl rfl (hS2) ?_
  refine gq 3 (some 25) (.pointer (some ⟨q.T.t,0,none⟩)) rfl rfl (fun X hX=>Ag 121 isAgg121 rfl rfl ((hX.hp 0 rfl).ob hj).1 rfl) (hS2) ?_
  refine gq 4 (some 26) (.agg k.cs.toArray) rfl rfl (fun X hX=>Am (vs:=k.cs) 45 2 rwK szK rfl rfl (hX.hold 1 rfl) rfl rfl) (hS2) ?_
  refine gr (rs:= [5,9]) (gcB 5 (some 27) rfl rfl hS2 (Yb q.T k _ ((hS2.hp 0 rfl).ob hj).2.1 hk) id ?_ (Lg (v:= .agg (Ar.cs).toArray) 9 (some 13) 48 (Ar.cs) rfl rfl (by kernel_rfl) rfl (fun w=>by kernel_rfl) rfl (Nat.succ_pos _) hS2 (fun _ hZ=>cu hZ) ?_ gn))
  ·intro Ys1 hqs1
   refine gp 6 (some 21) (.tuple #[(getD q.T k).agg, .bool (q.T.find k).isSome]) rfl rfl (hqs1) ?_
   refine gp 7 (some 28) ((getD q.T k).agg) rfl rfl (hqs1) ?_
   refine gp 8 (some 29) (.bool (q.T.find k).isSome) rfl rfl (hqs1) ?_
   refine gr (rs:= [9]) (Lg (v:= .agg (Ar.cs).toArray) 9 (some 13) 48 (Ar.cs) rfl rfl (by kernel_rfl) rfl (fun w=>by kernel_rfl) rfl (Nat.succ_pos _) hqs1 (fun _ hZ=>cu hZ) ?_ gn)
   intro Ys2 Bs2 hEs2 hqs2
   clear hEs2
   simp only[nn]
   refine gr (rs:= [10]) (Jd (vs:=(getD q.T k).cs) (new:=(getD q.T k).cs) 10 3 48 rfl rfl (by kernel_rfl) rfl rfl rfl rfl (Gf _) szD hqs2 rfl (by simp[Bz,VV.cs,KK.cs,DD.cs,OB.cs,hcs,Ar,zeroV]) (by simp[Bz,VV.cs,KK.cs,DD.cs,OB.cs,hcs,Ar,zeroV]) (fun _ hZ=>cu hZ) ?_ gn)
   intro Ys3 hqs3
   refine gp 11 (some 14) (.bool (q.T.find k).isSome) rfl rfl (cu hqs3) ?_
   refine dn ?_
   try simp only[nn]
   have SS:=Ab hqs3
   go_wp2
   have hS3:Sy w _ h.blocks [hpO h,Ao Ba k.cs,Ao Bb d.cs,Ao Bs2 ((getD q.T k).cs)]:=(Aa SS).drew
   clear SS
   have cu: ∀{X:World} {M:List Ob},Sy w X h.blocks ([hpO h,Ao Ba k.cs,Ao Bb d.cs,Ao Bs2 ((getD q.T k).cs)]++M)->Sy w X h.blocks [hpO h,Ao Ba k.cs,Ao Bb d.cs,Ao Bs2 ((getD q.T k).cs)]:=fun h=>Sy.left h
   refine wp_region_held_drew (P:=prog) (S:=fun X=>Sy w X h.blocks _) (by kernel_rfl) (hS3) (fun hS0=> ?_)
   refine gp 0 (some 31) (.pointer (some ⟨q.b,0,none⟩)) rfl rfl (hS3) ?_
   refine gp 1 (some 32) (.pointer (some ⟨q.b,0,none⟩)) rfl rfl (hS3) ?_
   refine gp 2 (some 33) (.pointer (some ⟨q.b,6,none⟩)) rfl rfl (hS3) ?_
   refine gq 3 (some 34) (.bool q.x) rfl rfl (fun X hX=>Ag 4 isAgg4 rfl rfl ((hX.hp 0 rfl).ob hj).1 rfl) (hS3) ?_
   refine gq 4 (some 35) (.agg ((getD q.T k).cs).toArray) rfl rfl (fun X hX=>Am (vs:=(getD q.T k).cs) 48 18 rwD szD rfl rfl (hX.hold 3 rfl) rfl rfl) (hS3) ?_
   refine gq 5 (some 36) (.agg (d.cs).toArray) rfl rfl (fun X hX=>Am (vs:=d.cs) 48 18 rwD szD rfl rfl (hX.hold 2 rfl) rfl rfl) (hS3) ?_
   refine gr (rs:= [6,11]) (gcB 6 (some 37) rfl rfl hS3 (HA _ (hT.fr hS3.fr H.low)) id ?_ (Lg (v:= .agg (Ar.cs).toArray) 11 (some 15) 48 (Ar.cs) rfl rfl (by kernel_rfl) rfl (fun w=>by kernel_rfl) rfl (Nat.succ_pos _) hS3 (fun _ hZ=>cu hZ) ?_ gn))
   ·intro Yt1 hqt1
    refine gp 7 (some 30) (.tuple #[(Du q.x (getD q.T k) d).agg, .bool true, .int .i64 (Kh (getD q.T k) d)]) rfl rfl (hqt1) ?_
    refine gp 8 (some 38) ((Du q.x (getD q.T k) d).agg) rfl rfl (hqt1) ?_
    refine gp 9 (some 39) (.bool true) rfl rfl (hqt1) ?_
    refine gp 10 (some 40) (.int .i64 (Kh (getD q.T k) d)) rfl rfl (hqt1) ?_
    refine gr (rs:= [11]) (Lg (v:= .agg (Ar.cs).toArray) 11 (some 15) 48 (Ar.cs) rfl rfl (by kernel_rfl) rfl (fun w=>by kernel_rfl) rfl (Nat.succ_pos _) hqt1 (fun _ hZ=>cu hZ) ?_ gn)
    intro Yt2 Bt2 hEt2 hqt2
    clear hEt2
    simp only[nn]
    refine gr (rs:= [12]) (Jd (vs:=(Du q.x (getD q.T k) d).cs) (new:=(Du q.x (getD q.T k) d).cs) 12 4 48 rfl rfl (by kernel_rfl) rfl rfl rfl rfl (Gf _) szD hqt2 rfl (by simp[Bz,VV.cs,KK.cs,DD.cs,OB.cs,hcs,Ar,zeroV]) (by simp[Bz,VV.cs,KK.cs,DD.cs,OB.cs,hcs,Ar,zeroV]) (fun _ hZ=>cu hZ) ?_ gn)
    intro Yt3 hqt3
    refine gp 13 (some 16) (.bool true) rfl rfl (cu hqt3) ?_
    refine gp 14 (some 17) (.int .i64 (Kh (getD q.T k) d)) rfl rfl (cu hqt3) ?_
    refine dn ?_
    try simp only[nn]
    have SS:=Ab hqt3
    go_wp2
    have hS5:Sy w _ h.blocks [hpO h,Ao Ba k.cs,Ao Bb d.cs,Ao Bs2 ((getD q.T k).cs),Ao Bt2 ((Du q.x (getD q.T k) d).cs)]:=(Aa SS).drew
    clear SS
    refine wp_region_held_drew (P:=prog) (S:=fun X=>Holds X q.b q.cs/\Holds X Ba k.cs/\Holds X Bt2 ((Du q.x (getD q.T k) d).cs)) (by kernel_rfl) (⟨((hS5.hp 0 rfl).ob hj).1,hS5.hold 1 rfl,hS5.hold 4 rfl⟩) (fun hS0=> ?_)
    refine gp 0 (some 42) (.pointer (some ⟨q.b,0,none⟩)) rfl rfl (⟨((hS5.hp 0 rfl).ob hj).1,hS5.hold 1 rfl,hS5.hold 4 rfl⟩) ?_
    refine gp 1 (some 43) (.pointer (some ⟨q.b,0,none⟩)) rfl rfl (⟨((hS5.hp 0 rfl).ob hj).1,hS5.hold 1 rfl,hS5.hold 4 rfl⟩) ?_
    refine gp 2 (some 44) (.pointer (some ⟨q.b,7,none⟩)) rfl rfl (⟨((hS5.hp 0 rfl).ob hj).1,hS5.hold 1 rfl,hS5.hold 4 rfl⟩) ?_
    refine gq 3 (some 45) (.pointer (some ⟨q.T.t,0,none⟩)) rfl rfl (fun X hX=>Ag 121 isAgg121 rfl rfl hX.1 rfl) (⟨((hS5.hp 0 rfl).ob hj).1,hS5.hold 1 rfl,hS5.hold 4 rfl⟩) ?_
    refine gq 4 (some 46) (.agg k.cs.toArray) rfl rfl (fun X hX=>Am (vs:=k.cs) 45 2 rwK szK rfl rfl hX.2.1 rfl rfl) (⟨((hS5.hp 0 rfl).ob hj).1,hS5.hold 1 rfl,hS5.hold 4 rfl⟩) ?_
    refine gq 5 (some 47) (.agg ((Du q.x (getD q.T k) d).cs).toArray) rfl rfl (fun X hX=>Am (vs:=(Du q.x (getD q.T k) d).cs) 48 18 rwD szD rfl rfl hX.2.2 rfl rfl) (⟨((hS5.hp 0 rfl).ob hj).1,hS5.hold 1 rfl,hS5.hold 4 rfl⟩) ?_
    refine gr (rs:= [6]) (gc 6 (some 48) rfl rfl (Zau q.T k (Du q.x (getD q.T k) d) _ ((hS5.hp 0 rfl).ob hj).2.1 (hT.fr hS5.fr H.low).1 hk hlast (fun b hb=>by have:=(hS5.hp 0 rfl).low_tab hj b hb;omega) hg) ?_ gn)
    rintro e Yp1 ⟨rfl,T',hT2,ht2,hf2,hs2,hPT⟩
    have hI0:=hS5.hp 0 rfl
    have hO:=(hI0.ob hj).1.block (hf2.block _ ((hI0.ob hj).1.lt (by rw[Km];omega)) (hI0.ob hj).2.2)
    have HTI:=Ab (hI0.ob hj).2.1
    have hqp:=Sy.heap hS5 0 rfl (hI0.table hj hT2 ht2 hf2 hs2)
    refine⟨_,rfl,⟨hO,hqp.hold 1 rfl,hqp.hold 4 rfl⟩, ?_⟩
    refine dn ?_
    try simp only[nn]
    have SS:=Ab hqp
    go_wp2
    go_ret2
    exact⟨h.tab j q T',true,rfl,⟨hb.symm, .inr ⟨rfl,T',rfl,hPT.last,Zav (Aa HTI) hg hPT⟩⟩,HP.To.end H (Aa SS) rfl⟩
   ·intro Yt4 Bt4 hEt4 hqt4
    clear hEt4
    simp only[nn]
    refine gr (rs:= [6]) (gcB 6 (some 37) rfl rfl hqt4 (HA _ (hT.fr hqt4.fr H.low)) (fun x=>cu x) ?_ gn)
    intro Yt5 hqt5
    refine gp 7 (some 30) (.tuple #[(Du q.x (getD q.T k) d).agg, .bool true, .int .i64 (Kh (getD q.T k) d)]) rfl rfl (cu hqt5) ?_
    refine gp 8 (some 38) ((Du q.x (getD q.T k) d).agg) rfl rfl (cu hqt5) ?_
    refine gp 9 (some 39) (.bool true) rfl rfl (cu hqt5) ?_
    refine gp 10 (some 40) (.int .i64 (Kh (getD q.T k) d)) rfl rfl (cu hqt5) ?_
    refine gr (rs:= [12]) (Jd (vs:=(Du q.x (getD q.T k) d).cs) (new:=(Du q.x (getD q.T k) d).cs) 12 4 48 rfl rfl (by kernel_rfl) rfl rfl rfl rfl (Gf _) szD hqt5 rfl (by simp[Bz,VV.cs,KK.cs,DD.cs,OB.cs,hcs,Ar,zeroV]) (by simp[Bz,VV.cs,KK.cs,DD.cs,OB.cs,hcs,Ar,zeroV]) (fun _ hZ=>cu hZ) ?_ gn)
    intro Yt6 hqt6
    refine gp 13 (some 16) (.bool true) rfl rfl (cu hqt6) ?_
    refine gp 14 (some 17) (.int .i64 (Kh (getD q.T k) d)) rfl rfl (cu hqt6) ?_
    refine dn ?_
    try simp only[nn]
    have SS:=Ab hqt6
    go_wp2
    have hS5:Sy w _ h.blocks [hpO h,Ao Ba k.cs,Ao Bb d.cs,Ao Bs2 ((getD q.T k).cs),Ao Bt4 ((Du q.x (getD q.T k) d).cs)]:=(Aa SS).drew
    clear SS
    refine wp_region_held_drew (P:=prog) (S:=fun X=>Holds X q.b q.cs/\Holds X Ba k.cs/\Holds X Bt4 ((Du q.x (getD q.T k) d).cs)) (by kernel_rfl) (⟨((hS5.hp 0 rfl).ob hj).1,hS5.hold 1 rfl,hS5.hold 4 rfl⟩) (fun hS0=> ?_)
    refine gp 0 (some 42) (.pointer (some ⟨q.b,0,none⟩)) rfl rfl (⟨((hS5.hp 0 rfl).ob hj).1,hS5.hold 1 rfl,hS5.hold 4 rfl⟩) ?_
    refine gp 1 (some 43) (.pointer (some ⟨q.b,0,none⟩)) rfl rfl (⟨((hS5.hp 0 rfl).ob hj).1,hS5.hold 1 rfl,hS5.hold 4 rfl⟩) ?_
    refine gp 2 (some 44) (.pointer (some ⟨q.b,7,none⟩)) rfl rfl (⟨((hS5.hp 0 rfl).ob hj).1,hS5.hold 1 rfl,hS5.hold 4 rfl⟩) ?_
    refine gq 3 (some 45) (.pointer (some ⟨q.T.t,0,none⟩)) rfl rfl (fun X hX=>Ag 121 isAgg121 rfl rfl hX.1 rfl) (⟨((hS5.hp 0 rfl).ob hj).1,hS5.hold 1 rfl,hS5.hold 4 rfl⟩) ?_
    refine gq 4 (some 46) (.agg k.cs.toArray) rfl rfl (fun X hX=>Am (vs:=k.cs) 45 2 rwK szK rfl rfl hX.2.1 rfl rfl) (⟨((hS5.hp 0 rfl).ob hj).1,hS5.hold 1 rfl,hS5.hold 4 rfl⟩) ?_
    refine gq 5 (some 47) (.agg ((Du q.x (getD q.T k) d).cs).toArray) rfl rfl (fun X hX=>Am (vs:=(Du q.x (getD q.T k) d).cs) 48 18 rwD szD rfl rfl hX.2.2 rfl rfl) (⟨((hS5.hp 0 rfl).ob hj).1,hS5.hold 1 rfl,hS5.hold 4 rfl⟩) ?_
    refine gr (rs:= [6]) (gc 6 (some 48) rfl rfl (Zau q.T k (Du q.x (getD q.T k) d) _ ((hS5.hp 0 rfl).ob hj).2.1 (hT.fr hS5.fr H.low).1 hk hlast (fun b hb=>by have:=(hS5.hp 0 rfl).low_tab hj b hb;omega) hg) ?_ gn)
    rintro e Yp1 ⟨rfl,T',hT2,ht2,hf2,hs2,hPT⟩
    have hI0:=hS5.hp 0 rfl
    have hO:=(hI0.ob hj).1.block (hf2.block _ ((hI0.ob hj).1.lt (by rw[Km];omega)) (hI0.ob hj).2.2)
    have HTI:=Ab (hI0.ob hj).2.1
    have hqp:=Sy.heap hS5 0 rfl (hI0.table hj hT2 ht2 hf2 hs2)
    refine⟨_,rfl,⟨hO,hqp.hold 1 rfl,hqp.hold 4 rfl⟩, ?_⟩
    refine dn ?_
    try simp only[nn]
    have SS:=Ab hqp
    go_wp2
    go_ret2
    exact⟨h.tab j q T',true,rfl,⟨hb.symm, .inr ⟨rfl,T',rfl,hPT.last,Zav (Aa HTI) hg hPT⟩⟩,HP.To.end H (Aa SS) rfl⟩
  ·intro Ys4 Bs4 hEs4 hqs4
   clear hEs4
   simp only[nn]
   refine gr (rs:= [5]) (gcB 5 (some 27) rfl rfl hqs4 (Yb q.T k _ ((hqs4.hp 0 rfl).ob hj).2.1 hk) (fun x=>cu x) ?_ gn)
   intro Ys5 hqs5
   refine gp 6 (some 21) (.tuple #[(getD q.T k).agg, .bool (q.T.find k).isSome]) rfl rfl (cu hqs5) ?_
   refine gp 7 (some 28) ((getD q.T k).agg) rfl rfl (cu hqs5) ?_
   refine gp 8 (some 29) (.bool (q.T.find k).isSome) rfl rfl (cu hqs5) ?_
   refine gr (rs:= [10]) (Jd (vs:=(getD q.T k).cs) (new:=(getD q.T k).cs) 10 3 48 rfl rfl (by kernel_rfl) rfl rfl rfl rfl (Gf _) szD hqs5 rfl (by simp[Bz,VV.cs,KK.cs,DD.cs,OB.cs,hcs,Ar,zeroV]) (by simp[Bz,VV.cs,KK.cs,DD.cs,OB.cs,hcs,Ar,zeroV]) (fun _ hZ=>cu hZ) ?_ gn)
   intro Ys6 hqs6
   refine gp 11 (some 14) (.bool (q.T.find k).isSome) rfl rfl (cu hqs6) ?_
   refine dn ?_
   try simp only[nn]
   have SS:=Ab hqs6
   go_wp2
   have hS3:Sy w _ h.blocks [hpO h,Ao Ba k.cs,Ao Bb d.cs,Ao Bs4 ((getD q.T k).cs)]:=(Aa SS).drew
   clear SS
   have cu: ∀{X:World} {M:List Ob},Sy w X h.blocks ([hpO h,Ao Ba k.cs,Ao Bb d.cs,Ao Bs4 ((getD q.T k).cs)]++M)->Sy w X h.blocks [hpO h,Ao Ba k.cs,Ao Bb d.cs,Ao Bs4 ((getD q.T k).cs)]:=fun h=>Sy.left h
   refine wp_region_held_drew (P:=prog) (S:=fun X=>Sy w X h.blocks _) (by kernel_rfl) (hS3) (fun hS0=> ?_)
   refine gp 0 (some 31) (.pointer (some ⟨q.b,0,none⟩)) rfl rfl (hS3) ?_
   refine gp 1 (some 32) (.pointer (some ⟨q.b,0,none⟩)) rfl rfl (hS3) ?_
   refine gp 2 (some 33) (.pointer (some ⟨q.b,6,none⟩)) rfl rfl (hS3) ?_
   refine gq 3 (some 34) (.bool q.x) rfl rfl (fun X hX=>Ag 4 isAgg4 rfl rfl ((hX.hp 0 rfl).ob hj).1 rfl) (hS3) ?_
   refine gq 4 (some 35) (.agg ((getD q.T k).cs).toArray) rfl rfl (fun X hX=>Am (vs:=(getD q.T k).cs) 48 18 rwD szD rfl rfl (hX.hold 3 rfl) rfl rfl) (hS3) ?_
   refine gq 5 (some 36) (.agg (d.cs).toArray) rfl rfl (fun X hX=>Am (vs:=d.cs) 48 18 rwD szD rfl rfl (hX.hold 2 rfl) rfl rfl) (hS3) ?_
   refine gr (rs:= [6,11]) (gcB 6 (some 37) rfl rfl hS3 (HA _ (hT.fr hS3.fr H.low)) id ?_ (Lg (v:= .agg (Ar.cs).toArray) 11 (some 15) 48 (Ar.cs) rfl rfl (by kernel_rfl) rfl (fun w=>by kernel_rfl) rfl (Nat.succ_pos _) hS3 (fun _ hZ=>cu hZ) ?_ gn))
   ·intro Yt1 hqt1
    refine gp 7 (some 30) (.tuple #[(Du q.x (getD q.T k) d).agg, .bool true, .int .i64 (Kh (getD q.T k) d)]) rfl rfl (hqt1) ?_
    refine gp 8 (some 38) ((Du q.x (getD q.T k) d).agg) rfl rfl (hqt1) ?_
    refine gp 9 (some 39) (.bool true) rfl rfl (hqt1) ?_
    refine gp 10 (some 40) (.int .i64 (Kh (getD q.T k) d)) rfl rfl (hqt1) ?_
    refine gr (rs:= [11]) (Lg (v:= .agg (Ar.cs).toArray) 11 (some 15) 48 (Ar.cs) rfl rfl (by kernel_rfl) rfl (fun w=>by kernel_rfl) rfl (Nat.succ_pos _) hqt1 (fun _ hZ=>cu hZ) ?_ gn)
    intro Yt2 Bt2 hEt2 hqt2
    clear hEt2
    simp only[nn]
    refine gr (rs:= [12]) (Jd (vs:=(Du q.x (getD q.T k) d).cs) (new:=(Du q.x (getD q.T k) d).cs) 12 4 48 rfl rfl (by kernel_rfl) rfl rfl rfl rfl (Gf _) szD hqt2 rfl (by simp[Bz,VV.cs,KK.cs,DD.cs,OB.cs,hcs,Ar,zeroV]) (by simp[Bz,VV.cs,KK.cs,DD.cs,OB.cs,hcs,Ar,zeroV]) (fun _ hZ=>cu hZ) ?_ gn)
    intro Yt3 hqt3
    refine gp 13 (some 16) (.bool true) rfl rfl (cu hqt3) ?_
    refine gp 14 (some 17) (.int .i64 (Kh (getD q.T k) d)) rfl rfl (cu hqt3) ?_
    refine dn ?_
    try simp only[nn]
    have SS:=Ab hqt3
    go_wp2
    have hS5:Sy w _ h.blocks [hpO h,Ao Ba k.cs,Ao Bb d.cs,Ao Bs4 ((getD q.T k).cs),Ao Bt2 ((Du q.x (getD q.T k) d).cs)]:=(Aa SS).drew
    clear SS
    refine wp_region_held_drew (P:=prog) (S:=fun X=>Holds X q.b q.cs/\Holds X Ba k.cs/\Holds X Bt2 ((Du q.x (getD q.T k) d).cs)) (by kernel_rfl) (⟨((hS5.hp 0 rfl).ob hj).1,hS5.hold 1 rfl,hS5.hold 4 rfl⟩) (fun hS0=> ?_)
    refine gp 0 (some 42) (.pointer (some ⟨q.b,0,none⟩)) rfl rfl (⟨((hS5.hp 0 rfl).ob hj).1,hS5.hold 1 rfl,hS5.hold 4 rfl⟩) ?_
    refine gp 1 (some 43) (.pointer (some ⟨q.b,0,none⟩)) rfl rfl (⟨((hS5.hp 0 rfl).ob hj).1,hS5.hold 1 rfl,hS5.hold 4 rfl⟩) ?_
    refine gp 2 (some 44) (.pointer (some ⟨q.b,7,none⟩)) rfl rfl (⟨((hS5.hp 0 rfl).ob hj).1,hS5.hold 1 rfl,hS5.hold 4 rfl⟩) ?_
    refine gq 3 (some 45) (.pointer (some ⟨q.T.t,0,none⟩)) rfl rfl (fun X hX=>Ag 121 isAgg121 rfl rfl hX.1 rfl) (⟨((hS5.hp 0 rfl).ob hj).1,hS5.hold 1 rfl,hS5.hold 4 rfl⟩) ?_
    refine gq 4 (some 46) (.agg k.cs.toArray) rfl rfl (fun X hX=>Am (vs:=k.cs) 45 2 rwK szK rfl rfl hX.2.1 rfl rfl) (⟨((hS5.hp 0 rfl).ob hj).1,hS5.hold 1 rfl,hS5.hold 4 rfl⟩) ?_
    refine gq 5 (some 47) (.agg ((Du q.x (getD q.T k) d).cs).toArray) rfl rfl (fun X hX=>Am (vs:=(Du q.x (getD q.T k) d).cs) 48 18 rwD szD rfl rfl hX.2.2 rfl rfl) (⟨((hS5.hp 0 rfl).ob hj).1,hS5.hold 1 rfl,hS5.hold 4 rfl⟩) ?_
    refine gr (rs:= [6]) (gc 6 (some 48) rfl rfl (Zau q.T k (Du q.x (getD q.T k) d) _ ((hS5.hp 0 rfl).ob hj).2.1 (hT.fr hS5.fr H.low).1 hk hlast (fun b hb=>by have:=(hS5.hp 0 rfl).low_tab hj b hb;omega) hg) ?_ gn)
    rintro e Yp1 ⟨rfl,T',hT2,ht2,hf2,hs2,hPT⟩
    have hI0:=hS5.hp 0 rfl
    have hO:=(hI0.ob hj).1.block (hf2.block _ ((hI0.ob hj).1.lt (by rw[Km];omega)) (hI0.ob hj).2.2)
    have HTI:=Ab (hI0.ob hj).2.1
    have hqp:=Sy.heap hS5 0 rfl (hI0.table hj hT2 ht2 hf2 hs2)
    refine⟨_,rfl,⟨hO,hqp.hold 1 rfl,hqp.hold 4 rfl⟩, ?_⟩
    refine dn ?_
    try simp only[nn]
    have SS:=Ab hqp
    go_wp2
    go_ret2
    exact⟨h.tab j q T',true,rfl,⟨hb.symm, .inr ⟨rfl,T',rfl,hPT.last,Zav (Aa HTI) hg hPT⟩⟩,HP.To.end H (Aa SS) rfl⟩
   ·intro Yt4 Bt4 hEt4 hqt4
    clear hEt4
    simp only[nn]
    refine gr (rs:= [6]) (gcB 6 (some 37) rfl rfl hqt4 (HA _ (hT.fr hqt4.fr H.low)) (fun x=>cu x) ?_ gn)
    intro Yt5 hqt5
    refine gp 7 (some 30) (.tuple #[(Du q.x (getD q.T k) d).agg, .bool true, .int .i64 (Kh (getD q.T k) d)]) rfl rfl (cu hqt5) ?_
    refine gp 8 (some 38) ((Du q.x (getD q.T k) d).agg) rfl rfl (cu hqt5) ?_
    refine gp 9 (some 39) (.bool true) rfl rfl (cu hqt5) ?_
    refine gp 10 (some 40) (.int .i64 (Kh (getD q.T k) d)) rfl rfl (cu hqt5) ?_
    refine gr (rs:= [12]) (Jd (vs:=(Du q.x (getD q.T k) d).cs) (new:=(Du q.x (getD q.T k) d).cs) 12 4 48 rfl rfl (by kernel_rfl) rfl rfl rfl rfl (Gf _) szD hqt5 rfl (by simp[Bz,VV.cs,KK.cs,DD.cs,OB.cs,hcs,Ar,zeroV]) (by simp[Bz,VV.cs,KK.cs,DD.cs,OB.cs,hcs,Ar,zeroV]) (fun _ hZ=>cu hZ) ?_ gn)
    intro Yt6 hqt6
    refine gp 13 (some 16) (.bool true) rfl rfl (cu hqt6) ?_
    refine gp 14 (some 17) (.int .i64 (Kh (getD q.T k) d)) rfl rfl (cu hqt6) ?_
    refine dn ?_
    try simp only[nn]
    have SS:=Ab hqt6
    go_wp2
    have hS5:Sy w _ h.blocks [hpO h,Ao Ba k.cs,Ao Bb d.cs,Ao Bs4 ((getD q.T k).cs),Ao Bt4 ((Du q.x (getD q.T k) d).cs)]:=(Aa SS).drew
    clear SS
    refine wp_region_held_drew (P:=prog) (S:=fun X=>Holds X q.b q.cs/\Holds X Ba k.cs/\Holds X Bt4 ((Du q.x (getD q.T k) d).cs)) (by kernel_rfl) (⟨((hS5.hp 0 rfl).ob hj).1,hS5.hold 1 rfl,hS5.hold 4 rfl⟩) (fun hS0=> ?_)
    refine gp 0 (some 42) (.pointer (some ⟨q.b,0,none⟩)) rfl rfl (⟨((hS5.hp 0 rfl).ob hj).1,hS5.hold 1 rfl,hS5.hold 4 rfl⟩) ?_
    refine gp 1 (some 43) (.pointer (some ⟨q.b,0,none⟩)) rfl rfl (⟨((hS5.hp 0 rfl).ob hj).1,hS5.hold 1 rfl,hS5.hold 4 rfl⟩) ?_
    refine gp 2 (some 44) (.pointer (some ⟨q.b,7,none⟩)) rfl rfl (⟨((hS5.hp 0 rfl).ob hj).1,hS5.hold 1 rfl,hS5.hold 4 rfl⟩) ?_
    refine gq 3 (some 45) (.pointer (some ⟨q.T.t,0,none⟩)) rfl rfl (fun X hX=>Ag 121 isAgg121 rfl rfl hX.1 rfl) (⟨((hS5.hp 0 rfl).ob hj).1,hS5.hold 1 rfl,hS5.hold 4 rfl⟩) ?_
    refine gq 4 (some 46) (.agg k.cs.toArray) rfl rfl (fun X hX=>Am (vs:=k.cs) 45 2 rwK szK rfl rfl hX.2.1 rfl rfl) (⟨((hS5.hp 0 rfl).ob hj).1,hS5.hold 1 rfl,hS5.hold 4 rfl⟩) ?_
    refine gq 5 (some 47) (.agg ((Du q.x (getD q.T k) d).cs).toArray) rfl rfl (fun X hX=>Am (vs:=(Du q.x (getD q.T k) d).cs) 48 18 rwD szD rfl rfl hX.2.2 rfl rfl) (⟨((hS5.hp 0 rfl).ob hj).1,hS5.hold 1 rfl,hS5.hold 4 rfl⟩) ?_
    refine gr (rs:= [6]) (gc 6 (some 48) rfl rfl (Zau q.T k (Du q.x (getD q.T k) d) _ ((hS5.hp 0 rfl).ob hj).2.1 (hT.fr hS5.fr H.low).1 hk hlast (fun b hb=>by have:=(hS5.hp 0 rfl).low_tab hj b hb;omega) hg) ?_ gn)
    rintro e Yp1 ⟨rfl,T',hT2,ht2,hf2,hs2,hPT⟩
    have hI0:=hS5.hp 0 rfl
    have hO:=(hI0.ob hj).1.block (hf2.block _ ((hI0.ob hj).1.lt (by rw[Km];omega)) (hI0.ob hj).2.2)
    have HTI:=Ab (hI0.ob hj).2.1
    have hqp:=Sy.heap hS5 0 rfl (hI0.table hj hT2 ht2 hf2 hs2)
    refine⟨_,rfl,⟨hO,hqp.hold 1 rfl,hqp.hold 4 rfl⟩, ?_⟩
    refine dn ?_
    try simp only[nn]
    have SS:=Ab hqp
    go_wp2
    go_ret2
    exact⟨h.tab j q T',true,rfl,⟨hb.symm, .inr ⟨rfl,T',rfl,hPT.last,Zav (Aa HTI) hg hPT⟩⟩,HP.To.end H (Aa SS) rfl⟩
