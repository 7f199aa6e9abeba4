import Derived.Test.YthcmamjpfigdfaaGreatDoorRf
set_option linter.all false
namespace Go.Proofs.YthcmamjpfigdfaaGreatDoor
set_option maxRecDepth 100000
set_option maxHeartbeats 0
section
open Go Go.Proofs Go.Maps Go.RowKit FM
def PostN (R:Act->World->Prop) (e:Exit) (a:Act) (X:World):Prop:=match e with| .normal=>R a X|_=>False
theorem pN {R:Act->World->Prop} {a:Act} {X:World} (h:R a X):PostN R .normal a X:=h
theorem Dx {P:Program} {id:Nat} {ops:Array Oper} {Q:Exit->Act->World->Prop} {a:Act} {w:World} (R:Act->Act->World->Prop) (h1:(Code.region id ops true).wp P (PostN (R a)) a w) (h2: ∀a' X,R a a' X->Q .normal a' X):(Code.region id ops true).wp P Q a w:=Code.wp_mono (fun e a' X h=>by cases e<;>first|exact h2 a' X h|exact h.elim) h1
end
section
open Go Go.Proofs Go.Maps Go.RowKit FM Tryz
attribute [local go_sem] Al Ak Ar Ah Am Ai Au Dd Db Bi Aj Bh
def DefP (h:HP) (j:Nat) (q:OB) (k:KK) (d:DD) (h1:HP) (y:Bool):Prop:=y=Pi q.x (getD q.T k) d/\((y=false/\h1=h)∨(y=true/\ ∃T':TT,h1=h.tab j q T'/\T'.last<=q.T.last+1/\pr T'=Oj (pr q.T) k (Ej q.x (getD q.T k) d)))
theorem put_ok (T:TT) (k:KK) (d:DD) (w:World) (hT:T.Is w) (hU:Lib.Utf8Tabs 1 2 w) (hk:OkK k) (hl:T.last<4000000) (hTT: ∀b∈T.blocks,3<=b) (hg:goodK k=true):Calls prog 108 #[.pointer (some ⟨T.t,0,none⟩),k.agg,d.agg] w fun e w'=>e= .returned (.int .i64 0)/\ ∃T':TT,T'.Is w'/\T'.t=T.t/\Fr w w' T.blocks/\(∀b∈T'.blocks,b∈T.blocks∨w.heap.size<=b)/\PutT T k d T':=by
 refine(put12 T k d w hT hU hk hl hTT).mono (fun e w' hh=> ?_)
 obtain⟨h1,T',a,b,c,d2,e2⟩:=hh
 exact⟨by rw[h1,if_pos hg],T',a,b,c,d2,e2⟩
theorem Zeh (h:HP) (j:Nat) (q:OB) (k:KK) (d:DD) (w:World) (H:h.Is w) (hl:h.l.length<=65536) (hj:h.l[j]? =some q) (hT:Tabs w) (hk:OkK k) (hg:goodK k=true) (hFn:FD (getD q.T k)) (hFd:FD d) (hlast:q.T.last<4000000):Calls prog 60 #[.agg #[], .pointer (some ⟨h.b,0,none⟩), .int .i64 ((j:Int)+1),k.agg,d.agg] w fun e w'=> ∃(h1:HP) (y:Bool),e= .returned (.tuple #[.bool y, .nilIface])/\DefP h j q k d h1 y/\h.To h1 w w':=by
 have HA:=fun (w:World) (hT:Tabs w)=>ZgN q.x (getD q.T k) d hFn hFd w hT.1
 have SS:=Ab H.start
 rw[Du,Qj]
 go_enter func60,ntmps60
 go_wp2_with (first|go_skip|((with_reducible show wpList ..);first|((refine bx0 109 rfl rfl (Aa SS) ?_);intro X0 B0 S0;replace SS:=Ab S0;clear S0;simp only[nn])|(refine zB 37 (k.cs) rfl rfl rfl SS ?_;clear SS;intro Xa Ba SS;simp only[nn])|(refine zB 43 (d.cs) rfl rfl rfl SS ?_;clear SS;intro Xb Bb SS;simp only[nn])))
 refine(Kv h j q _ ((Aa SS).hp 0 rfl) hj hl).mono ?_
 rintro _ _ ⟨rfl,rfl⟩
 go_wp2
 have hS2:Sy w _ h.blocks [hpO h,Av Ba k.cs,Av Bb d.cs]:=(Aa SS).drew
 clear SS
 refine Dx (fun a a' X=> ∃B1:Nat,a'=(((((((((((a.put (some 22) (.pointer (some ⟨q.b,0,none⟩))).put (some 23) (.pointer (some ⟨q.b,0,none⟩))).put (some 24) (.pointer (some ⟨q.b,7,none⟩))).put (some 25) (.pointer (some ⟨q.T.t,0,none⟩))).put (some 26) (.agg k.cs.toArray)).put (some 27) (.tuple #[(getD q.T k).agg, .bool (q.T.find k).isSome])).put (some 21) (.tuple #[(getD q.T k).agg, .bool (q.T.find k).isSome])).put (some 28) ((getD q.T k).agg)).put (some 29) (.bool (q.T.find k).isSome)).put (some 13) (.pointer (some ⟨B1,0,none⟩))).put (some 14) (.bool (q.T.find k).isSome))/\Sy w X h.blocks [hpO h,Av Ba k.cs,Av Bb d.cs,Av B1 ((getD q.T k).cs)]) ?_ ?_
 ·have cu: ∀{X:World} {M:List Ob},Sy w X h.blocks ([hpO h,Av Ba k.cs,Av Bb d.cs]++M)->Sy w X h.blocks [hpO h,Av Ba k.cs,Av Bb d.cs]:=fun h=>Sy.left h
  refine wp_region_held_drew (P:=prog) (S:=fun X=>Sy w X h.blocks _) (by kernel_rfl) (hS2) (fun hS0=> ?_)
  refine gp 0 (some 22) (.pointer (some ⟨q.b,0,none⟩)) rfl rfl (hS2) ?_
  refine gp 1 (some 23) (.pointer (some ⟨q.b,0,none⟩)) rfl rfl (hS2) ?_
  refine gp 2 (some 24) (.pointer (some ⟨q.b,7,none⟩)) rfl rfl (hS2) ?_
  refine gq 3 (some 25) (.pointer (some ⟨q.T.t,0,none⟩)) rfl rfl (fun X hX=>Ad 151 isAgg151 rfl rfl ((hX.hp 0 rfl).ob hj).1 rfl) (hS2) ?_
  refine gq 4 (some 26) (.agg k.cs.toArray) rfl rfl (fun X hX=>Af (vs:=k.cs) 37 2 rwK szK rfl rfl (hX.hold 1 rfl) rfl rfl) (hS2) ?_
  refine gr (rs:= [5,9]) (gcB 5 (some 27) rfl rfl hS2 (Zdx q.T k _ ((hS2.hp 0 rfl).ob hj).2.1 hk) id ?_ (Zcw (v:= .agg (zeroD.cs).toArray) 9 (some 13) 43 (zeroD.cs) rfl rfl rfl (fun w=>by kernel_rfl) rfl hS2 (fun _ hZ=>cu hZ) ?_ gn))
  ·intro Ys7 hqs7
   refine gp 6 (some 21) (.tuple #[(getD q.T k).agg, .bool (q.T.find k).isSome]) rfl rfl (hqs7) ?_
   refine gp 7 (some 28) ((getD q.T k).agg) rfl rfl (hqs7) ?_
   refine gp 8 (some 29) (.bool (q.T.find k).isSome) rfl rfl (hqs7) ?_
   refine gr (rs:= [9]) (Zcw (v:= .agg (zeroD.cs).toArray) 9 (some 13) 43 (zeroD.cs) rfl rfl rfl (fun w=>by kernel_rfl) rfl hqs7 (fun _ hZ=>cu hZ) ?_ gn)
   intro Ys8 Bs8 hEs8 hqs8
   clear hEs8
   simp only[nn]
   refine gr (rs:= [10]) (Xt (vs:=(getD q.T k).cs) (new:=(getD q.T k).cs) 10 3 43 rfl rfl rfl rfl rfl rfl (Ez _) szD hqs8 rfl (by simp[Bt,VV.cs,KK.cs,DD.cs,OB.cs,hcs,zeroD,Aq]) (by simp[Bt,VV.cs,KK.cs,DD.cs,OB.cs,hcs,zeroD,Aq]) (fun _ hZ=>cu hZ) ?_ gn)
   intro Ys9 hqs9
   refine gp 11 (some 14) (.bool (q.T.find k).isSome) rfl rfl (cu hqs9) ?_
   refine dn ?_
   try simp only[nn]
   exact pN ⟨_,rfl,hqs9⟩
  ·intro Ys10 Bs10 hEs10 hqs10
   clear hEs10
   simp only[nn]
   refine gr (rs:= [5]) (gcB 5 (some 27) rfl rfl hqs10 (Zdx q.T k _ ((hqs10.hp 0 rfl).ob hj).2.1 hk) (fun x=>cu x) ?_ gn)
   intro Ys11 hqs11
   refine gp 6 (some 21) (.tuple #[(getD q.T k).agg, .bool (q.T.find k).isSome]) rfl rfl (cu hqs11) ?_
   refine gp 7 (some 28) ((getD q.T k).agg) rfl rfl (cu hqs11) ?_
   refine gp 8 (some 29) (.bool (q.T.find k).isSome) rfl rfl (cu hqs11) ?_
   refine gr (rs:= [10]) (Xt (vs:=(getD q.T k).cs) (new:=(getD q.T k).cs) 10 3 43 rfl rfl rfl rfl rfl rfl (Ez _) szD hqs11 rfl (by simp[Bt,VV.cs,KK.cs,DD.cs,OB.cs,hcs,zeroD,Aq]) (by simp[Bt,VV.cs,KK.cs,DD.cs,OB.cs,hcs,zeroD,Aq]) (fun _ hZ=>cu hZ) ?_ gn)
   intro Ys12 hqs12
   refine gp 11 (some 14) (.bool (q.T.find k).isSome) rfl rfl (cu hqs12) ?_
   refine dn ?_
   try simp only[nn]
   exact pN ⟨_,rfl,hqs12⟩
 rintro a' X ⟨B1,rfl,hS9⟩
 simp only[nn]
 have SS:=Ab hS9
 clear hS9
 go_wp2
 cases hb:Pi q.x (getD q.T k) d with
 |false=>
  simp only[hb] at HA
  have hS3:Sy w _ h.blocks [hpO h,Av Ba k.cs,Av Bb d.cs,Av B1 ((getD q.T k).cs)]:=(Aa SS).drew
  clear SS
  refine Dx (fun a a' X=> ∃B2:Nat,a'=((((((((((((((a.put (some 31) (.pointer (some ⟨q.b,0,none⟩))).put (some 32) (.pointer (some ⟨q.b,0,none⟩))).put (some 33) (.pointer (some ⟨q.b,6,none⟩))).put (some 34) (.bool q.x)).put (some 35) (.agg ((getD q.T k).cs).toArray)).put (some 36) (.agg (d.cs).toArray)).put (some 37) (.tuple #[(Ej q.x (getD q.T k) d).agg, .bool false, .int .i64 (Jt (getD q.T k) d)])).put (some 30) (.tuple #[(Ej q.x (getD q.T k) d).agg, .bool false, .int .i64 (Jt (getD q.T k) d)])).put (some 38) ((Ej q.x (getD q.T k) d).agg)).put (some 39) (.bool false)).put (some 40) (.int .i64 (Jt (getD q.T k) d))).put (some 15) (.pointer (some ⟨B2,0,none⟩))).put (some 16) (.bool false)).put (some 17) (.int .i64 (Jt (getD q.T k) d)))/\Sy w X h.blocks [hpO h,Av Ba k.cs,Av Bb d.cs,Av B1 ((getD q.T k).cs),Av B2 ((Ej q.x (getD q.T k) d).cs)]) ?_ ?_
  ·have cu: ∀{X:World} {M:List Ob},Sy w X h.blocks ([hpO h,Av Ba k.cs,Av Bb d.cs,Av B1 ((getD q.T k).cs)]++M)->Sy w X h.blocks [hpO h,Av Ba k.cs,Av Bb d.cs,Av B1 ((getD q.T k).cs)]:=fun h=>Sy.left h
   refine wp_region_held_drew (P:=prog) (S:=fun X=>Sy w X h.blocks _) (by kernel_rfl) (hS3) (fun hS0=> ?_)
   refine gp 0 (some 31) (.pointer (some ⟨q.b,0,none⟩)) rfl rfl (hS3) ?_
   refine gp 1 (some 32) (.pointer (some ⟨q.b,0,none⟩)) rfl rfl (hS3) ?_
   refine gp 2 (some 33) (.pointer (some ⟨q.b,6,none⟩)) rfl rfl (hS3) ?_
   refine gq 3 (some 34) (.bool q.x) rfl rfl (fun X hX=>Ad 4 isAgg4 rfl rfl ((hX.hp 0 rfl).ob hj).1 rfl) (hS3) ?_
   refine gq 4 (some 35) (.agg ((getD q.T k).cs).toArray) rfl rfl (fun X hX=>Af (vs:=(getD q.T k).cs) 43 18 rwD szD rfl rfl (hX.hold 3 rfl) rfl rfl) (hS3) ?_
   refine gq 5 (some 36) (.agg (d.cs).toArray) rfl rfl (fun X hX=>Af (vs:=d.cs) 43 18 rwD szD rfl rfl (hX.hold 2 rfl) rfl rfl) (hS3) ?_
   refine gr (rs:= [6,11]) (gcB 6 (some 37) rfl rfl hS3 (HA _ (hT.fr hS3.fr H.low)) id ?_ (Zcw (v:= .agg (zeroD.cs).toArray) 11 (some 15) 43 (zeroD.cs) rfl rfl rfl (fun w=>by kernel_rfl) rfl hS3 (fun _ hZ=>cu hZ) ?_ gn))
   ·intro Yt7 hqt7
    refine gp 7 (some 30) (.tuple #[(Ej q.x (getD q.T k) d).agg, .bool false, .int .i64 (Jt (getD q.T k) d)]) rfl rfl (hqt7) ?_
    refine gp 8 (some 38) ((Ej q.x (getD q.T k) d).agg) rfl rfl (hqt7) ?_
    refine gp 9 (some 39) (.bool false) rfl rfl (hqt7) ?_
    refine gp 10 (some 40) (.int .i64 (Jt (getD q.T k) d)) rfl rfl (hqt7) ?_
    refine gr (rs:= [11]) (Zcw (v:= .agg (zeroD.cs).toArray) 11 (some 15) 43 (zeroD.cs) rfl rfl rfl (fun w=>by kernel_rfl) rfl hqt7 (fun _ hZ=>cu hZ) ?_ gn)
    intro Yt8 Bt8 hEt8 hqt8
    clear hEt8
    simp only[nn]
    refine gr (rs:= [12]) (Xt (vs:=(Ej q.x (getD q.T k) d).cs) (new:=(Ej q.x (getD q.T k) d).cs) 12 4 43 rfl rfl rfl rfl rfl rfl (Ez _) szD hqt8 rfl (by simp[Bt,VV.cs,KK.cs,DD.cs,OB.cs,hcs,zeroD,Aq]) (by simp[Bt,VV.cs,KK.cs,DD.cs,OB.cs,hcs,zeroD,Aq]) (fun _ hZ=>cu hZ) ?_ gn)
    intro Yt9 hqt9
    refine gp 13 (some 16) (.bool false) rfl rfl (cu hqt9) ?_
    refine gp 14 (some 17) (.int .i64 (Jt (getD q.T k) d)) rfl rfl (cu hqt9) ?_
    refine dn ?_
    try simp only[nn]
    exact pN ⟨_,rfl,hqt9⟩
   ·intro Yt10 Bt10 hEt10 hqt10
    clear hEt10
    simp only[nn]
    refine gr (rs:= [6]) (gcB 6 (some 37) rfl rfl hqt10 (HA _ (hT.fr hqt10.fr H.low)) (fun x=>cu x) ?_ gn)
    intro Yt11 hqt11
    refine gp 7 (some 30) (.tuple #[(Ej q.x (getD q.T k) d).agg, .bool false, .int .i64 (Jt (getD q.T k) d)]) rfl rfl (cu hqt11) ?_
    refine gp 8 (some 38) ((Ej q.x (getD q.T k) d).agg) rfl rfl (cu hqt11) ?_
    refine gp 9 (some 39) (.bool false) rfl rfl (cu hqt11) ?_
    refine gp 10 (some 40) (.int .i64 (Jt (getD q.T k) d)) rfl rfl (cu hqt11) ?_
    refine gr (rs:= [12]) (Xt (vs:=(Ej q.x (getD q.T k) d).cs) (new:=(Ej q.x (getD q.T k) d).cs) 12 4 43 rfl rfl rfl rfl rfl rfl (Ez _) szD hqt11 rfl (by simp[Bt,VV.cs,KK.cs,DD.cs,OB.cs,hcs,zeroD,Aq]) (by simp[Bt,VV.cs,KK.cs,DD.cs,OB.cs,hcs,zeroD,Aq]) (fun _ hZ=>cu hZ) ?_ gn)
    intro Yt12 hqt12
    refine gp 13 (some 16) (.bool false) rfl rfl (cu hqt12) ?_
    refine gp 14 (some 17) (.int .i64 (Jt (getD q.T k) d)) rfl rfl (cu hqt12) ?_
    refine dn ?_
    try simp only[nn]
    exact pN ⟨_,rfl,hqt12⟩
  rintro a' X ⟨B2,rfl,hS9⟩
  simp only[nn]
  have SS:=Ab hS9
  clear hS9
  go_wp2
  go_ret2
  exact⟨h,false,rfl,⟨hb.symm, .inl ⟨rfl,rfl⟩⟩,HP.To.end H (Aa SS) rfl⟩
 |true=>
  simp only[hb] at HA
  have hS3:Sy w _ h.blocks [hpO h,Av Ba k.cs,Av Bb d.cs,Av B1 ((getD q.T k).cs)]:=(Aa SS).drew
  clear SS
  refine Dx (fun a a' X=> ∃B2:Nat,a'=((((((((((((((a.put (some 31) (.pointer (some ⟨q.b,0,none⟩))).put (some 32) (.pointer (some ⟨q.b,0,none⟩))).put (some 33) (.pointer (some ⟨q.b,6,none⟩))).put (some 34) (.bool q.x)).put (some 35) (.agg ((getD q.T k).cs).toArray)).put (some 36) (.agg (d.cs).toArray)).put (some 37) (.tuple #[(Ej q.x (getD q.T k) d).agg, .bool true, .int .i64 (Jt (getD q.T k) d)])).put (some 30) (.tuple #[(Ej q.x (getD q.T k) d).agg, .bool true, .int .i64 (Jt (getD q.T k) d)])).put (some 38) ((Ej q.x (getD q.T k) d).agg)).put (some 39) (.bool true)).put (some 40) (.int .i64 (Jt (getD q.T k) d))).put (some 15) (.pointer (some ⟨B2,0,none⟩))).put (some 16) (.bool true)).put (some 17) (.int .i64 (Jt (getD q.T k) d)))/\Sy w X h.blocks [hpO h,Av Ba k.cs,Av Bb d.cs,Av B1 ((getD q.T k).cs),Av B2 ((Ej q.x (getD q.T k) d).cs)]) ?_ ?_
  ·have cu: ∀{X:World} {M:List Ob},Sy w X h.blocks ([hpO h,Av Ba k.cs,Av Bb d.cs,Av B1 ((getD q.T k).cs)]++M)->Sy w X h.blocks [hpO h,Av Ba k.cs,Av Bb d.cs,Av B1 ((getD q.T k).cs)]:=fun h=>Sy.left h
   refine wp_region_held_drew (P:=prog) (S:=fun X=>Sy w X h.blocks _) (by kernel_rfl) (hS3) (fun hS0=> ?_)
   refine gp 0 (some 31) (.pointer (some ⟨q.b,0,none⟩)) rfl rfl (hS3) ?_
   refine gp 1 (some 32) (.pointer (some ⟨q.b,0,none⟩)) rfl rfl (hS3) ?_
   refine gp 2 (some 33) (.pointer (some ⟨q.b,6,none⟩)) rfl rfl (hS3) ?_
   refine gq 3 (some 34) (.bool q.x) rfl rfl (fun X hX=>Ad 4 isAgg4 rfl rfl ((hX.hp 0 rfl).ob hj).1 rfl) (hS3) ?_
   refine gq 4 (some 35) (.agg ((getD q.T k).cs).toArray) rfl rfl (fun X hX=>Af (vs:=(getD q.T k).cs) 43 18 rwD szD rfl rfl (hX.hold 3 rfl) rfl rfl) (hS3) ?_
   refine gq 5 (some 36) (.agg (d.cs).toArray) rfl rfl (fun X hX=>Af (vs:=d.cs) 43 18 rwD szD rfl rfl (hX.hold 2 rfl) rfl rfl) (hS3) ?_
   refine gr (rs:= [6,11]) (gcB 6 (some 37) rfl rfl hS3 (HA _ (hT.fr hS3.fr H.low)) id ?_ (Zcw (v:= .agg (zeroD.cs).toArray) 11 (some 15) 43 (zeroD.cs) rfl rfl rfl (fun w=>by kernel_rfl) rfl hS3 (fun _ hZ=>cu hZ) ?_ gn))
   ·intro Yt7 hqt7
    refine gp 7 (some 30) (.tuple #[(Ej q.x (getD q.T k) d).agg, .bool true, .int .i64 (Jt (getD q.T k) d)]) rfl rfl (hqt7) ?_
    refine gp 8 (some 38) ((Ej q.x (getD q.T k) d).agg) rfl rfl (hqt7) ?_
    refine gp 9 (some 39) (.bool true) rfl rfl (hqt7) ?_
    refine gp 10 (some 40) (.int .i64 (Jt (getD q.T k) d)) rfl rfl (hqt7) ?_
    refine gr (rs:= [11]) (Zcw (v:= .agg (zeroD.cs).toArray) 11 (some 15) 43 (zeroD.cs) rfl rfl rfl (fun w=>by kernel_rfl) rfl hqt7 (fun _ hZ=>cu hZ) ?_ gn)
    intro Yt8 Bt8 hEt8 hqt8
    clear hEt8
    simp only[nn]
    refine gr (rs:= [12]) (Xt (vs:=(Ej q.x (getD q.T k) d).cs) (new:=(Ej q.x (getD q.T k) d).cs) 12 4 43 rfl rfl rfl rfl rfl rfl (Ez _) szD hqt8 rfl (by simp[Bt,VV.cs,KK.cs,DD.cs,OB.cs,hcs,zeroD,Aq]) (by simp[Bt,VV.cs,KK.cs,DD.cs,OB.cs,hcs,zeroD,Aq]) (fun _ hZ=>cu hZ) ?_ gn)
    intro Yt9 hqt9
    refine gp 13 (some 16) (.bool true) rfl rfl (cu hqt9) ?_
    refine gp 14 (some 17) (.int .i64 (Jt (getD q.T k) d)) rfl rfl (cu hqt9) ?_
    refine dn ?_
    try simp only[nn]
    exact pN ⟨_,rfl,hqt9⟩
   ·intro Yt10 Bt10 hEt10 hqt10
    clear hEt10
    simp only[nn]
    refine gr (rs:= [6]) (gcB 6 (some 37) rfl rfl hqt10 (HA _ (hT.fr hqt10.fr H.low)) (fun x=>cu x) ?_ gn)
    intro Yt11 hqt11
    refine gp 7 (some 30) (.tuple #[(Ej q.x (getD q.T k) d).agg, .bool true, .int .i64 (Jt (getD q.T k) d)]) rfl rfl (cu hqt11) ?_
    refine gp 8 (some 38) ((Ej q.x (getD q.T k) d).agg) rfl rfl (cu hqt11) ?_
    refine gp 9 (some 39) (.bool true) rfl rfl (cu hqt11) ?_
    refine gp 10 (some 40) (.int .i64 (Jt (getD q.T k) d)) rfl rfl (cu hqt11) ?_
    refine gr (rs:= [12]) (Xt (vs:=(Ej q.x (getD q.T k) d).cs) (new:=(Ej q.x (getD q.T k) d).cs) 12 4 43 rfl rfl rfl rfl rfl rfl (Ez _) szD hqt11 rfl (by simp[Bt,VV.cs,KK.cs,DD.cs,OB.cs,hcs,zeroD,Aq]) (by simp[Bt,VV.cs,KK.cs,DD.cs,OB.cs,hcs,zeroD,Aq]) (fun _ hZ=>cu hZ) ?_ gn)
    intro Yt12 hqt12
    refine gp 13 (some 16) (.bool true) rfl rfl (cu hqt12) ?_
    refine gp 14 (some 17) (.int .i64 (Jt (getD q.T k) d)) rfl rfl (cu hqt12) ?_
    refine dn ?_
    try simp only[nn]
    exact pN ⟨_,rfl,hqt12⟩
  rintro a' X ⟨B2,rfl,hS9⟩
  simp only[nn]
  have SS:=Ab hS9
  clear hS9
  go_wp2
  have hS5:Sy w _ h.blocks [hpO h,Av Ba k.cs,Av Bb d.cs,Av B1 ((getD q.T k).cs),Av B2 ((Ej q.x (getD q.T k) d).cs)]:=(Aa SS).drew
  clear SS
  refine wp_region_held_drew (P:=prog) (S:=fun X=>Holds X q.b q.cs/\Holds X Ba k.cs/\Holds X B2 ((Ej q.x (getD q.T k) d).cs)) (by kernel_rfl) (⟨((hS5.hp 0 rfl).ob hj).1,hS5.hold 1 rfl,hS5.hold 4 rfl⟩) (fun hS0=> ?_)
  refine gp 0 (some 42) (.pointer (some ⟨q.b,0,none⟩)) rfl rfl (⟨((hS5.hp 0 rfl).ob hj).1,hS5.hold 1 rfl,hS5.hold 4 rfl⟩) ?_
  refine gp 1 (some 43) (.pointer (some ⟨q.b,0,none⟩)) rfl rfl (⟨((hS5.hp 0 rfl).ob hj).1,hS5.hold 1 rfl,hS5.hold 4 rfl⟩) ?_
  refine gp 2 (some 44) (.pointer (some ⟨q.b,7,none⟩)) rfl rfl (⟨((hS5.hp 0 rfl).ob hj).1,hS5.hold 1 rfl,hS5.hold 4 rfl⟩) ?_
  refine gq 3 (some 45) (.pointer (some ⟨q.T.t,0,none⟩)) rfl rfl (fun X hX=>Ad 151 isAgg151 rfl rfl hX.1 rfl) (⟨((hS5.hp 0 rfl).ob hj).1,hS5.hold 1 rfl,hS5.hold 4 rfl⟩) ?_
  refine gq 4 (some 46) (.agg k.cs.toArray) rfl rfl (fun X hX=>Af (vs:=k.cs) 37 2 rwK szK rfl rfl hX.2.1 rfl rfl) (⟨((hS5.hp 0 rfl).ob hj).1,hS5.hold 1 rfl,hS5.hold 4 rfl⟩) ?_
  refine gq 5 (some 47) (.agg ((Ej q.x (getD q.T k) d).cs).toArray) rfl rfl (fun X hX=>Af (vs:=(Ej q.x (getD q.T k) d).cs) 43 18 rwD szD rfl rfl hX.2.2 rfl rfl) (⟨((hS5.hp 0 rfl).ob hj).1,hS5.hold 1 rfl,hS5.hold 4 rfl⟩) ?_
  refine gr (rs:= [6]) (gc 6 (some 48) rfl rfl (put_ok q.T k (Ej q.x (getD q.T k) d) _ ((hS5.hp 0 rfl).ob hj).2.1 (hT.fr hS5.fr H.low).1 hk hlast (fun b hb=>by have:=(hS5.hp 0 rfl).low_tab hj b hb;omega) hg) ?_ gn)
  rintro e Yp1 ⟨rfl,T',hT2,ht2,hf2,hs2,hPT⟩
  have hI0:=hS5.hp 0 rfl
  have hO:=(hI0.ob hj).1.block (hf2.block _ ((hI0.ob hj).1.lt (by rw[Qx];omega)) (hI0.ob hj).2.2)
  have HTI:=Ab (hI0.ob hj).2.1
  have hqp:=Sy.heap hS5 0 rfl (hI0.table hj hT2 ht2 hf2 hs2)
  refine⟨_,rfl,⟨hO,hqp.hold 1 rfl,hqp.hold 4 rfl⟩, ?_⟩
  refine dn ?_
  try simp only[nn]
  have SS:=Ab hqp
  go_wp2
  go_ret2
  exact⟨h.tab j q T',true,rfl,⟨hb.symm, .inr ⟨rfl,T',rfl,hPT.last,pr_put (Aa HTI) hg hPT⟩⟩,HP.To.end H (Aa SS) rfl⟩
def OkD (d:DD):Prop:=FD d/\wholeV d=true/\d.g.k≠7/\d.s.k≠7
structure OB.Wf (n:Nat) (q:OB):Prop where
 c:q.c=1
 px:q.p.x<2^64
 pk:q.p.k=2∨q.p.k=7
 pi:q.p.k=7->1<=q.p.i/\q.p.i<=(n:Int)
 ps: ∀e∈pr q.T,OkD e.2
structure HP.Wf (h:HP):Prop where
 ok:h.Ok
 ob: ∀(j:Nat) (q:OB),h.l[j]? =some q->OB.Wf h.l.length q
structure Low (h h1:HP):Prop where
 eq:h1={h with fuel:=h1.fuel}
 le:h1.fuel<=h.fuel
 ge:0<=h1.fuel
theorem Low.refl {h:HP} (K:h.Ok):Low h h:=⟨rfl,Int.le_refl _,K.f0⟩
theorem Low.l {h h1:HP} (L:Low h h1):h1.l=h.l:=by rw[L.eq]
theorem Low.ent {h h1:HP} (L:Low h h1):h1.ent=h.ent:=by rw[L.eq]
theorem Low.ok {h h1:HP} (L:Low h h1) (K:h.Ok):h1.Ok:=by
 have e:=L.eq
 have a:=L.le
 have b:=L.ge
 generalize h1.fuel=f at *
 subst e
 exact⟨K.len,b,Int.le_trans a K.f1,K.e0,K.e1,K.d1⟩
theorem Low.trans {h h1 h2:HP} (A:Low h h1) (B:Low h1 h2):Low h h2:=by
 refine⟨?_,Int.le_trans B.le A.le,B.ge⟩
 rw[B.eq]
 have e:=A.eq
 generalize h1.fuel=f at *
 subst e
 rfl
theorem Low.wf {h h1:HP} (L:Low h h1) (K:h.Wf):h1.Wf:=⟨L.ok K.ok,fun j q hj=>by rw[L.l] at hj ⊢;exact K.ob j q hj⟩
theorem Ea {h:HP} (K:h.Ok) (hf:h.fuel≠0):Low h h.less:=⟨rfl,by show h.fuel - 1<=h.fuel;omega,by show 0<=h.fuel - 1;have:=K.f0;omega⟩
theorem inn_ok {h:HP} (K:h.Ok) (hf:h.fuel≠0) (hd:h.ent≠h.depth):h.inn.Ok:=⟨K.len,by show 0<=h.fuel - 1;have:=K.f0;omega,by show h.fuel - 1<=_;have:=K.f1;omega,by show 0<=h.ent+1;have:=K.e0;omega,by show h.ent+1<=h.depth;have:=K.e1;omega,K.d1⟩
theorem Zcr {h:HP} (K:h.Wf) (hf:h.fuel≠0) (hd:h.ent≠h.depth):h.inn.Wf:=⟨inn_ok K.ok hf hd,K.ob⟩
theorem Vg {h h1:HP} (K:h.Ok) (hf:h.fuel≠0) (L:Low h.inn h1):Low h h1.out/\h1.out.fuel<h.fuel:=by
 have e:=L.eq
 have a:h1.fuel<=h.fuel - 1:=L.le
 have b:=L.ge
 have c:h1.out.fuel=h1.fuel:=rfl
 refine⟨⟨?_,by rw[c];omega,by rw[c];exact b⟩,by rw[c];omega⟩
 generalize h1.fuel=f at *
 subst e
 unfold HP.out HP.inn
 simp
def Er (er:Value):Prop:=er= .nilIface∨er=Ax 1∨er=Ax 2
def Ja (h h1:HP) (er:Value):Prop:=Er er/\(h.fuel=0->er=Ax 1/\h1=h)/\(h.fuel≠0->h1.fuel<h.fuel)
theorem Mn {o:Oper} {a:Act} {w:World} {x y:Operand} {n m:Int} (ho:o.op= .binOp .neq 3 x y 3) (hx:a.eval x= .int .i64 n) (hc:a.eval y= .int .i64 m) (h:n≠m):(execOp a.eval o).run prog w= .ok (.value (.bool true)) w:=by
 unfold execOp
 simp only[ho,hx,hc]
 simp[go_sem,eqGuard,h]
theorem Mm {o:Oper} {a:Act} {w:World} {x y:Operand} {n m:Int} (ho:o.op= .binOp .neq 3 x y 3) (hx:a.eval x= .int .i64 n) (hc:a.eval y= .int .i64 m) (h:n=m):(execOp a.eval o).run prog w= .ok (.value (.bool false)) w:=by
 unfold execOp
 simp only[ho,hx,hc]
 simp[go_sem,eqGuard,h]
theorem Rx {h:HP} (K:h.Wf) {j:Nat} {q:OB} (hj:h.l[j]? =some q) (hk:q.p.k=7): ∃(i:Nat) (q':OB),q.p.i=(i:Int)+1/\h.l[i]? =some q':=by
 have h1:=(K.ob j q hj).pi hk
 exact Mk (h:=h) (o:=q.p.i) (by unfold Ri;simp;exact h1)
def HasC (n:Int):Prop:= ∀(h:HP) (j:Nat) (q:OB) (k:KK) (w:World),h.fuel<=n->h.Is w->h.Wf->h.l[j]? =some q->OkK k->Calls prog 123 #[.pointer (some ⟨h.b,0,none⟩), .int .i64 ((j:Int)+1),k.agg] w fun e w'=> ∃(h1:HP) (y:Bool) (er:Value),e= .returned (.tuple #[.bool y,er])/\(Low h h1/\Ja h h1 er)/\h.To h1 w w'
theorem ord_has (h:HP) (j:Nat) (q:OB) (k:KK) (n:Int) (w:World) (H:h.Is w) (K:h.Wf) (hj:h.l[j]? =some q) (hk:OkK k) (hI:HasC n) (hn:h.fuel<=n):Calls prog 204 #[.agg #[], .pointer (some ⟨h.b,0,none⟩), .int .i64 ((j:Int)+1),k.agg] w fun e w'=> ∃(h1:HP) (y:Bool) (er:Value),e= .returned (.tuple #[.bool y,er])/\(Low h h1/\Er er)/\h.To h1 w w':=by
 have hl:=K.ok.len
 cases hfi:q.T.find k with
 |some r=>
  have SS:=Ab H.start
  rw[Du]
  go_enter func204,ntmps204
  go_wp2_with (first|go_skip|((with_reducible show wpList ..);first|((refine bx0 109 rfl rfl (Aa SS) ?_);intro X0 B0 S0;replace SS:=Ab S0;clear S0;simp only[nn])|(refine zB 37 (k.cs) rfl rfl rfl SS ?_;clear SS;intro Xa Ba SS;simp only[nn])|(refine zL (k.cs) 37 2 1 rwK szK rfl rfl SS rfl rfl rfl ?_;simp only[nn])))
  refine(Lu h j q k _ ((Aa SS).hp 0 rfl) hl hj hk).mono ?_
  rintro _ Y1 ⟨rfl,hb1⟩
  replace SS:=Ab ((Aa SS).on hb1)
  clear hb1
  rw[hfi]
  go_wp2_with (first|go_skip|((with_reducible show wpList ..);first|(refine zA 43 (zeroD.cs) rfl SS ?_;clear SS;intro Xb Bb SS;simp only[nn])|(refine zS ((getD q.T k).cs) 2 43 rfl rfl rfl rfl (Ez _) szD SS rfl ?_;clear SS;intro Xz SS;simp only[nn])))
  refine(Kv h j q _ ((Aa SS).hp 0 rfl) hj hl).mono ?_
  rintro _ _ ⟨rfl,rfl⟩
  have HO:=Ab (((Aa SS).hp 0 rfl).ob hj).1
  go_wp2_with (first|go_skip|((with_reducible show wpList ..);first|(refine rd rfl (Af (vs:=q.p.cs) 40 5 rwV szV rfl rfl (Aa HO) rfl rfl) ?_)|(refine zA 40 (Aq.cs) rfl SS ?_;clear SS;intro Xc Bc SS;simp only[nn])|(refine zS (q.p.cs) 3 40 rfl rfl rfl rfl (Gh _) szV SS rfl ?_;clear SS;intro Xy SS;simp only[nn])))
  go_ret2
  exact⟨h,_,_,rfl,⟨Low.refl K.ok, .inl rfl⟩,HP.To.end H (Aa SS) rfl⟩
 |none=>
  by_cases hpk:q.p.k=7
  ·obtain⟨i,q2,hi,hq2⟩:=Rx K hj hpk
   have SS:=Ab H.start
   rw[Du]
   go_enter func204,ntmps204
   go_wp2_with (first|go_skip|((with_reducible show wpList ..);first|((refine bx0 109 rfl rfl (Aa SS) ?_);intro X0 B0 S0;replace SS:=Ab S0;clear S0;simp only[nn])|(refine zB 37 (k.cs) rfl rfl rfl SS ?_;clear SS;intro Xa Ba SS;simp only[nn])|(refine zL (k.cs) 37 2 1 rwK szK rfl rfl SS rfl rfl rfl ?_;simp only[nn])))
   refine(Lu h j q k _ ((Aa SS).hp 0 rfl) hl hj hk).mono ?_
   rintro _ Y1 ⟨rfl,hb1⟩
   replace SS:=Ab ((Aa SS).on hb1)
   clear hb1
   rw[hfi]
   go_wp2_with (first|go_skip|((with_reducible show wpList ..);first|(refine zA 43 (zeroD.cs) rfl SS ?_;clear SS;intro Xb Bb SS;simp only[nn])|(refine zS ((getD q.T k).cs) 2 43 rfl rfl rfl rfl (Ez _) szD SS rfl ?_;clear SS;intro Xz SS;simp only[nn])))
   refine(Kv h j q _ ((Aa SS).hp 0 rfl) hj hl).mono ?_
   rintro _ _ ⟨rfl,rfl⟩
   have HO:=Ab (((Aa SS).hp 0 rfl).ob hj).1
   go_wp2_with (first|go_skip|((with_reducible show wpList ..);first|(refine rd rfl (Af (vs:=q.p.cs) 40 5 rwV szV rfl rfl (Aa HO) rfl rfl) ?_)|(refine zA 40 (Aq.cs) rfl SS ?_;clear SS;intro Xc Bc SS;simp only[nn])|(refine zS (q.p.cs) 3 40 rfl rfl rfl rfl (Gh _) szV SS rfl ?_;clear SS;intro Xy SS;simp only[nn])|(refine rd rfl (Ad 3 isAgg3 rfl rfl ((Aa SS).hold 3 rfl) rfl) ?_)|(refine zL (k.cs) 37 2 1 rwK szK rfl rfl SS rfl rfl rfl ?_;simp only[nn])|(refine rd rfl (Mm rfl rfl rfl hpk) ?_)))
   have HC:=Ab (hI h i q2 k _ hn ((Aa SS).hp 0 rfl) K hq2 hk)
   rw[Du] at HC
   refine(Aa HC).mono ?_
   rintro _ Y2 ⟨h1,y,er,rfl,⟨hL,hE⟩,T2⟩
   replace SS:=Ab ((Aa SS).heap 0 rfl T2)
   have hb1:h1.b=h.b:=T2.hb
   clear T2 HC
   go_wp2
   go_ret2
   exact⟨h1,y,er,rfl,⟨hL,hE.1⟩,HP.To.end H (Aa SS) hb1⟩
  ·have SS:=Ab H.start
   rw[Du]
   go_enter func204,ntmps204
   go_wp2_with (first|go_skip|((with_reducible show wpList ..);first|((refine bx0 109 rfl rfl (Aa SS) ?_);intro X0 B0 S0;replace SS:=Ab S0;clear S0;simp only[nn])|(refine zB 37 (k.cs) rfl rfl rfl SS ?_;clear SS;intro Xa Ba SS;simp only[nn])|(refine zL (k.cs) 37 2 1 rwK szK rfl rfl SS rfl rfl rfl ?_;simp only[nn])))
   refine(Lu h j q k _ ((Aa SS).hp 0 rfl) hl hj hk).mono ?_
   rintro _ Y1 ⟨rfl,hb1⟩
   replace SS:=Ab ((Aa SS).on hb1)
   clear hb1
   rw[hfi]
   go_wp2_with (first|go_skip|((with_reducible show wpList ..);first|(refine zA 43 (zeroD.cs) rfl SS ?_;clear SS;intro Xb Bb SS;simp only[nn])|(refine zS ((getD q.T k).cs) 2 43 rfl rfl rfl rfl (Ez _) szD SS rfl ?_;clear SS;intro Xz SS;simp only[nn])))
   refine(Kv h j q _ ((Aa SS).hp 0 rfl) hj hl).mono ?_
   rintro _ _ ⟨rfl,rfl⟩
   have HO:=Ab (((Aa SS).hp 0 rfl).ob hj).1
   go_wp2_with (first|go_skip|((with_reducible show wpList ..);first|(refine rd rfl (Af (vs:=q.p.cs) 40 5 rwV szV rfl rfl (Aa HO) rfl rfl) ?_)|(refine zA 40 (Aq.cs) rfl SS ?_;clear SS;intro Xc Bc SS;simp only[nn])|(refine zS (q.p.cs) 3 40 rfl rfl rfl rfl (Gh _) szV SS rfl ?_;clear SS;intro Xy SS;simp only[nn])|(refine rd rfl (Ad 3 isAgg3 rfl rfl ((Aa SS).hold 3 rfl) rfl) ?_)|(refine rd rfl (Mn rfl rfl rfl hpk) ?_)))
   go_ret2
   exact⟨h,_,_,rfl,⟨Low.refl K.ok, .inl rfl⟩,HP.To.end H (Aa SS) rfl⟩
theorem has_all: ∀n:Nat,HasC (n:Int):=by
 have main: ∀n:Int,(∀m,m<n->0<=m->HasC m)->0<=n->HasC n:=by
  intro n ih hn h j q k w hf H K hj hk
  by_cases h0:h.fuel=0
  ·refine(Zd h j k w H h0).mono ?_
   rintro _ Y ⟨rfl,T⟩
   exact⟨h,false,Ax 1,rfl,⟨Low.refl K.ok, .inr (.inl rfl),fun _=>⟨rfl,rfl⟩,fun h1=>absurd h0 h1⟩,T⟩
  by_cases hd:h.ent=h.depth
  ·refine(Zc h j k w H K.ok h0 hd).mono ?_
   rintro _ Y ⟨rfl,T⟩
   exact⟨h.less,false,Ax 2,rfl,⟨Ea K.ok h0, .inr (.inr rfl),fun h1=>absurd h1 h0,fun _=>by show h.fuel - 1<h.fuel;omega⟩,T⟩
  ·have hp:=K.ok.f0
   refine(Zb h j q k (fun h1 y er=>Low h.inn h1/\Er er) w H K.ok hj h0 hd (fun X TX=> ?_)).mono ?_
   ·refine(ord_has h.inn j q k (n - 1) X TX.is (Zcr K h0 hd) hj hk (ih (n - 1) (by omega) (by omega)) (by show h.fuel - 1<=n - 1;omega)).mono ?_
    rintro e Y ⟨h1,y,er,rfl,hL,T⟩
    exact⟨h1,y,er,rfl,hL,hL.1.ent,T⟩
   ·rintro e Y ⟨h1,y,er,rfl,hL,T⟩
    have h2:=Vg K.ok h0 hL.1
    exact⟨h1.out,y,er,rfl,⟨h2.1,hL.2,fun h3=>absurd h3 h0,fun _=>h2.2⟩,T⟩
 have all: ∀n:Nat,∀m:Int,0<=m->m<=n->HasC m:=by
  intro n
  induction n with
  |zero=>exact fun m h1 h2=>main m (fun m' h3 h4=>by omega) h1
  |succ n ih=>exact fun m h1 h2=>main m (fun m' h3 h4=>ih m' h4 (by omega)) h1
 exact fun n=>all n n (by omega) (Int.le_refl _)
theorem has_en (h:HP) (j:Nat) (q:OB) (k:KK) (w:World) (H:h.Is w) (K:h.Wf) (hj:h.l[j]? =some q) (hk:OkK k):Calls prog 123 #[.pointer (some ⟨h.b,0,none⟩), .int .i64 ((j:Int)+1),k.agg] w fun e w'=> ∃(h1:HP) (y:Bool) (er:Value),e= .returned (.tuple #[.bool y,er])/\(Low h h1/\Ja h h1 er)/\h.To h1 w w':=has_all h.fuel.toNat h j q k w (by have:=K.ok.f0;omega) H K hj hk
theorem Kw (d:DD) (w:World):Calls prog 215 #[d.agg] w fun e w'=>e= .returned (.bool (d.g.k !=0))/\Below w.heap.size w w':=by
 have SS:=Ab (Sy.nil w [])
 rw[Qj]
 by_cases hg:d.g.k=0
 ·rw[show (d.g.k !=0)=false by simp[hg]]
  go_enter func215,ntmps215
  go_wp2_with (first|go_skip|((with_reducible show wpList ..);first|(refine zB 43 (d.cs) rfl rfl rfl SS ?_;clear SS;intro Xa Ba SS;simp only[nn])|(refine rd rfl (Ad 3 isAgg3 rfl rfl ((Aa SS).hold 0 rfl) rfl) ?_)|(refine rd rfl (Mm rfl rfl rfl hg) ?_)))
  go_ret
  exact⟨rfl,(Aa SS).fr.below⟩
 ·rw[show (d.g.k !=0)=true by simp[hg]]
  go_enter func215,ntmps215
  go_wp2_with (first|go_skip|((with_reducible show wpList ..);first|(refine zB 43 (d.cs) rfl rfl rfl SS ?_;clear SS;intro Xa Ba SS;simp only[nn])|(refine rd rfl (Ad 3 isAgg3 rfl rfl ((Aa SS).hold 0 rfl) rfl) ?_)|(refine rd rfl (Mn rfl rfl rfl hg) ?_)))
  go_ret
  exact⟨rfl,(Aa SS).fr.below⟩
def La (v:VV):DD:=⟨v,Aq,Aq,2,2,2⟩
theorem ex_open {o:Oper} {a:Act} {w:World} {x c1 c2 c3:Operand} (v:VV) (ho:o.op= .build 43 #[(0,x),(3,c1),(4,c2),(5,c3)]) (hx:a.eval x= .agg v.cs.toArray) (h1:a.eval c1= .int .i64 2) (h2:a.eval c2= .int .i64 2) (h3:a.eval c3= .int .i64 2):(execOp a.eval o).run prog w= .ok (.value (.agg (La v).cs.toArray)) w:=by
 have e:(Instr.build 43 #[(0, .agg v.cs.toArray),(3, .int .i64 2),(4, .int .i64 2),(5, .int .i64 2)]).run prog w= .ok (.agg (La v).cs.toArray) w:=by kernel_rfl
 unfold execOp
 simp only[ho,List.map_toArray,List.map_cons,List.map_nil,hx,h1,h2,h3]
 simp[e]
theorem Zas (v:VV) (w:World):Calls prog 214 #[v.agg] w fun e w'=>e= .returned ((La v).agg)/\Below w.heap.size w w':=by
 have SS:=Ab (Sy.nil w [])
 rw[Dg]
 go_enter func214,ntmps214
 go_wp2_with (first|go_skip|((with_reducible show wpList ..);first|(refine zB 40 (v.cs) rfl rfl rfl SS ?_;clear SS;intro Xa Ba SS;simp only[nn])|(refine zA 43 (zeroD.cs) rfl SS ?_;clear SS;intro Xb Bb SS;simp only[nn])|(refine zL (v.cs) 40 5 0 rwV szV rfl rfl SS rfl rfl rfl ?_;simp only[nn])|(refine rd rfl (ex_open v rfl rfl rfl rfl rfl) ?_)|(refine zS ((La v).cs) 1 43 rfl rfl rfl rfl (Ez _) szD SS rfl ?_;clear SS;intro Xz SS;simp only[nn])))
 refine Lt rwD szD rfl rfl rfl ((Aa SS).hold 1 rfl) rfl ?_
 exact⟨rfl,(Aa SS).fr.below⟩
theorem read_any (h:HP) (d:DD) (r:VV) (w:World) (hg:d.g.k≠7):Calls prog 212 #[.pointer (some ⟨h.b,0,none⟩),d.agg,r.agg] w fun e w'=> ∃V:VV,e= .returned (.tuple #[V.agg, .nilIface])/\Below w.heap.size w w':=by
 by_cases h0:d.g.k=0
 ·have SS:=Ab (Sy.nil w [])
  rw[Qj,Dg]
  go_enter func212,ntmps212
  go_wp2_with (first|go_skip|((with_reducible show wpList ..);first|(refine zB 43 (d.cs) rfl rfl rfl SS ?_;clear SS;intro Xa Ba SS;simp only[nn])|(refine zB 40 (r.cs) rfl rfl rfl SS ?_;clear SS;intro Xb Bb SS;simp only[nn])|(refine zA 40 (Aq.cs) rfl SS ?_;clear SS;intro Xc Bc SS;simp only[nn])|(refine zL (d.cs) 43 18 0 rwD szD rfl rfl SS rfl rfl rfl ?_;simp only[nn])))
  refine(Kw d _).mono ?_
  rintro _ Y1 ⟨rfl,hb1⟩
  replace SS:=Ab ((Aa SS).on hb1)
  clear hb1
  rw[show (d.g.k !=0)=false by simp[h0]]
  go_wp2_with (first|go_skip|((with_reducible show wpList ..);first|(refine rd rfl (Af (vs:=d.v.cs) 40 5 rwV szV rfl rfl ((Aa SS).hold 0 rfl) rfl rfl) ?_)|(refine zS (d.v.cs) 2 40 rfl rfl rfl rfl (Gh _) szV SS rfl ?_;clear SS;intro Xz SS;simp only[nn])))
  refine bodyPost_ret (Gx rwV szV rfl rfl rfl ((Aa SS).hold 2 rfl) rfl) rfl ?_
  exact⟨d.v,rfl,(Aa SS).fr.below⟩
 ·have SS:=Ab (Sy.nil w [])
  rw[Qj,Dg]
  go_enter func212,ntmps212
  go_wp2_with (first|go_skip|((with_reducible show wpList ..);first|(refine zB 43 (d.cs) rfl rfl rfl SS ?_;clear SS;intro Xa Ba SS;simp only[nn])|(refine zB 40 (r.cs) rfl rfl rfl SS ?_;clear SS;intro Xb Bb SS;simp only[nn])|(refine zA 40 (Aq.cs) rfl SS ?_;clear SS;intro Xc Bc SS;simp only[nn])|(refine zL (d.cs) 43 18 0 rwD szD rfl rfl SS rfl rfl rfl ?_;simp only[nn])))
  refine(Kw d _).mono ?_
  rintro _ Y1 ⟨rfl,hb1⟩
  replace SS:=Ab ((Aa SS).on hb1)
  clear hb1
  rw[show (d.g.k !=0)=true by simp[h0]]
  go_wp2_with (first|go_skip|((with_reducible show wpList ..);first|(refine rd rfl (Ad 3 isAgg3 rfl rfl ((Aa SS).hold 0 rfl) rfl) ?_)|(refine rd rfl (Mn rfl rfl rfl hg) ?_)))
  refine(Ju _).mono ?_
  rintro _ Y2 ⟨rfl,hb1⟩
  replace SS:=Ab ((Aa SS).on hb1)
  clear hb1
  rw[show VV.agg ⟨1,false,0,ByteArray.empty,0⟩= .agg Dk.cs.toArray from rfl]
  go_wp2_with (first|go_skip|((with_reducible show wpList ..);(refine zS (Dk.cs) 2 40 rfl rfl rfl rfl (Gh _) szV SS rfl ?_;clear SS;intro Xz SS;simp only[nn])))
  refine bodyPost_ret (Gx rwV szV rfl rfl rfl ((Aa SS).hold 2 rfl) rfl) rfl ?_
  exact⟨Dk,rfl,(Aa SS).fr.below⟩
def GetC (n:Int):Prop:= ∀(h:HP) (j:Nat) (q:OB) (k:KK) (r:VV) (w:World),h.fuel<=n->h.Is w->h.Wf->h.l[j]? =some q->OkK k->Calls prog 44 #[.pointer (some ⟨h.b,0,none⟩), .int .i64 ((j:Int)+1),k.agg,r.agg] w fun e w'=> ∃(h1:HP) (V:VV) (er:Value),e= .returned (.tuple #[V.agg,er])/\(Low h h1/\Ja h h1 er)/\h.To h1 w w'
theorem lk_mem {l:List (KK×DD)} {k:KK} {d:DD} (h:lkP l k=some d): ∃e∈l,e.2=d/\e.1=k:=by
 unfold lkP at h
 cases hf:l.find? (fun e=>decide (e.1=k)) with
 |none=>rw[hf] at h;cases h
 |some e=>
  rw[hf] at h
  exact⟨e,List.mem_of_find?_eq_some hf,Option.some.inj h,by simpa using List.find?_some hf⟩
theorem Zcu {h:HP} (K:h.Wf) {j:Nat} {q:OB} (hj:h.l[j]? =some q) {k:KK} {r:RR} (hf:q.T.find k=some r):OkD (getD q.T k):=by
 have h1:lkP (pr q.T) k=some (getD q.T k):=by
  rw[pr_lk,hf]
  unfold getD
  rw[hf]
  rfl
 obtain⟨e,he,h2, -⟩:=lk_mem h1
 rw[←h2]
 exact(K.ob j q hj).ps e he
theorem ord_get (h:HP) (j:Nat) (q:OB) (k:KK) (r:VV) (n:Int) (w:World) (H:h.Is w) (K:h.Wf) (hj:h.l[j]? =some q) (hk:OkK k) (hI:GetC n) (hn:h.fuel<=n):Calls prog 201 #[.agg #[], .pointer (some ⟨h.b,0,none⟩), .int .i64 ((j:Int)+1),k.agg,r.agg] w fun e w'=> ∃(h1:HP) (V:VV) (er:Value),e= .returned (.tuple #[V.agg,er])/\(Low h h1/\Er er)/\h.To h1 w w':=by
 have hl:=K.ok.len
 cases hfi:q.T.find k with
 |some r0=>
  have hD:=(Zcu K hj hfi).2.2.1
  have SS:=Ab H.start
  rw[Du,Dg]
  go_enter func201,ntmps201
  go_wp2_with (first|go_skip|((with_reducible show wpList ..);first|((refine bx0 109 rfl rfl (Aa SS) ?_);intro X0 B0 S0;replace SS:=Ab S0;clear S0;simp only[nn])|(refine zB 37 (k.cs) rfl rfl rfl SS ?_;clear SS;intro Xa Ba SS;simp only[nn])|(refine zB 40 (r.cs) rfl rfl rfl SS ?_;clear SS;intro Xe Be SS;simp only[nn])|(refine zA 40 (Aq.cs) rfl SS ?_;clear SS;intro Xg Bg SS;simp only[nn])|(refine zL (k.cs) 37 2 1 rwK szK rfl rfl SS rfl rfl rfl ?_;simp only[nn])))
  refine(Lu h j q k _ ((Aa SS).hp 0 rfl) hl hj hk).mono ?_
  rintro _ Y1 ⟨rfl,hb1⟩
  replace SS:=Ab ((Aa SS).on hb1)
  clear hb1
  rw[hfi]
  go_wp2_with (first|go_skip|((with_reducible show wpList ..);first|(refine zA 43 (zeroD.cs) rfl SS ?_;clear SS;intro Xb Bb SS;simp only[nn])|(refine zS ((getD q.T k).cs) 4 43 rfl rfl rfl rfl (Ez _) szD SS rfl ?_;clear SS;intro Xz SS;simp only[nn])|(refine zL ((getD q.T k).cs) 43 18 4 rwD szD rfl rfl SS rfl rfl rfl ?_;simp only[nn])|(refine zL (r.cs) 40 5 2 rwV szV rfl rfl SS rfl rfl rfl ?_;simp only[nn])))
  refine(read_any h (getD q.T k) r _ hD).mono ?_
  rintro _ Y2 ⟨V,rfl,hb1⟩
  replace SS:=Ab ((Aa SS).on hb1)
  clear hb1
  rw[Dg]
  go_wp2_with (first|go_skip|((with_reducible show wpList ..);(refine zS (V.cs) 3 40 rfl rfl rfl rfl (Gh _) szV SS rfl ?_;clear SS;intro Xy SS;simp only[nn])))
  refine bodyPost_ret (Gx rwV szV rfl rfl rfl ((Aa SS).hold 3 rfl) rfl) rfl ?_
  exact⟨h,V, .nilIface,rfl,⟨Low.refl K.ok, .inl rfl⟩,HP.To.end H (Aa SS) rfl⟩
 |none=>
  by_cases hpk:q.p.k=7
  ·obtain⟨i,q2,hi,hq2⟩:=Rx K hj hpk
   have SS:=Ab H.start
   rw[Du,Dg]
   go_enter func201,ntmps201
   go_wp2_with (first|go_skip|((with_reducible show wpList ..);first|((refine bx0 109 rfl rfl (Aa SS) ?_);intro X0 B0 S0;replace SS:=Ab S0;clear S0;simp only[nn])|(refine zB 37 (k.cs) rfl rfl rfl SS ?_;clear SS;intro Xa Ba SS;simp only[nn])|(refine zB 40 (r.cs) rfl rfl rfl SS ?_;clear SS;intro Xe Be SS;simp only[nn])|(refine zA 40 (Aq.cs) rfl SS ?_;clear SS;intro Xg Bg SS;simp only[nn])|(refine zL (k.cs) 37 2 1 rwK szK rfl rfl SS rfl rfl rfl ?_;simp only[nn])))
   refine(Lu h j q k _ ((Aa SS).hp 0 rfl) hl hj hk).mono ?_
   rintro _ Y1 ⟨rfl,hb1⟩
   replace SS:=Ab ((Aa SS).on hb1)
   clear hb1
   rw[hfi]
   go_wp2_with (first|go_skip|((with_reducible show wpList ..);first|(refine zA 43 (zeroD.cs) rfl SS ?_;clear SS;intro Xb Bb SS;simp only[nn])|(refine zS ((getD q.T k).cs) 4 43 rfl rfl rfl rfl (Ez _) szD SS rfl ?_;clear SS;intro Xz SS;simp only[nn])))
   refine(Kv h j q _ ((Aa SS).hp 0 rfl) hj hl).mono ?_
   rintro _ _ ⟨rfl,rfl⟩
   have HO:=Ab (((Aa SS).hp 0 rfl).ob hj).1
   go_wp2_with (first|go_skip|((with_reducible show wpList ..);first|(refine rd rfl (Af (vs:=q.p.cs) 40 5 rwV szV rfl rfl (Aa HO) rfl rfl) ?_)|(refine zA 40 (Aq.cs) rfl SS ?_;clear SS;intro Xc Bc SS;simp only[nn])|(refine zS (q.p.cs) 5 40 rfl rfl rfl rfl (Gh _) szV SS rfl ?_;clear SS;intro Xy SS;simp only[nn])|(refine rd rfl (Ad 3 isAgg3 rfl rfl ((Aa SS).hold 5 rfl) rfl) ?_)|(refine zL (k.cs) 37 2 1 rwK szK rfl rfl SS rfl rfl rfl ?_;simp only[nn])|(refine zL (r.cs) 40 5 2 rwV szV rfl rfl SS rfl rfl rfl ?_;simp only[nn])|(refine rd rfl (Mm rfl rfl rfl hpk) ?_)))
   have HC:=Ab (hI h i q2 k r _ hn ((Aa SS).hp 0 rfl) K hq2 hk)
   rw[Du,Dg] at HC
   refine(Aa HC).mono ?_
   rintro _ Y2 ⟨h1,V,er,rfl,⟨hL,hE⟩,T2⟩
   replace SS:=Ab ((Aa SS).heap 0 rfl T2)
   have hb1:h1.b=h.b:=T2.hb
   clear T2 HC
   rw[Dg]
   go_wp2_with (first|go_skip|((with_reducible show wpList ..);(refine zS (V.cs) 3 40 rfl rfl rfl rfl (Gh _) szV SS rfl ?_;clear SS;intro Xx SS;simp only[nn])))
   refine bodyPost_ret (Gx rwV szV rfl rfl rfl ((Aa SS).hold 3 rfl) rfl) rfl ?_
   exact⟨h1,V,er,rfl,⟨hL,hE.1⟩,HP.To.end H (Aa SS) hb1⟩
  ·have SS:=Ab H.start
   rw[Du,Dg]
   go_enter func201,ntmps201
   go_wp2_with (first|go_skip|((with_reducible show wpList ..);first|((refine bx0 109 rfl rfl (Aa SS) ?_);intro X0 B0 S0;replace SS:=Ab S0;clear S0;simp only[nn])|(refine zB 37 (k.cs) rfl rfl rfl SS ?_;clear SS;intro Xa Ba SS;simp only[nn])|(refine zB 40 (r.cs) rfl rfl rfl SS ?_;clear SS;intro Xe Be SS;simp only[nn])|(refine zA 40 (Aq.cs) rfl SS ?_;clear SS;intro Xg Bg SS;simp only[nn])|(refine zL (k.cs) 37 2 1 rwK szK rfl rfl SS rfl rfl rfl ?_;simp only[nn])))
   refine(Lu h j q k _ ((Aa SS).hp 0 rfl) hl hj hk).mono ?_
   rintro _ Y1 ⟨rfl,hb1⟩
   replace SS:=Ab ((Aa SS).on hb1)
   clear hb1
   rw[hfi]
   go_wp2_with (first|go_skip|((with_reducible show wpList ..);first|(refine zA 43 (zeroD.cs) rfl SS ?_;clear SS;intro Xb Bb SS;simp only[nn])|(refine zS ((getD q.T k).cs) 4 43 rfl rfl rfl rfl (Ez _) szD SS rfl ?_;clear SS;intro Xz SS;simp only[nn])))
   refine(Kv h j q _ ((Aa SS).hp 0 rfl) hj hl).mono ?_
   rintro _ _ ⟨rfl,rfl⟩
   have HO:=Ab (((Aa SS).hp 0 rfl).ob hj).1
   go_wp2_with (first|go_skip|((with_reducible show wpList ..);first|(refine rd rfl (Af (vs:=q.p.cs) 40 5 rwV szV rfl rfl (Aa HO) rfl rfl) ?_)|(refine zA 40 (Aq.cs) rfl SS ?_;clear SS;intro Xc Bc SS;simp only[nn])|(refine zS (q.p.cs) 5 40 rfl rfl rfl rfl (Gh _) szV SS rfl ?_;clear SS;intro Xy SS;simp only[nn])|(refine rd rfl (Ad 3 isAgg3 rfl rfl ((Aa SS).hold 5 rfl) rfl) ?_)|(refine rd rfl (Mn rfl rfl rfl hpk) ?_)))
   refine(Ju _).mono ?_
   rintro _ Y2 ⟨rfl,hb1⟩
   replace SS:=Ab ((Aa SS).on hb1)
   clear hb1
   rw[show VV.agg ⟨1,false,0,ByteArray.empty,0⟩= .agg Dk.cs.toArray from rfl]
   go_wp2_with (first|go_skip|((with_reducible show wpList ..);(refine zS (Dk.cs) 3 40 rfl rfl rfl rfl (Gh _) szV SS rfl ?_;clear SS;intro Xx SS;simp only[nn])))
   refine bodyPost_ret (Gx rwV szV rfl rfl rfl ((Aa SS).hold 3 rfl) rfl) rfl ?_
   exact⟨h,Dk, .nilIface,rfl,⟨Low.refl K.ok, .inl rfl⟩,HP.To.end H (Aa SS) rfl⟩
theorem get_all: ∀n:Nat,GetC (n:Int):=by
 have main: ∀n:Int,(∀m,m<n->0<=m->GetC m)->0<=n->GetC n:=by
  intro n ih hn h j q k r w hf H K hj hk
  by_cases h0:h.fuel=0
  ·refine(enGet_0 h j k r w H h0).mono ?_
   rintro _ Y ⟨rfl,T⟩
   exact⟨h,Aq,Ax 1,rfl,⟨Low.refl K.ok, .inr (.inl rfl),fun _=>⟨rfl,rfl⟩,fun h1=>absurd h0 h1⟩,T⟩
  by_cases hd:h.ent=h.depth
  ·refine(enGet_d h j k r w H K.ok h0 hd).mono ?_
   rintro _ Y ⟨rfl,T⟩
   exact⟨h.less,Aq,Ax 2,rfl,⟨Ea K.ok h0, .inr (.inr rfl),fun h1=>absurd h1 h0,fun _=>by show h.fuel - 1<h.fuel;omega⟩,T⟩
  ·have hp:=K.ok.f0
   refine(enGet_n h j q k r (fun h1 V er=>Low h.inn h1/\Er er) w H K.ok hj h0 hd (fun X TX=> ?_)).mono ?_
   ·refine(ord_get h.inn j q k r (n - 1) X TX.is (Zcr K h0 hd) hj hk (ih (n - 1) (by omega) (by omega)) (by show h.fuel - 1<=n - 1;omega)).mono ?_
    rintro e Y ⟨h1,V,er,rfl,hL,T⟩
    exact⟨h1,V,er,rfl,hL,hL.1.ent,T⟩
   ·rintro e Y ⟨h1,V,er,rfl,hL,T⟩
    have h2:=Vg K.ok h0 hL.1
    exact⟨h1.out,V,er,rfl,⟨h2.1,hL.2,fun h3=>absurd h3 h0,fun _=>h2.2⟩,T⟩
 have all: ∀n:Nat,∀m:Int,0<=m->m<=n->GetC m:=by
  intro n
  induction n with
  |zero=>exact fun m h1 h2=>main m (fun m' h3 h4=>by omega) h1
  |succ n ih=>exact fun m h1 h2=>main m (fun m' h3 h4=>ih m' h4 (by omega)) h1
 exact fun n=>all n n (by omega) (Int.le_refl _)
theorem get_en (h:HP) (j:Nat) (q:OB) (k:KK) (r:VV) (w:World) (H:h.Is w) (K:h.Wf) (hj:h.l[j]? =some q) (hk:OkK k):Calls prog 44 #[.pointer (some ⟨h.b,0,none⟩), .int .i64 ((j:Int)+1),k.agg,r.agg] w fun e w'=> ∃(h1:HP) (V:VV) (er:Value),e= .returned (.tuple #[V.agg,er])/\(Low h h1/\Ja h h1 er)/\h.To h1 w w':=get_all h.fuel.toNat h j q k r w (by have:=K.ok.f0;omega) H K hj hk
