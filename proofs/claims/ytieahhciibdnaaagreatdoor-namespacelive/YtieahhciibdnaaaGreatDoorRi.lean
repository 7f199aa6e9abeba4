import Derived.Test.YtieahhciibdnaaaGreatDoorRh
set_option linter.all false
namespace Go.Proofs.YtieahhciibdnaaaGreatDoor
set_option maxRecDepth 100000
set_option maxHeartbeats 0
section
open Go Go.Proofs Go.Maps Go.RowKit FM Tryz
attribute [local go_sem] Ak Ae Aq Dl Dk Bl Af Aj Ad Bj Et Es
theorem Zd6 (m d:DD) (w:World) (hT:Lib.Utf8Tabs 1 2 w) (hd:FD d):Calls prog 233 #[m.agg,d.agg] w fun e w'=> ∃b,e= .returned (.bool b)/\Below w.heap.size w w':=by
 have SS:=Ab (Sy.nil w [])
 have HT:=Ab hT
 clear hT
 simp only[Lh]
 go_enter func233,ntmps233
 by_cases c1:d.c=2
 ·go_wp2_with (first|go_skip|((with_reducible show wpList ..);first|(refine zB 48 (m.cs) (by rfl) rfl rfl rfl SS ?_;clear SS;intro Xa Ba SS;simp only[nn])|(refine zB 48 (d.cs) (by rfl) rfl rfl rfl SS ?_;clear SS;intro Xb Bb SS;simp only[nn])|(refine z1 46 isAgg46 1 (by rfl) rfl rfl SS rfl rfl ?_;simp only[nn])|(refine rd rfl (Uz rfl rfl rfl c1) ?_)))
  go_ret
  exact⟨_,rfl,(Aa SS).fr.below⟩
 ·by_cases c2:d.e=1
  ·go_wp2_with (first|go_skip|((with_reducible show wpList ..);first|(refine zB 48 (m.cs) (by rfl) rfl rfl rfl SS ?_;clear SS;intro Xa Ba SS;simp only[nn])|(refine zB 48 (d.cs) (by rfl) rfl rfl rfl SS ?_;clear SS;intro Xb Bb SS;simp only[nn])|(refine z1 46 isAgg46 1 (by rfl) rfl rfl SS rfl rfl ?_;simp only[nn])|(refine rd rfl (Mn rfl rfl rfl c1) ?_)|(refine rd rfl (Uz rfl rfl rfl c2) ?_)))
   go_ret
   exact⟨_,rfl,(Aa SS).fr.below⟩
  ·by_cases c3:d.w=1
   ·go_wp2_with (first|go_skip|((with_reducible show wpList ..);first|(refine zB 48 (m.cs) (by rfl) rfl rfl rfl SS ?_;clear SS;intro Xa Ba SS;simp only[nn])|(refine zB 48 (d.cs) (by rfl) rfl rfl rfl SS ?_;clear SS;intro Xb Bb SS;simp only[nn])|(refine z1 46 isAgg46 1 (by rfl) rfl rfl SS rfl rfl ?_;simp only[nn])|(refine rd rfl (Mn rfl rfl rfl c1) ?_)|(refine rd rfl (Mn rfl rfl rfl c2) ?_)|(refine rd rfl (Uz rfl rfl rfl c3) ?_)))
    go_ret
    exact⟨_,rfl,(Aa SS).fr.below⟩
   ·go_wp2_with (first|go_skip|((with_reducible show wpList ..);first|(refine zB 48 (m.cs) (by rfl) rfl rfl rfl SS ?_;clear SS;intro Xa Ba SS;simp only[nn])|(refine zB 48 (d.cs) (by rfl) rfl rfl rfl SS ?_;clear SS;intro Xb Bb SS;simp only[nn])|(refine z1 46 isAgg46 1 (by rfl) rfl rfl SS rfl rfl ?_;simp only[nn])|(refine rd rfl (Mn rfl rfl rfl c1) ?_)|(refine rd rfl (Mn rfl rfl rfl c2) ?_)|(refine rd rfl (Mn rfl rfl rfl c3) ?_)|(refine zL (d.cs) 48 18 1 rwD szD (by rfl) rfl rfl SS rfl rfl rfl ?_;simp only[nn])))
    have HC:=fun X hx=>ZaT d hd X hx
    simp only[Lh] at HC
    refine(HC _ (Al (Aa HT) (Aa SS).fr.below)).mono ?_
    clear HC
    rintro _ Y ⟨rfl,hb⟩
    replace SS:=Ab ((Aa SS).on hb)
    clear hb
    cases hkd:(Gt d==3) with
    |true=>
     go_wp2_with fail
     go_ret
     exact⟨_,rfl,(Aa SS).fr.below⟩
    |false=>
     by_cases c5:d.v.k=0
     ·go_wp2_with (first|go_skip|((with_reducible show wpList ..);first|(refine z1 3 isAgg3 1 (by rfl) rfl rfl SS rfl rfl ?_;simp only[nn])|(refine rd rfl (Kg rfl rfl rfl c5) ?_)))
      go_ret
      exact⟨_,rfl,(Aa SS).fr.below⟩
     ·go_wp2_with (first|go_skip|((with_reducible show wpList ..);first|(refine z1 3 isAgg3 1 (by rfl) rfl rfl SS rfl rfl ?_;simp only[nn])|(refine rd rfl (Jz rfl rfl rfl c5) ?_)|(refine zL (d.v.cs) 26 5 1 rwV szV (by rfl) rfl rfl SS rfl rfl rfl ?_;simp only[nn])|(refine zL (m.v.cs) 26 5 0 rwV szV (by rfl) rfl rfl SS rfl rfl rfl ?_;simp only[nn])))
      have HC:=fun X hx=>Oh d.v m.v X hx
      simp only[Db] at HC
      refine(HC _ (Al (Aa HT) (Aa SS).fr.below)).mono ?_
      clear HC
      unfold okE
      rintro _ Y ⟨rfl,hb⟩
      replace SS:=Ab ((Aa SS).on hb)
      clear hb
      go_wp2
      go_ret
      exact⟨_,rfl,(Aa SS).fr.below⟩
theorem enGop_x (h:HP) (j:Nat) (q:OB) (p:EX) (k:KK) (w:World) (H:h.Is w) (hT:Tabs w) (K:h.Ok) (N:NS h j q p) (V0:Vals p) (hk:OkK k) (hs:k.n=0) (hf:2<=h.fuel) (hd:h.ent+2<=h.depth):Calls prog 181 #[.pointer (some ⟨h.b,0,none⟩), .int .i64 ((j:Int)+1),k.agg] w fun e w'=> ∃(h1:HP) (V:DD) (y:Bool) (er:Value),e= .returned (.tuple #[V.agg, .bool y,er])/\(Lo h h1 2/\IsE er)/\h.To h1 w w':=by
 refine(Pd h j q k (fun h1 V y er=>Lo h.inn h1 1/\IsE er) w H K N.hj N.hm (by omega) (by omega) (fun X TX=> ?_)).mono (fun e w' hh=> ?_)
 ·refine(gop_x h.inn j q p k X TX.is (TX.tabs H hT) (inn_ok K (by omega) (by omega)) N.inn V0 hk hs (by show h.fuel - 1≠0;omega) (by show h.ent+1≠h.depth;omega)).mono (fun e w' hh=> ?_)
  obtain⟨h1,V,y,er,he,hP,T⟩:=hh
  exact⟨h1,V,y,er,he,hP,hP.1.ent,T⟩
 ·obtain⟨h1,V,y,er,he,hP,T⟩:=hh
  exact⟨h1.out,V,y,er,he,⟨hP.1.less,hP.2⟩,T⟩
theorem doGop_x (h:HP) (j:Nat) (q:OB) (p:EX) (k:KK) (w:World) (H:h.Is w) (hT:Tabs w) (K:h.Ok) (N:NS h j q p) (V0:Vals p) (hk:OkK k) (hs:k.n=0) (hf:2<=h.fuel) (hd:h.ent+2<=h.depth):Calls prog 232 #[.pointer (some ⟨h.b,0,none⟩), .int .i64 ((j:Int)+1),k.agg] w fun e w'=> ∃(h1:HP) (V:DD) (y:Bool) (er:Value),e= .returned (.tuple #[V.agg, .bool y,er])/\(Lo h h1 2/\IsE er)/\h.To h1 w w':=by
 refine(Qr h ((j:Int)+1) k w H K.len hT (fun h1 V y er=>Lo h h1 2/\IsE er) (fun j' q' X hj0 hj' hc TX=> ?_)).mono (fun e w' hh=> ?_)
 ·obtain rfl:j=j':=by omega
  exact enGop_x h j q p k X TX.is (TX.tabs H hT) K N V0 hk hs hf hd
 ·obtain⟨h1,V,y,er,he,hP,T⟩:=hh
  refine⟨h1,V,y,er,he, ?_,T⟩
  rcases hP with ⟨-,rfl,rfl⟩|⟨-,hP⟩
  ·exact⟨Lo.refl.more (by omega), .inr ⟨_,_,rfl⟩⟩
  ·exact hP
theorem def_n (h:HP) (j:Nat) (q:OB) (p:EX) (k:KK) (d:DD) (w:World) (H:h.Is w) (hT:Tabs w) (K:h.Ok) (N:NS h j q p) (V0:Vals p) (hk:OkK k) (hs:k.n=0) (hFd:FD d) (hf:2<=h.fuel) (hd:h.ent+2<=h.depth):Calls prog 224 #[.agg #[], .pointer (some ⟨h.b,0,none⟩), .int .i64 ((j:Int)+1),k.agg,d.agg] w fun e w'=> ∃(h1:HP) (y:Bool) (er:Value),e= .returned (.tuple #[.bool y,er])/\(Lo h h1 2/\IsE er)/\h.To h1 w w':=by
 have SS:=Ab H.start
 simp only[Dg,Lh]
 go_enter func224,ntmps224
 go_wp2_with (first|go_skip|((with_reducible show wpList ..);first|((refine Kk (by rfl) rfl rfl (Aa SS) ?_);intro X0 B0 S0;replace SS:=Ab S0;clear S0;simp only[nn])|(refine zB 45 (k.cs) (by rfl) rfl rfl rfl SS ?_;clear SS;intro Xa Ba SS;simp only[nn])|(refine zB 48 (d.cs) (by rfl) rfl rfl rfl SS ?_;clear SS;intro Xb Bb SS;simp only[nn])|(refine zL (k.cs) 45 2 2 rwK szK (by rfl) rfl rfl SS rfl rfl rfl ?_;simp only[nn])))
 have HC:=fun X=>En k X
 simp only[Dg] at HC
 refine(HC _).mono ?_
 clear HC
 rintro _ Y ⟨rfl,hb⟩
 replace SS:=Ab ((Aa SS).on hb)
 clear hb
 rw[show (k.n !=0)=false by simp[hs]]
 go_wp2_with (first|go_skip|((with_reducible show wpList ..);first|(refine zL (k.cs) 45 2 2 rwK szK (by rfl) rfl rfl SS rfl rfl rfl ?_;simp only[nn])))
 have T0:h.To h w _:=HP.To.end H (Aa SS) rfl
 have HC:=doGop_x h j q p k _ ((Aa SS).hp 0 rfl) (T0.tabs H hT) K N V0 hk hs hf hd
 simp only[Dg,Lh] at HC
 refine HC.mono ?_
 clear HC
 rintro _ Y ⟨h1,V,y,er,rfl,hLo,T1⟩
 replace SS:=Ab ((Aa SS).heap 0 rfl T1)
 have HT1:=Ab (T1.tabs T0.is (T0.tabs H hT))
 have HLO:=Ab hLo
 have hb1:h1.b=h.b:=T1.hb
 clear T1 T0 hLo
 rcases (Aa HLO).2 with rfl|⟨t,v,rfl⟩
 ·cases y with
  |false=>
   go_wp2_with (first|go_skip|((with_reducible show wpList ..);first|(refine zA 48 (Ar.cs) (by rfl) rfl SS ?_;clear SS;intro Xc Bc SS;simp only[nn])|(refine zS (V.cs) 4 48 (by rfl) rfl rfl rfl rfl (Gf _) szD SS rfl ?_;clear SS;intro Xz SS;simp only[nn])))
   go_ret2
   exact⟨h1,false, .nilIface,rfl,⟨(Aa HLO).1, .inl rfl⟩,HP.To.end H (Aa SS) hb1⟩
  |true=>
   go_wp2_with (first|go_skip|((with_reducible show wpList ..);first|(refine zA 48 (Ar.cs) (by rfl) rfl SS ?_;clear SS;intro Xc Bc SS;simp only[nn])|(refine zS (V.cs) 4 48 (by rfl) rfl rfl rfl rfl (Gf _) szD SS rfl ?_;clear SS;intro Xz SS;simp only[nn])|(refine zL (V.cs) 48 18 4 rwD szD (by rfl) rfl rfl SS rfl rfl rfl ?_;simp only[nn])|(refine zL (d.cs) 48 18 3 rwD szD (by rfl) rfl rfl SS rfl rfl rfl ?_;simp only[nn])))
   have T2:=HP.To.end H (Aa SS) hb1
   have HC:=fun X hx=>Zd6 V d X hx hFd
   simp only[Lh] at HC
   refine(HC _ (T2.tabs H hT).1).mono ?_
   clear HC T2
   rintro _ Y2 ⟨b,rfl,hb⟩
   replace SS:=Ab ((Aa SS).on hb)
   clear hb
   go_wp2_with fail
   go_ret2
   exact⟨h1,b, .nilIface,rfl,⟨(Aa HLO).1, .inl rfl⟩,HP.To.end H (Aa SS) hb1⟩
 ·cases y with
  |false=>
   go_wp2_with (first|go_skip|((with_reducible show wpList ..);first|(refine zA 48 (Ar.cs) (by rfl) rfl SS ?_;clear SS;intro Xc Bc SS;simp only[nn])|(refine zS (V.cs) 4 48 (by rfl) rfl rfl rfl rfl (Gf _) szD SS rfl ?_;clear SS;intro Xz SS;simp only[nn])))
   go_ret2
   exact⟨h1,false, .iface t v,rfl,⟨(Aa HLO).1, .inr ⟨_,_,rfl⟩⟩,HP.To.end H (Aa SS) hb1⟩
  |true=>
   go_wp2_with (first|go_skip|((with_reducible show wpList ..);first|(refine zA 48 (Ar.cs) (by rfl) rfl SS ?_;clear SS;intro Xc Bc SS;simp only[nn])|(refine zS (V.cs) 4 48 (by rfl) rfl rfl rfl rfl (Gf _) szD SS rfl ?_;clear SS;intro Xz SS;simp only[nn])))
   go_ret2
   exact⟨h1,false, .iface t v,rfl,⟨(Aa HLO).1, .inr ⟨_,_,rfl⟩⟩,HP.To.end H (Aa SS) hb1⟩
