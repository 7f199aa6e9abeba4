import Derived.Test.YtieahhciibdnaaaGreatDoorRe
import Derived.Test.YtieahhciibdnaaaGreatDoorRg
set_option linter.all false
namespace Go.Proofs.YtieahhciibdnaaaGreatDoor
set_option maxRecDepth 100000
set_option maxHeartbeats 0
section
open Go Go.Proofs Go.Maps Go.RowKit FM
attribute [local go_sem] Ak Ae Aq Dl Dk Bl Af Aj Ad Bj Et Es
def IsE (er:Value):Prop:=er= .nilIface∨ ∃t v,er= .iface t v
theorem NS.inn {h:HP} {j:Nat} {q:OB} {p:EX} (N:NS h j q p):NS h.inn j q p:=⟨N.hl,N.hj,N.ow,N.he,N.W,N.hm⟩
def Lo (h h1:HP) (c:Int):Prop:= ∃f:Int,h1={h with fuel:=f}/\h.fuel - c<=f/\f<=h.fuel
theorem Lo.refl {h:HP}:Lo h h 0:=⟨h.fuel,rfl,by omega,by omega⟩
theorem Lo.more {h h1:HP} {c d:Int} (A:Lo h h1 c) (hc:c<=d):Lo h h1 d:=by
 obtain⟨f,e,a,b⟩:=A
 exact⟨f,e,by omega,b⟩
theorem Lo.less {h h1:HP} {c:Int} (A:Lo h.inn h1 c):Lo h h1.out (c+1):=by
 obtain⟨f,e,a,b⟩:=A
 subst e
 have a':h.fuel - 1 - c<=f:=a
 have b':f<=h.fuel - 1:=b
 refine⟨f, ?_,by omega,by omega⟩
 unfold HP.inn HP.out
 simp
theorem Lo.ent {h h1:HP} {c:Int} (A:Lo h h1 c):h1.ent=h.ent:=by
 obtain⟨f,rfl, -⟩:=A
 rfl
theorem inn_ok {h:HP} (K:h.Ok) (hf:h.fuel≠0) (hd:h.ent≠h.depth):h.inn.Ok:=⟨K.len,by show 0<=h.fuel - 1;have:=K.f0;omega,by show h.fuel - 1<=_;have:=K.f1;omega,by show 0<=h.ent+1;have:=K.e0;omega,by show h.ent+1<=h.depth;have:=K.e1;omega,K.d1⟩
structure Vals (p:EX):Prop where
 sz: ∀a∈p.l,a.v.s.size<=1048576
theorem find_mem {p:EX} (W:p.Wf) {s:ByteArray} {b:BN} (h:p.find s=some b):b∈p.l:=by
 obtain⟨i, -,h2, -⟩:=Zdd W h
 exact List.mem_of_getElem? h2
theorem enGet_x (h:HP) (j:Nat) (q:OB) (p:EX) (k:KK) (r:VV) (w:World) (H:h.Is w) (K:h.Ok) (N:NS h j q p) (V0:Vals p) (hk:OkK k) (hs:k.n=0) (hf:h.fuel≠0) (hd:h.ent≠h.depth):Calls Tryz.prog 56 #[.pointer (some ⟨h.b,0,none⟩), .int .i64 ((j:Int)+1),k.agg,r.agg] w fun e w'=> ∃(h1:HP) (V:VV) (er:Value),e= .returned (.tuple #[V.agg,er])/\(Lo h h1 1/\IsE er)/\h.To h1 w w':=by
 refine(Zdh h j q k r (fun h1 V er=>Lo h.inn h1 0/\IsE er) w H K N.hj N.hm hf hd (fun X TX=> ?_)).mono (fun e w' hh=> ?_)
 ·cases hfd:p.find k.s with
  |none=>
   refine(get_no h.inn j q p k r X TX.is N.inn hk hs hfd).mono (fun e w' hh=> ?_)
   exact⟨h.inn,Eh, .nilIface,hh.1,⟨Lo.refl, .inl rfl⟩,rfl,HP.To.refl TX.is hh.2⟩
  |some b=>
   by_cases h0:b.v.k=0
   ·refine(Zdc h.inn j q p k r b X TX.is N.inn hk hs hfd h0).mono (fun e w' hh=> ?_)
    obtain⟨B,he,S⟩:=hh
    exact⟨h.inn,zeroV,Uk B,he,⟨Lo.refl, .inr ⟨_,_,rfl⟩⟩,rfl,HP.To.refl TX.is S.fr.below⟩
   ·refine(Zdb h.inn j q p k r b X TX.is N.inn hk hs hfd (V0.sz b (find_mem N.W hfd)) h0).mono (fun e w' hh=> ?_)
    exact⟨h.inn,b.v, .nilIface,hh.1,⟨Lo.refl, .inl rfl⟩,rfl,HP.To.refl TX.is hh.2⟩
 ·obtain⟨h1,V,er,he,hP,T⟩:=hh
  exact⟨h1.out,V,er,he,⟨hP.1.less,hP.2⟩,T⟩
theorem ZaN (h:HP) (j:Nat) (q:OB) (p:EX) (k:KK) (r:VV) (w:World) (H:h.Is w) (hT:Tabs w) (K:h.Ok) (N:NS h j q p) (V0:Vals p) (hk:OkK k) (hs:k.n=0) (hf:h.fuel≠0) (hd:h.ent≠h.depth):Calls Tryz.prog 25 #[.pointer (some ⟨h.b,0,none⟩), .int .i64 ((j:Int)+1),k.agg,r.agg] w fun e w'=> ∃(h1:HP) (V:VV) (er:Value),e= .returned (.tuple #[V.agg,er])/\(Lo h h1 1/\IsE er)/\h.To h1 w w':=by
 refine(dorGet h ((j:Int)+1) k r w H K.len hT (fun h1 V er=>Lo h h1 1/\IsE er) (fun j' q' X hj0 hj' hc TX=> ?_)).mono (fun e w' hh=> ?_)
 ·obtain rfl:j=j':=by omega
  exact enGet_x h j q p k r X TX.is K N V0 hk hs hf hd
 ·obtain⟨h1,V,er,he,hP,T⟩:=hh
  refine⟨h1,V,er,he, ?_,T⟩
  rcases hP with ⟨-,rfl,rfl⟩|⟨-,hP⟩
  ·exact⟨Lo.refl.more (by omega), .inr ⟨_,_,rfl⟩⟩
  ·exact hP
theorem gop_no (h:HP) (j:Nat) (q:OB) (p:EX) (k:KK) (w:World) (H:h.Is w) (hT:Tabs w) (K:h.Ok) (N:NS h j q p) (V0:Vals p) (hk:OkK k) (hs:k.n=0) (hf:p.find k.s=none):Calls Tryz.prog 227 #[.agg #[], .pointer (some ⟨h.b,0,none⟩), .int .i64 ((j:Int)+1),k.agg] w fun e w'=> ∃(h1:HP) (V:DD) (y:Bool) (er:Value),e= .returned (.tuple #[V.agg, .bool y,er])/\(Lo h h1 1/\IsE er)/\h.To h1 w w':=by
 have SS:=Ab H.start
 simp only[Dg,Lh]
 go_enter Tryz.func227,Tryz.ntmps227
 go_wp2_with (first|go_skip|((with_reducible show wpList ..);first|((refine Kk (by rfl) rfl rfl (Aa SS) ?_);intro X0 B0 S0;replace SS:=Ab S0;clear S0;simp only[nn])|(refine zB 45 (k.cs) (by rfl) rfl rfl rfl SS ?_;clear SS;intro Xa Ba SS;simp only[nn])|(refine zA 48 (Ar.cs) (by rfl) rfl SS ?_;clear SS;intro Xb Bb SS;simp only[nn])|(refine zL (k.cs) 45 2 2 rwK szK (by rfl) rfl rfl SS rfl rfl rfl ?_;simp only[nn])))
 have HC:=fun X=>En k X
 simp only[Dg] at HC
 refine(HC _).mono ?_
 clear HC
 rintro _ Y ⟨rfl,hb⟩
 replace SS:=Ab ((Aa SS).on hb)
 clear hb
 rw[show (k.n !=0)=false by simp[hs]]
 go_wp2_with (first|go_skip|((with_reducible show wpList ..);first|(refine rd rfl (ldA rfl rfl) ?_)|(refine zL (k.cs) 45 2 2 rwK szK (by rfl) rfl rfl SS rfl rfl rfl ?_;simp only[nn])))
 have HC:=Ja h j q p k _ ((Aa SS).hp 0 rfl) N hk
 rw[Dg,Og] at HC
 refine HC.mono ?_
 clear HC
 rintro _ Y ⟨rfl,hb⟩
 replace SS:=Ab ((Aa SS).on hb)
 clear hb
 rw[hf]
 go_wp2_with (first|go_skip|((with_reducible show wpList ..);first|(refine zA 130 (Jb.cs) (by rfl) rfl SS ?_;clear SS;intro Xb2 Bb2 SS;simp only[nn])|(refine zS (hp:=(show 0+6<=6 by decide)) ((Ro p k.s).cs) 4 130 (by rfl) rfl rfl rfl rfl (Ey _) szB SS rfl ?_;clear SS;intro Xz SS;simp only[nn])|(refine rd rfl (Nk rfl) ?_)|(refine zS (Ar.cs) 3 48 (by rfl) rfl rfl rfl rfl (Gf _) szD SS rfl ?_;clear SS;intro Xz2 SS;simp only[nn])))
 refine bodyPost_ret (Ge rwD szD rfl rfl rfl rfl ((Aa SS).hold 3 rfl) rfl) rfl ?_
 exact⟨h,Ar,false, .nilIface,rfl,⟨Lo.refl.more (by omega), .inl rfl⟩,HP.To.end H (Aa SS) rfl⟩
end
section
open Go Go.Proofs Go.Maps Go.RowKit FM Tryz
attribute [local go_sem] Ak Ae Aq Dl Dk Bl Af Aj Ad Bj Et Es
def Pz (i:Int):VV:=⟨7,false,0,ByteArray.empty,i⟩
theorem Yo (v:VV) (hg:v.good=true) (w:World) (hT:Lib.Utf8Tabs 1 2 w):Calls prog 46 #[v.agg] w fun e w'=>e= .returned (v.agg)/\Below w.heap.size w w':=by
 have SS:=Ab (Sy.nil w [])
 have HT:=Ab hT
 clear hT
 have HI:=fun X h=>Zbz v hg X h
 have HO:=fun X=>Zbh v hg X
 clear hg
 generalize v.ifc=f at HI HO
 simp only[Db] at HI HO ⊢
 go_enter func46,ntmps46
 go_wp2_with (first|go_skip|((with_reducible show wpList ..);first|(refine zB 26 (v.cs) (by rfl) rfl rfl rfl SS ?_;clear SS;intro Xa Ba SS;simp only[nn])|(refine zA 26 (zeroV.cs) (by rfl) rfl SS ?_;clear SS;intro Xb Bb SS;simp only[nn])|(refine zL (v.cs) 26 5 0 rwV szV (by rfl) rfl rfl SS rfl rfl rfl ?_;simp only[nn])))
 refine(HI _ (Al (Aa HT) (Aa SS).fr.below)).mono ?_
 rintro _ Y1 ⟨rfl,hb1⟩
 replace SS:=Ab ((Aa SS).on hb1)
 clear hb1
 go_wp2_with fail
 refine(HO _).mono ?_
 rintro _ Y2 ⟨rfl,hb2⟩
 replace SS:=Ab ((Aa SS).on hb2)
 clear hb2
 go_wp2_with (first|go_skip|((with_reducible show wpList ..);first|(refine zS (v.cs) 1 26 (by rfl) rfl rfl rfl rfl (Ex _) szV SS rfl ?_;clear SS;intro Xz SS;simp only[nn])))
 refine Ol rwV szV rfl rfl rfl ((Aa SS).hold 1 rfl) rfl ?_
 exact⟨rfl,(Aa SS).fr.below⟩
theorem ex_bRef {o:Oper} {a:Act} {w:World} {x:Operand} {i:Int} (ho:o.op= .build 26 #[(0, .const (.int .i64 7)),(4,x)]) (hx:a.eval x= .int .i64 i):(execOp a.eval o).run prog w= .ok (.value (.agg (Pz i).cs.toArray)) w:=by
 have e:(Instr.build 26 #[(0, .int .i64 7),(4, .int .i64 i)]).run prog w= .ok (.agg (Pz i).cs.toArray) w:=by kernel_rfl
 unfold execOp
 simp only[ho,List.map_toArray,List.map_cons,List.map_nil,hx]
 simp[e,Act.eval]
theorem ref_good {i:Int} (h:1<=i) (h2:i<=65536):(Pz i).good=true:=by
 simp[VV.good,Ke,Vh,Pz,inG]
 exact⟨decide_eq_true h,decide_eq_true h2⟩
def ZbT (v:VV):DD:=⟨v,zeroV,zeroV,2,2,1⟩
theorem ZaK {o:Oper} {a:Act} {w:World} {x:Operand} (v:VV) (ho:o.op= .build 48 #[(0,x),(3, .const (.int .i64 2)),(4, .const (.int .i64 2)),(5, .const (.int .i64 1))]) (hx:a.eval x= .agg v.cs.toArray):(execOp a.eval o).run prog w= .ok (.value (.agg (ZbT v).cs.toArray)) w:=by
 have e:(Instr.build 48 #[(0, .agg v.cs.toArray),(3, .int .i64 2),(4, .int .i64 2),(5, .int .i64 1)]).run prog w= .ok (.agg (ZbT v).cs.toArray) w:=by kernel_rfl
 unfold execOp
 simp only[ho,List.map_toArray,List.map_cons,List.map_nil,hx]
 simp[e,Act.eval]
theorem Nv (i:Int) (hi:1<=i) (hi2:i<=65536) (w:World) (hT:Lib.Utf8Tabs 1 2 w):Calls prog 18 #[.int .i64 i] w fun e w'=>e= .returned ((Pz i).agg)/\Below w.heap.size w w':=by
 have SS:=Ab (Sy.nil w [])
 have HT:=Ab hT
 clear hT
 have HC:=fun X h=>Yo (Pz i) (ref_good hi hi2) X h
 simp only[Db] at HC ⊢
 go_enter func18,ntmps18
 go_wp2_with (first|go_skip|((with_reducible show wpList ..);first|(refine zA 26 (zeroV.cs) (by rfl) rfl SS ?_;clear SS;intro Xa Ba SS;simp only[nn])|(refine rd rfl (ex_bRef rfl rfl) ?_)))
 refine(HC _ (Al (Aa HT) (Aa SS).fr.below)).mono ?_
 rintro _ Y1 ⟨rfl,hb1⟩
 replace SS:=Ab ((Aa SS).on hb1)
 clear hb1
 go_wp2_with (first|go_skip|((with_reducible show wpList ..);first|(refine zS ((Pz i).cs) 0 26 (by rfl) rfl rfl rfl rfl (Ex _) szV SS rfl ?_;clear SS;intro Xz SS;simp only[nn])))
 refine Ol rwV szV rfl rfl rfl ((Aa SS).hold 0 rfl) rfl ?_
 exact⟨rfl,(Aa SS).fr.below⟩
theorem gop_yes (h:HP) (j:Nat) (q:OB) (p:EX) (k:KK) (b:BN) (w:World) (H:h.Is w) (hT:Tabs w) (K:h.Ok) (N:NS h j q p) (V0:Vals p) (hk:OkK k) (hs:k.n=0) (hf:p.find k.s=some b) (hf0:h.fuel≠0) (hd:h.ent≠h.depth):Calls prog 227 #[.agg #[], .pointer (some ⟨h.b,0,none⟩), .int .i64 ((j:Int)+1),k.agg] w fun e w'=> ∃(h1:HP) (V:DD) (y:Bool) (er:Value),e= .returned (.tuple #[V.agg, .bool y,er])/\(Lo h h1 1/\IsE er)/\h.To h1 w w':=by
 have SS:=Ab H.start
 simp only[Dg,Lh]
 go_enter func227,ntmps227
 go_wp2_with (first|go_skip|((with_reducible show wpList ..);first|((refine Kk (by rfl) rfl rfl (Aa SS) ?_);intro X0 B0 S0;replace SS:=Ab S0;clear S0;simp only[nn])|(refine zB 45 (k.cs) (by rfl) rfl rfl rfl SS ?_;clear SS;intro Xa Ba SS;simp only[nn])|(refine zA 48 (Ar.cs) (by rfl) rfl SS ?_;clear SS;intro Xb Bb SS;simp only[nn])|(refine zL (k.cs) 45 2 2 rwK szK (by rfl) rfl rfl SS rfl rfl rfl ?_;simp only[nn])))
 have HC:=fun X=>En k X
 simp only[Dg] at HC
 refine(HC _).mono ?_
 clear HC
 rintro _ Y ⟨rfl,hb⟩
 replace SS:=Ab ((Aa SS).on hb)
 clear hb
 rw[show (k.n !=0)=false by simp[hs]]
 go_wp2_with (first|go_skip|((with_reducible show wpList ..);first|(refine rd rfl (ldA rfl rfl) ?_)|(refine zL (k.cs) 45 2 2 rwK szK (by rfl) rfl rfl SS rfl rfl rfl ?_;simp only[nn])))
 have HC:=Ja h j q p k _ ((Aa SS).hp 0 rfl) N hk
 rw[Dg,Og] at HC
 refine HC.mono ?_
 clear HC
 rintro _ Y ⟨rfl,hb⟩
 replace SS:=Ab ((Aa SS).on hb)
 clear hb
 rw[hf]
 go_wp2_with (first|go_skip|((with_reducible show wpList ..);first|(refine zA 130 (Jb.cs) (by rfl) rfl SS ?_;clear SS;intro Xb2 Bb2 SS;simp only[nn])|(refine zS (hp:=(show 0+6<=6 by decide)) ((Ro p k.s).cs) 4 130 (by rfl) rfl rfl rfl rfl (Ey _) szB SS rfl ?_;clear SS;intro Xz SS;simp only[nn])))
 have hS6:Sy w _ h.blocks [hpO h,empO 87 B0,Ao Ba k.cs,Ao Bb Ar.cs]:=Sy.left (M:= [_]) (Aa SS).drew
 clear SS
 refine wp_region_held_drew (P:=prog) (S:=fun X=>Holds X Ba k.cs) (by kernel_rfl) (hS6.hold 2 rfl) (fun hS0=> ?_)
 refine gp 0 (some 38) (.pointer (some ⟨h.b,0,none⟩)) rfl rfl (hS6.hold 2 rfl) ?_
 refine gp 1 (some 39) (.int .i64 ((j:Int)+1)) rfl rfl (hS6.hold 2 rfl) ?_
 refine gq 2 (some 40) (.agg k.cs.toArray) rfl rfl (fun X hX=>Am (vs:=k.cs) 45 2 rwK szK rfl rfl hX rfl rfl) (hS6.hold 2 rfl) ?_
 refine gp 3 (some 41) (.int .i64 ((j:Int)+1)) rfl rfl (hS6.hold 2 rfl) ?_
 refine gr (rs:= [4,9]) (gc 4 (some 42) rfl rfl (Nv ((j:Int)+1) (by omega) (by have:=(List.getElem?_eq_some_iff.1 N.hj).1;have:=N.hl;omega) _ (hT.fr hS6.fr H.low).1) ?_ (Lg (v:= .agg (zeroV.cs).toArray) 9 (some 13) 26 (zeroV.cs) rfl rfl (by kernel_rfl) rfl (fun w=>by kernel_rfl) rfl (Nat.succ_pos _) hS6 (fun _ hZ=>hZ.hold 2 rfl) ?_ gn))
 ·rintro e Yt1 ⟨rfl,hYt1⟩
  have hqt1:=Sy.on hS6 hYt1
  refine⟨_,rfl,hqt1.hold 2 rfl, ?_⟩
  simp only[nn]
  refine gr (rs:= [5,9]) (gc 5 (some 43) rfl rfl (ZaN h j q p k (Pz ((j:Int)+1)) _ (hqt1.hp 0 rfl) (hT.fr hqt1.fr H.low) K N V0 hk hs hf0 hd) ?_ (Lg (v:= .agg (zeroV.cs).toArray) 9 (some 13) 26 (zeroV.cs) rfl rfl (by kernel_rfl) rfl (fun w=>by kernel_rfl) rfl (Nat.succ_pos _) hqt1 (fun _ hZ=>hZ.hold 2 rfl) ?_ gn))
  ·rintro e Yt2 ⟨h1,V,er,rfl,hLo,T1⟩
   have hqG:=Sy.heap hqt1 0 rfl T1
   refine⟨_,rfl,hqG.hold 2 rfl, ?_⟩
   refine gp 6 (some 37) (.tuple #[V.agg,er]) rfl rfl (hqG.hold 2 rfl) ?_
   refine gp 7 (some 44) (V.agg) rfl rfl (hqG.hold 2 rfl) ?_
   refine gp 8 (some 45) (er) rfl rfl (hqG.hold 2 rfl) ?_
   refine gr (rs:= [9]) (Lg (v:= .agg (zeroV.cs).toArray) 9 (some 13) 26 (zeroV.cs) rfl rfl (by kernel_rfl) rfl (fun w=>by kernel_rfl) rfl (Nat.succ_pos _) hqG (fun _ hZ=>hZ.hold 2 rfl) ?_ gn)
   intro Yt3 Bt3 hEt3 hqt3
   clear hEt3
   simp only[nn]
   refine gr (rs:= [10]) (Jd (vs:=V.cs) (new:=V.cs) 10 4 26 rfl rfl (by kernel_rfl) rfl rfl rfl rfl (Ex _) szV hqt3 rfl (by simp[Bz,VV.cs,KK.cs,DD.cs,OB.cs,hcs,Ar,zeroV]) (by simp[Bz,VV.cs,KK.cs,DD.cs,OB.cs,hcs,Ar,zeroV]) (fun _ hZ=>hZ.hold 2 rfl) ?_ gn)
   intro Yt4 hqt4
   refine gp 11 (some 14) (er) rfl rfl (hqt4.hold 2 rfl) ?_
   refine dn ?_
   try simp only[nn]
   have SS:=Ab hqt4
   have HLO:=Ab hLo
   clear hLo
   have hb1:h1.b=h.b:=T1.hb
   clear T1
   rcases (Aa HLO).2 with rfl|⟨t,v,rfl⟩
   ·go_wp2_with (first|go_skip|((with_reducible show wpList ..);first|(refine zL (V.cs) 26 5 4 rwV szV (by rfl) rfl rfl SS rfl rfl rfl ?_;simp only[nn])|(refine rd rfl (ZaK V rfl rfl) ?_)|(refine zS ((ZbT V).cs) 3 48 (by rfl) rfl rfl rfl rfl (Gf _) szD SS rfl ?_;clear SS;intro Xz3 SS;simp only[nn])))
    refine bodyPost_ret (Ge rwD szD rfl rfl rfl rfl ((Aa SS).hold 3 rfl) rfl) rfl ?_
    exact⟨h1,ZbT V,true, .nilIface,rfl,⟨(Aa HLO).1, .inl rfl⟩,HP.To.end H (Aa SS) hb1⟩
   ·go_wp2_with (first|go_skip|((with_reducible show wpList ..);first|(refine rd rfl (Nk rfl) ?_)|(refine zS (Ar.cs) 3 48 (by rfl) rfl rfl rfl rfl (Gf _) szD SS rfl ?_;clear SS;intro Xz3 SS;simp only[nn])))
    refine bodyPost_ret (Ge rwD szD rfl rfl rfl rfl ((Aa SS).hold 3 rfl) rfl) rfl ?_
    exact⟨h1,Ar,false, .iface t v,rfl,⟨(Aa HLO).1, .inr ⟨_,_,rfl⟩⟩,HP.To.end H (Aa SS) hb1⟩
  ·intro Yt5 Bt5 hEt5 hqt5
   clear hEt5
   simp only[nn]
   refine gr (rs:= [5]) (gc 5 (some 43) rfl rfl (ZaN h j q p k (Pz ((j:Int)+1)) _ (hqt5.hp 0 rfl) (hT.fr hqt5.fr H.low) K N V0 hk hs hf0 hd) ?_ gn)
   rintro e Yt6 ⟨h1,V,er,rfl,hLo,T1⟩
   have hqG:=Sy.heap hqt5 0 rfl T1
   refine⟨_,rfl,hqG.hold 2 rfl, ?_⟩
   refine gp 6 (some 37) (.tuple #[V.agg,er]) rfl rfl (hqG.hold 2 rfl) ?_
   refine gp 7 (some 44) (V.agg) rfl rfl (hqG.hold 2 rfl) ?_
   refine gp 8 (some 45) (er) rfl rfl (hqG.hold 2 rfl) ?_
   refine gr (rs:= [10]) (Jd (vs:=V.cs) (new:=V.cs) 10 4 26 rfl rfl (by kernel_rfl) rfl rfl rfl rfl (Ex _) szV hqG rfl (by simp[Bz,VV.cs,KK.cs,DD.cs,OB.cs,hcs,Ar,zeroV]) (by simp[Bz,VV.cs,KK.cs,DD.cs,OB.cs,hcs,Ar,zeroV]) (fun _ hZ=>hZ.hold 2 rfl) ?_ gn)
   intro Yt7 hqt7
   refine gp 11 (some 14) (er) rfl rfl (hqt7.hold 2 rfl) ?_
   refine dn ?_
   try simp only[nn]
   have SS:=Ab hqt7
   have HLO:=Ab hLo
   clear hLo
   have hb1:h1.b=h.b:=T1.hb
   clear T1
   rcases (Aa HLO).2 with rfl|⟨t,v,rfl⟩
   ·go_wp2_with (first|go_skip|((with_reducible show wpList ..);first|(refine zL (V.cs) 26 5 4 rwV szV (by rfl) rfl rfl SS rfl rfl rfl ?_;simp only[nn])|(refine rd rfl (ZaK V rfl rfl) ?_)|(refine zS ((ZbT V).cs) 3 48 (by rfl) rfl rfl rfl rfl (Gf _) szD SS rfl ?_;clear SS;intro Xz3 SS;simp only[nn])))
    refine bodyPost_ret (Ge rwD szD rfl rfl rfl rfl ((Aa SS).hold 3 rfl) rfl) rfl ?_
    exact⟨h1,ZbT V,true, .nilIface,rfl,⟨(Aa HLO).1, .inl rfl⟩,HP.To.end H (Aa SS) hb1⟩
   ·go_wp2_with (first|go_skip|((with_reducible show wpList ..);first|(refine rd rfl (Nk rfl) ?_)|(refine zS (Ar.cs) 3 48 (by rfl) rfl rfl rfl rfl (Gf _) szD SS rfl ?_;clear SS;intro Xz3 SS;simp only[nn])))
    refine bodyPost_ret (Ge rwD szD rfl rfl rfl rfl ((Aa SS).hold 3 rfl) rfl) rfl ?_
    exact⟨h1,Ar,false, .iface t v,rfl,⟨(Aa HLO).1, .inr ⟨_,_,rfl⟩⟩,HP.To.end H (Aa SS) hb1⟩
 ·intro Yt8 Bt8 hEt8 hqt8
  clear hEt8
  simp only[nn]
  refine gr (rs:= [4]) (gc 4 (some 42) rfl rfl (Nv ((j:Int)+1) (by omega) (by have:=(List.getElem?_eq_some_iff.1 N.hj).1;have:=N.hl;omega) _ (hT.fr hqt8.fr H.low).1) ?_ gn)
  rintro e Yt9 ⟨rfl,hYt9⟩
  have hqt9:=Sy.on hqt8 hYt9
  refine⟨_,rfl,hqt9.hold 2 rfl, ?_⟩
  simp only[nn]
  refine gr (rs:= [5]) (gc 5 (some 43) rfl rfl (ZaN h j q p k (Pz ((j:Int)+1)) _ (hqt9.hp 0 rfl) (hT.fr hqt9.fr H.low) K N V0 hk hs hf0 hd) ?_ gn)
  rintro e Yt10 ⟨h1,V,er,rfl,hLo,T1⟩
  have hqG:=Sy.heap hqt9 0 rfl T1
  refine⟨_,rfl,hqG.hold 2 rfl, ?_⟩
  refine gp 6 (some 37) (.tuple #[V.agg,er]) rfl rfl (hqG.hold 2 rfl) ?_
  refine gp 7 (some 44) (V.agg) rfl rfl (hqG.hold 2 rfl) ?_
  refine gp 8 (some 45) (er) rfl rfl (hqG.hold 2 rfl) ?_
  refine gr (rs:= [10]) (Jd (vs:=V.cs) (new:=V.cs) 10 4 26 rfl rfl (by kernel_rfl) rfl rfl rfl rfl (Ex _) szV hqG rfl (by simp[Bz,VV.cs,KK.cs,DD.cs,OB.cs,hcs,Ar,zeroV]) (by simp[Bz,VV.cs,KK.cs,DD.cs,OB.cs,hcs,Ar,zeroV]) (fun _ hZ=>hZ.hold 2 rfl) ?_ gn)
  intro Yt11 hqt11
  refine gp 11 (some 14) (er) rfl rfl (hqt11.hold 2 rfl) ?_
  refine dn ?_
  try simp only[nn]
  have SS:=Ab hqt11
  have HLO:=Ab hLo
  clear hLo
  have hb1:h1.b=h.b:=T1.hb
  clear T1
  rcases (Aa HLO).2 with rfl|⟨t,v,rfl⟩
  ·go_wp2_with (first|go_skip|((with_reducible show wpList ..);first|(refine zL (V.cs) 26 5 4 rwV szV (by rfl) rfl rfl SS rfl rfl rfl ?_;simp only[nn])|(refine rd rfl (ZaK V rfl rfl) ?_)|(refine zS ((ZbT V).cs) 3 48 (by rfl) rfl rfl rfl rfl (Gf _) szD SS rfl ?_;clear SS;intro Xz3 SS;simp only[nn])))
   refine bodyPost_ret (Ge rwD szD rfl rfl rfl rfl ((Aa SS).hold 3 rfl) rfl) rfl ?_
   exact⟨h1,ZbT V,true, .nilIface,rfl,⟨(Aa HLO).1, .inl rfl⟩,HP.To.end H (Aa SS) hb1⟩
  ·go_wp2_with (first|go_skip|((with_reducible show wpList ..);first|(refine rd rfl (Nk rfl) ?_)|(refine zS (Ar.cs) 3 48 (by rfl) rfl rfl rfl rfl (Gf _) szD SS rfl ?_;clear SS;intro Xz3 SS;simp only[nn])))
   refine bodyPost_ret (Ge rwD szD rfl rfl rfl rfl ((Aa SS).hold 3 rfl) rfl) rfl ?_
   exact⟨h1,Ar,false, .iface t v,rfl,⟨(Aa HLO).1, .inr ⟨_,_,rfl⟩⟩,HP.To.end H (Aa SS) hb1⟩
theorem gop_x (h:HP) (j:Nat) (q:OB) (p:EX) (k:KK) (w:World) (H:h.Is w) (hT:Tabs w) (K:h.Ok) (N:NS h j q p) (V0:Vals p) (hk:OkK k) (hs:k.n=0) (hf0:h.fuel≠0) (hd:h.ent≠h.depth):Calls prog 227 #[.agg #[], .pointer (some ⟨h.b,0,none⟩), .int .i64 ((j:Int)+1),k.agg] w fun e w'=> ∃(h1:HP) (V:DD) (y:Bool) (er:Value),e= .returned (.tuple #[V.agg, .bool y,er])/\(Lo h h1 1/\IsE er)/\h.To h1 w w':=by
 cases hf:p.find k.s with
 |none=>exact gop_no h j q p k w H hT K N V0 hk hs hf
 |some b=>exact gop_yes h j q p k b w H hT K N V0 hk hs hf hf0 hd
