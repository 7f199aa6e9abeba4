import Derived.Test.YtlpdllcedgnaaaaGreatDoorRq
set_option linter.all false
namespace Go.Proofs.YtlpdllcedgnaaaaGreatDoor
set_option maxRecDepth 100000
set_option maxHeartbeats 0
section
open Go Go.Proofs Go.Maps Go.RowKit FM Tryz
attribute [local go_sem] Ao Ai Am Dq Dp Br Ah Bq
theorem set_s (h:HP) (j:Nat) (q:OB) (u:List Nat) (k:KK) (v r:VV) (w:World) (H:h.Is w) (K:h.Ok) (hl1:h.l= [q]) (hj:h.l[j]? =some q) (Q:QI u q) (U:Un h q.ov u w) (hu:UOk u) (hn:u.length<=2000) (hT:Tabs w) (hg:goodK k=true) (hv:v.x<2^64) (hla:q.T.last<100000) (hf:3<=h.fuel) (hd:h.ent+1<=h.depth) (hrk:r.k=7) (hri:r.i=(j:Int)+1):Calls prog 166 #[.agg #[], .pointer (some ⟨h.b,0,none⟩), .int .i64 ((j:Int)+1),k.agg,v.agg,r.agg] w fun e w'=> ∃(h1:HP) (y:Bool),e= .returned (.tuple #[.bool y, .nilIface])/\Nx u 2 1 h q h1/\h.To h1 w w':=by
 have hl:=K.len
 have ht:=Q.ot
 have HO:=fun (X:World) (hX:h.To h w X)=>Zcf h j q u k X hX.is hl hj ht (U.to hX) hu (hX.tabs H hT) hg
 have HW:=fun (X:World) (hX:h.To h w X)=>write_s h j q u k v X hX.is K hl1 hj Q (U.to hX) hu hn (hX.tabs H hT) hg hv hla hf hd
 have HSK:=(Q.so_k k).2.2
 have hpk:(2:Int)≠7:=by decide
 have HP0:=Q.p
 rw[←hri] at HW
 clear hri
 simp only[Ec,Dj,Es] at HO HW ⊢
 have SS:=Ab H.start
 have HOB:=fun (X:World) (hX:h.Is X)=>(hX.ob hj).1
 rcases hso:soB q u k with _|_
 ·simp only[hso] at HO
  generalize hG:soD q u k=G at *
  go_enter func166,ntmps166
  go_wp2_with (first|go_skip|((with_reducible show wpList ..);first|((refine bx0 85 (by rfl) rfl rfl (Aa SS) ?_);intro X0 B0 S0;replace SS:=Ab S0;clear S0;simp only[nn])|(refine zB 40 (k.cs) (by rfl) rfl rfl rfl SS ?_;clear SS;intro Xa Ba SS;simp only[nn])|(refine zB 36 (v.cs) (by rfl) rfl rfl rfl SS ?_;clear SS;intro Xe Be SS;simp only[nn])|(refine zB 36 (r.cs) (by rfl) rfl rfl rfl SS ?_;clear SS;intro Xg Bg SS;simp only[nn])|(refine zL (k.cs) 40 2 1 rwK szK (by rfl) rfl rfl SS rfl rfl rfl ?_;simp only[nn])))
  refine(HO _ (HP.To.end H (Aa SS) rfl)).mono ?_
  rintro _ Y1 ⟨rfl,hb1⟩
  replace SS:=Ab ((Aa SS).on hb1)
  clear hb1
  go_wp2_with (first|go_skip|((with_reducible show wpList ..);first|(refine zA 43 (Al.cs) (by rfl) rfl SS ?_;clear SS;intro Xb Bb SS;simp only[nn])|(refine zS (G.cs) 4 43 (by rfl) rfl rfl rfl rfl (Ea _) szD SS rfl ?_;clear SS;intro Xz SS;simp only[nn])))
  refine(Lv h j q _ ((Aa SS).hp 0 rfl) hj hl).mono ?_
  rintro _ _ ⟨rfl,rfl⟩
  have HO2:=Ab (((Aa SS).hp 0 rfl).ob hj).1
  have hpq:q.p.k≠7:=by rw[HP0];exact hpk
  go_wp2_with (first|go_skip|((with_reducible show wpList ..);first|(refine rd rfl (Aj (vs:=q.p.cs) 36 5 rwV szV rfl rfl (Aa HO2) rfl rfl) ?_)|(refine zA 36 (Bh.cs) (by rfl) rfl SS ?_;clear SS;intro Xc Bc SS;simp only[nn])|(refine zS (q.p.cs) 5 36 (by rfl) rfl rfl rfl rfl (Jl _) szV SS rfl ?_;clear SS;intro Xy SS;simp only[nn])|(refine rd rfl (Ad 3 isAgg3 rfl rfl ((Aa SS).hold 5 rfl) rfl) ?_)|(refine zL (k.cs) 40 2 1 rwK szK (by rfl) rfl rfl SS rfl rfl rfl ?_;simp only[nn])|(refine zL (v.cs) 36 5 2 rwV szV (by rfl) rfl rfl SS rfl rfl rfl ?_;simp only[nn])|(refine zL (r.cs) 36 5 3 rwV szV (by rfl) rfl rfl SS rfl rfl rfl ?_;simp only[nn])|(refine rd rfl (Je rfl rfl rfl hpq) ?_)))
  refine(Na _).mono ?_
  rintro _ Y2 ⟨rfl,hb1⟩
  replace SS:=Ab ((Aa SS).on hb1)
  clear hb1
  rw[show VV.agg ⟨1,false,0,ByteArray.empty,0⟩=Dv.agg from rfl]
  go_wp2_with fail
  refine(Zay Dv _).mono ?_
  rintro _ Y3 ⟨rfl,hb1⟩
  replace SS:=Ab ((Aa SS).on hb1)
  clear hb1
  rw[Es]
  go_wp2_with (first|go_skip|((with_reducible show wpList ..);first|(refine zS ((Lz Dv).cs) 4 43 (by rfl) rfl rfl rfl rfl (Ea _) szD SS rfl ?_;clear SS;intro Xx SS;simp only[nn])|(refine zL ((Lz Dv).cs) 43 18 4 rwD szD (by rfl) rfl rfl SS rfl rfl rfl ?_;simp only[nn])))
  refine(Kl (Lz Dv) _).mono ?_
  rintro _ Y4 ⟨rfl,hb1⟩
  replace SS:=Ab ((Aa SS).on hb1)
  clear hb1
  rw[show ((Lz Dv).g.k !=0)=false from rfl]
  go_wp2_with (first|go_skip|((with_reducible show wpList ..);first|(refine rd rfl (Ad 41 isAgg41 rfl rfl ((Aa SS).hold 4 rfl) rfl) ?_)|(refine rd rfl (Qz rfl rfl rfl (show (Lz Dv).w≠1 by decide)) ?_)|(refine rd rfl (Ad 3 isAgg3 rfl rfl ((Aa SS).hold 3 rfl) rfl) ?_)|(refine rd rfl (Uw rfl rfl rfl hrk) ?_)|(refine zL (k.cs) 40 2 1 rwK szK (by rfl) rfl rfl SS rfl rfl rfl ?_;simp only[nn])|(refine zL (v.cs) 36 5 2 rwV szV (by rfl) rfl rfl SS rfl rfl rfl ?_;simp only[nn])))
  refine(HW _ (HP.To.end H (Aa SS) rfl)).mono ?_
  rintro _ Y5 ⟨h1,y,rfl,hN,T2⟩
  replace SS:=Ab ((Aa SS).heap 0 rfl T2)
  have hb1:h1.b=h.b:=T2.hb
  clear T2
  go_wp2
  go_ret2
  exact⟨h1,y,rfl,hN,HP.To.end H (Aa SS) hb1⟩
 ·by_cases hga:(soD q u k).g.k=0
  ·by_cases hwr:(soD q u k).w=1
   ·simp only[hso] at HO
    generalize hG:soD q u k=G at *
    go_enter func166,ntmps166
    go_wp2_with (first|go_skip|((with_reducible show wpList ..);first|((refine bx0 85 (by rfl) rfl rfl (Aa SS) ?_);intro X0 B0 S0;replace SS:=Ab S0;clear S0;simp only[nn])|(refine zB 40 (k.cs) (by rfl) rfl rfl rfl SS ?_;clear SS;intro Xa Ba SS;simp only[nn])|(refine zB 36 (v.cs) (by rfl) rfl rfl rfl SS ?_;clear SS;intro Xe Be SS;simp only[nn])|(refine zB 36 (r.cs) (by rfl) rfl rfl rfl SS ?_;clear SS;intro Xg Bg SS;simp only[nn])|(refine zL (k.cs) 40 2 1 rwK szK (by rfl) rfl rfl SS rfl rfl rfl ?_;simp only[nn])))
    refine(HO _ (HP.To.end H (Aa SS) rfl)).mono ?_
    rintro _ Y1 ⟨rfl,hb1⟩
    replace SS:=Ab ((Aa SS).on hb1)
    clear hb1
    go_wp2_with (first|go_skip|((with_reducible show wpList ..);first|(refine zA 43 (Al.cs) (by rfl) rfl SS ?_;clear SS;intro Xb Bb SS;simp only[nn])|(refine zS (G.cs) 4 43 (by rfl) rfl rfl rfl rfl (Ea _) szD SS rfl ?_;clear SS;intro Xz SS;simp only[nn])))
    refine(Lv h j q _ ((Aa SS).hp 0 rfl) hj hl).mono ?_
    rintro _ _ ⟨rfl,rfl⟩
    have HO2:=Ab (((Aa SS).hp 0 rfl).ob hj).1
    go_wp2_with (first|go_skip|((with_reducible show wpList ..);first|(refine rd rfl (Aj (vs:=q.p.cs) 36 5 rwV szV rfl rfl (Aa HO2) rfl rfl) ?_)|(refine zA 36 (Bh.cs) (by rfl) rfl SS ?_;clear SS;intro Xc Bc SS;simp only[nn])|(refine zS (q.p.cs) 5 36 (by rfl) rfl rfl rfl rfl (Jl _) szV SS rfl ?_;clear SS;intro Xy SS;simp only[nn])|(refine rd rfl (Ad 3 isAgg3 rfl rfl ((Aa SS).hold 5 rfl) rfl) ?_)|(refine zL (k.cs) 40 2 1 rwK szK (by rfl) rfl rfl SS rfl rfl rfl ?_;simp only[nn])|(refine zL (v.cs) 36 5 2 rwV szV (by rfl) rfl rfl SS rfl rfl rfl ?_;simp only[nn])|(refine zL (r.cs) 36 5 3 rwV szV (by rfl) rfl rfl SS rfl rfl rfl ?_;simp only[nn])|(refine zL (G.cs) 43 18 4 rwD szD (by rfl) rfl rfl SS rfl rfl rfl ?_;simp only[nn])))
    have HA:=Kl G
    simp only[Es] at HA
    refine(HA _).mono ?_
    rintro _ Y4 ⟨rfl,hb1⟩
    replace SS:=Ab ((Aa SS).on hb1)
    clear hb1 HA
    rw[show (G.g.k !=0)=false by simp[hga]]
    go_wp2_with (first|go_skip|((with_reducible show wpList ..);first|(refine rd rfl (Ad 41 isAgg41 rfl rfl ((Aa SS).hold 4 rfl) rfl) ?_)|(refine rd rfl (Zr rfl rfl rfl hwr) ?_)))
    go_ret2
    exact⟨h,false,rfl,Nx.refl hl1 Q (by decide),HP.To.end H (Aa SS) rfl⟩
   ·simp only[hso] at HO
    generalize hG:soD q u k=G at *
    go_enter func166,ntmps166
    go_wp2_with (first|go_skip|((with_reducible show wpList ..);first|((refine bx0 85 (by rfl) rfl rfl (Aa SS) ?_);intro X0 B0 S0;replace SS:=Ab S0;clear S0;simp only[nn])|(refine zB 40 (k.cs) (by rfl) rfl rfl rfl SS ?_;clear SS;intro Xa Ba SS;simp only[nn])|(refine zB 36 (v.cs) (by rfl) rfl rfl rfl SS ?_;clear SS;intro Xe Be SS;simp only[nn])|(refine zB 36 (r.cs) (by rfl) rfl rfl rfl SS ?_;clear SS;intro Xg Bg SS;simp only[nn])|(refine zL (k.cs) 40 2 1 rwK szK (by rfl) rfl rfl SS rfl rfl rfl ?_;simp only[nn])))
    refine(HO _ (HP.To.end H (Aa SS) rfl)).mono ?_
    rintro _ Y1 ⟨rfl,hb1⟩
    replace SS:=Ab ((Aa SS).on hb1)
    clear hb1
    go_wp2_with (first|go_skip|((with_reducible show wpList ..);first|(refine zA 43 (Al.cs) (by rfl) rfl SS ?_;clear SS;intro Xb Bb SS;simp only[nn])|(refine zS (G.cs) 4 43 (by rfl) rfl rfl rfl rfl (Ea _) szD SS rfl ?_;clear SS;intro Xz SS;simp only[nn])))
    refine(Lv h j q _ ((Aa SS).hp 0 rfl) hj hl).mono ?_
    rintro _ _ ⟨rfl,rfl⟩
    have HO2:=Ab (((Aa SS).hp 0 rfl).ob hj).1
    go_wp2_with (first|go_skip|((with_reducible show wpList ..);first|(refine rd rfl (Aj (vs:=q.p.cs) 36 5 rwV szV rfl rfl (Aa HO2) rfl rfl) ?_)|(refine zA 36 (Bh.cs) (by rfl) rfl SS ?_;clear SS;intro Xc Bc SS;simp only[nn])|(refine zS (q.p.cs) 5 36 (by rfl) rfl rfl rfl rfl (Jl _) szV SS rfl ?_;clear SS;intro Xy SS;simp only[nn])|(refine rd rfl (Ad 3 isAgg3 rfl rfl ((Aa SS).hold 5 rfl) rfl) ?_)|(refine zL (k.cs) 40 2 1 rwK szK (by rfl) rfl rfl SS rfl rfl rfl ?_;simp only[nn])|(refine zL (v.cs) 36 5 2 rwV szV (by rfl) rfl rfl SS rfl rfl rfl ?_;simp only[nn])|(refine zL (r.cs) 36 5 3 rwV szV (by rfl) rfl rfl SS rfl rfl rfl ?_;simp only[nn])|(refine zL (G.cs) 43 18 4 rwD szD (by rfl) rfl rfl SS rfl rfl rfl ?_;simp only[nn])))
    have HA:=Kl G
    simp only[Es] at HA
    refine(HA _).mono ?_
    rintro _ Y4 ⟨rfl,hb1⟩
    replace SS:=Ab ((Aa SS).on hb1)
    clear hb1 HA
    rw[show (G.g.k !=0)=false by simp[hga]]
    go_wp2_with (first|go_skip|((with_reducible show wpList ..);first|(refine rd rfl (Ad 41 isAgg41 rfl rfl ((Aa SS).hold 4 rfl) rfl) ?_)|(refine rd rfl (Qz rfl rfl rfl hwr) ?_)|(refine rd rfl (Ad 3 isAgg3 rfl rfl ((Aa SS).hold 3 rfl) rfl) ?_)|(refine rd rfl (Uw rfl rfl rfl hrk) ?_)|(refine zL (k.cs) 40 2 1 rwK szK (by rfl) rfl rfl SS rfl rfl rfl ?_;simp only[nn])|(refine zL (v.cs) 36 5 2 rwV szV (by rfl) rfl rfl SS rfl rfl rfl ?_;simp only[nn])))
    refine(HW _ (HP.To.end H (Aa SS) rfl)).mono ?_
    rintro _ Y5 ⟨h1,y,rfl,hN,T2⟩
    replace SS:=Ab ((Aa SS).heap 0 rfl T2)
    have hb1:h1.b=h.b:=T2.hb
    clear T2
    go_wp2
    go_ret2
    exact⟨h1,y,rfl,hN,HP.To.end H (Aa SS) hb1⟩
  ·simp only[hso] at HO
   generalize hG:soD q u k=G at *
   go_enter func166,ntmps166
   go_wp2_with (first|go_skip|((with_reducible show wpList ..);first|((refine bx0 85 (by rfl) rfl rfl (Aa SS) ?_);intro X0 B0 S0;replace SS:=Ab S0;clear S0;simp only[nn])|(refine zB 40 (k.cs) (by rfl) rfl rfl rfl SS ?_;clear SS;intro Xa Ba SS;simp only[nn])|(refine zB 36 (v.cs) (by rfl) rfl rfl rfl SS ?_;clear SS;intro Xe Be SS;simp only[nn])|(refine zB 36 (r.cs) (by rfl) rfl rfl rfl SS ?_;clear SS;intro Xg Bg SS;simp only[nn])|(refine zL (k.cs) 40 2 1 rwK szK (by rfl) rfl rfl SS rfl rfl rfl ?_;simp only[nn])))
   refine(HO _ (HP.To.end H (Aa SS) rfl)).mono ?_
   rintro _ Y1 ⟨rfl,hb1⟩
   replace SS:=Ab ((Aa SS).on hb1)
   clear hb1
   go_wp2_with (first|go_skip|((with_reducible show wpList ..);first|(refine zA 43 (Al.cs) (by rfl) rfl SS ?_;clear SS;intro Xb Bb SS;simp only[nn])|(refine zS (G.cs) 4 43 (by rfl) rfl rfl rfl rfl (Ea _) szD SS rfl ?_;clear SS;intro Xz SS;simp only[nn])))
   refine(Lv h j q _ ((Aa SS).hp 0 rfl) hj hl).mono ?_
   rintro _ _ ⟨rfl,rfl⟩
   have HO2:=Ab (((Aa SS).hp 0 rfl).ob hj).1
   go_wp2_with (first|go_skip|((with_reducible show wpList ..);first|(refine rd rfl (Aj (vs:=q.p.cs) 36 5 rwV szV rfl rfl (Aa HO2) rfl rfl) ?_)|(refine zA 36 (Bh.cs) (by rfl) rfl SS ?_;clear SS;intro Xc Bc SS;simp only[nn])|(refine zS (q.p.cs) 5 36 (by rfl) rfl rfl rfl rfl (Jl _) szV SS rfl ?_;clear SS;intro Xy SS;simp only[nn])|(refine rd rfl (Ad 3 isAgg3 rfl rfl ((Aa SS).hold 5 rfl) rfl) ?_)|(refine zL (k.cs) 40 2 1 rwK szK (by rfl) rfl rfl SS rfl rfl rfl ?_;simp only[nn])|(refine zL (v.cs) 36 5 2 rwV szV (by rfl) rfl rfl SS rfl rfl rfl ?_;simp only[nn])|(refine zL (r.cs) 36 5 3 rwV szV (by rfl) rfl rfl SS rfl rfl rfl ?_;simp only[nn])|(refine zL (G.cs) 43 18 4 rwD szD (by rfl) rfl rfl SS rfl rfl rfl ?_;simp only[nn])))
   have HA:=Kl G
   simp only[Es] at HA
   refine(HA _).mono ?_
   rintro _ Y4 ⟨rfl,hb1⟩
   replace SS:=Ab ((Aa SS).on hb1)
   clear hb1 HA
   rw[show (G.g.k !=0)=true by simp[hga]]
   go_wp2_with (first|go_skip|((with_reducible show wpList ..);first|(refine rd rfl (Aj (vs:=G.s.cs) 36 5 rwV szV rfl rfl ((Aa SS).hold 4 rfl) rfl rfl) ?_)|(refine zL (v.cs) 36 5 2 rwV szV (by rfl) rfl rfl SS rfl rfl rfl ?_;simp only[nn])|(refine zL (r.cs) 36 5 3 rwV szV (by rfl) rfl rfl SS rfl rfl rfl ?_;simp only[nn])))
   have HB:=Zba h G.s v r
   simp only[Dj] at HB
   refine(HB _ HSK).mono ?_
   rintro _ Y5 ⟨rfl,hb1⟩
   replace SS:=Ab ((Aa SS).on hb1)
   clear hb1 HB
   go_wp2
   go_ret2
   exact⟨h,false,rfl,Nx.refl hl1 Q (by decide),HP.To.end H (Aa SS) rfl⟩
