import Derived.Test.YtlpdllcedgnaaaaGreatDoorRp
set_option linter.all false
namespace Go.Proofs.YtlpdllcedgnaaaaGreatDoor
set_option maxRecDepth 100000
set_option maxHeartbeats 0
section
open Go Go.Proofs Go.Maps Go.RowKit FM Tryz
attribute [local go_sem] Ao Ai Am Dq Dp Br Ah Bq
theorem Kl (d:DD) (w:World):Calls prog 172 #[d.agg] w fun e w'=>e= .returned (.bool (d.g.k !=0))/\Below w.heap.size w w':=by
 have SS:=Ab (Sy.nil w [])
 rw[Es]
 by_cases hg:d.g.k=0
 ·rw[show (d.g.k !=0)=false by simp[hg]]
  go_enter func172,ntmps172
  go_wp2_with (first|go_skip|((with_reducible show wpList ..);first|(refine zB 43 (d.cs) (by rfl) rfl rfl rfl SS ?_;clear SS;intro Xa Ba SS;simp only[nn])|(refine rd rfl (Ad 3 isAgg3 rfl rfl ((Aa SS).hold 0 rfl) rfl) ?_)|(refine rd rfl (Uw rfl rfl rfl hg) ?_)))
  go_ret
  exact⟨rfl,(Aa SS).fr.below⟩
 ·rw[show (d.g.k !=0)=true by simp[hg]]
  go_enter func172,ntmps172
  go_wp2_with (first|go_skip|((with_reducible show wpList ..);first|(refine zB 43 (d.cs) (by rfl) rfl rfl rfl SS ?_;clear SS;intro Xa Ba SS;simp only[nn])|(refine rd rfl (Ad 3 isAgg3 rfl rfl ((Aa SS).hold 0 rfl) rfl) ?_)|(refine rd rfl (Pw rfl rfl rfl hg) ?_)))
  go_ret
  exact⟨rfl,(Aa SS).fr.below⟩
def Lz (v:VV):DD:=⟨v,Bh,Bh,2,2,2⟩
theorem ex_open {o:Oper} {a:Act} {w:World} {x c1 c2 c3:Operand} (v:VV) (ho:o.op= .build 43 #[(0,x),(3,c1),(4,c2),(5,c3)]) (hx:a.eval x= .agg v.cs.toArray) (h1:a.eval c1= .int .i64 2) (h2:a.eval c2= .int .i64 2) (h3:a.eval c3= .int .i64 2):(execOp a.eval o).run prog w= .ok (.value (.agg (Lz v).cs.toArray)) w:=by
 have e:(Instr.build 43 #[(0, .agg v.cs.toArray),(3, .int .i64 2),(4, .int .i64 2),(5, .int .i64 2)]).run prog w= .ok (.agg (Lz v).cs.toArray) w:=by kernel_rfl
 unfold execOp
 simp only[ho,List.map_toArray,List.map_cons,List.map_nil,hx,h1,h2,h3]
 simp[e]
theorem Zay (v:VV) (w:World):Calls prog 171 #[v.agg] w fun e w'=>e= .returned ((Lz v).agg)/\Below w.heap.size w w':=by
 have SS:=Ab (Sy.nil w [])
 rw[Dj]
 go_enter func171,ntmps171
 go_wp2_with (first|go_skip|((with_reducible show wpList ..);first|(refine zB 36 (v.cs) (by rfl) rfl rfl rfl SS ?_;clear SS;intro Xa Ba SS;simp only[nn])|(refine zA 43 (Al.cs) (by rfl) rfl SS ?_;clear SS;intro Xb Bb SS;simp only[nn])|(refine zL (v.cs) 36 5 0 rwV szV (by rfl) rfl rfl SS rfl rfl rfl ?_;simp only[nn])|(refine rd rfl (ex_open v rfl rfl rfl rfl rfl) ?_)|(refine zS ((Lz v).cs) 1 43 (by rfl) rfl rfl rfl rfl (Ea _) szD SS rfl ?_;clear SS;intro Xz SS;simp only[nn])))
 refine Qe rwD szD rfl rfl rfl ((Aa SS).hold 1 rfl) rfl ?_
 exact⟨rfl,(Aa SS).fr.below⟩
theorem Zba (h:HP) (t v r:VV) (w:World) (ht:t.k≠7):Calls prog 173 #[.pointer (some ⟨h.b,0,none⟩),t.agg,v.agg,r.agg] w fun e w'=>e= .returned (.tuple #[.bool false, .nilIface])/\Below w.heap.size w w':=by
 have SS:=Ab (Sy.nil w [])
 rw[Dj,Dj,Dj]
 go_enter func173,ntmps173
 go_wp2_with (first|go_skip|((with_reducible show wpList ..);first|(refine zB 36 (t.cs) (by rfl) rfl rfl rfl SS ?_;clear SS;intro Xa Ba SS;simp only[nn])|(refine zB 36 (v.cs) (by rfl) rfl rfl rfl SS ?_;clear SS;intro Xb Bb SS;simp only[nn])|(refine zB 36 (r.cs) (by rfl) rfl rfl rfl SS ?_;clear SS;intro Xc Bc SS;simp only[nn])|(refine rd rfl (Ad 3 isAgg3 rfl rfl ((Aa SS).hold 0 rfl) rfl) ?_)|(refine rd rfl (Pw rfl rfl rfl ht) ?_)))
 go_ret2
 exact⟨rfl,(Aa SS).fr.below⟩
def valD (v:VV):DD:=⟨v,Bh,Bh,0,0,0⟩
theorem ex_valD {o:Oper} {a:Act} {w:World} {x:Operand} (v:VV) (ho:o.op= .build 43 #[(0,x)]) (hx:a.eval x= .agg v.cs.toArray):(execOp a.eval o).run prog w= .ok (.value (.agg (valD v).cs.toArray)) w:=by
 have e:(Instr.build 43 #[(0, .agg v.cs.toArray)]).run prog w= .ok (.agg (valD v).cs.toArray) w:=by kernel_rfl
 unfold execOp
 simp only[ho,List.map_toArray,List.map_cons,List.map_nil,hx]
 simp[e]
theorem Zc7 (h:HP) (d:DD) (r:VV) (w:World) (h0:d.g.k=0):Calls prog 169 #[.pointer (some ⟨h.b,0,none⟩),d.agg,r.agg] w fun e w'=>e= .returned (.tuple #[d.v.agg, .nilIface])/\Below w.heap.size w w':=by
 have SS:=Ab (Sy.nil w [])
 rw[Es,Dj,Dj]
 go_enter func169,ntmps169
 go_wp2_with (first|go_skip|((with_reducible show wpList ..);first|(refine zB 43 (d.cs) (by rfl) rfl rfl rfl SS ?_;clear SS;intro Xa Ba SS;simp only[nn])|(refine zB 36 (r.cs) (by rfl) rfl rfl rfl SS ?_;clear SS;intro Xb Bb SS;simp only[nn])|(refine zA 36 (Bh.cs) (by rfl) rfl SS ?_;clear SS;intro Xc Bc SS;simp only[nn])|(refine zL (d.cs) 43 18 0 rwD szD (by rfl) rfl rfl SS rfl rfl rfl ?_;simp only[nn])))
 have HA:=Kl d
 simp only[Es] at HA
 refine(HA _).mono ?_
 rintro _ Y1 ⟨rfl,hb1⟩
 replace SS:=Ab ((Aa SS).on hb1)
 clear hb1
 rw[show (d.g.k !=0)=false by simp[h0]]
 go_wp2_with (first|go_skip|((with_reducible show wpList ..);first|(refine rd rfl (Aj (vs:=d.v.cs) 36 5 rwV szV rfl rfl ((Aa SS).hold 0 rfl) rfl rfl) ?_)|(refine zS (d.v.cs) 2 36 (by rfl) rfl rfl rfl rfl (Jl _) szV SS rfl ?_;clear SS;intro Xz SS;simp only[nn])))
 refine bodyPost_ret (Lj rwV szV rfl rfl rfl ((Aa SS).hold 2 rfl) rfl) rfl ?_
 exact⟨rfl,(Aa SS).fr.below⟩
def DelS (h:HP) (j:Nat) (q:OB) (u:List Nat) (k:KK) (h1:HP):Prop:=h1=h∨((soD q u k).c≠1/\ ∃T':TT,h1=h.tab j q T'/\T'.last=q.T.last/\pr T'=Zdz (pr q.T) k)
theorem sdel_h (h:HP) (j:Nat) (q:OB) (u:List Nat) (k:KK) (w:World) (H:h.Is w) (hl:h.l.length<=65536) (hj:h.l[j]? =some q) (ht:q.ot=81) (U:Un h q.ov u w) (hu:UOk u) (hT:Tabs w) (hg:goodK k=true) (hlast:q.T.last<100000):Calls prog 160 #[.agg #[], .pointer (some ⟨h.b,0,none⟩), .int .i64 ((j:Int)+1),k.agg] w fun e w'=> ∃(h1:HP) (y:Bool),e= .returned (.tuple #[.bool y, .nilIface])/\DelS h j q u k h1/\h.To h1 w w':=by
 unfold DelS
 rcases hso:soB q u k with _|_
 ·have SS:=Ab H.start
  have HO:=fun (X:World) (hX:h.To h w X)=>Zcf h j q u k X hX.is hl hj ht (U.to hX) hu (hX.tabs H hT) hg
  simp only[hso] at HO
  simp only[Ec,Dj,Es] at HO ⊢
  generalize hG:soD q u k=G at *
  go_enter func160,ntmps160
  go_wp2_with (first|go_skip|((with_reducible show wpList ..);first|((refine bx0 85 (by rfl) rfl rfl (Aa SS) ?_);intro X0 B0 S0;replace SS:=Ab S0;clear S0;simp only[nn])|(refine zB 40 (k.cs) (by rfl) rfl rfl rfl SS ?_;clear SS;intro Xa Ba SS;simp only[nn])|(refine zL (k.cs) 40 2 1 rwK szK (by rfl) rfl rfl SS rfl rfl rfl ?_;simp only[nn])))
  refine(HO _ (HP.To.end H (Aa SS) rfl)).mono ?_
  rintro _ Y1 ⟨rfl,hb1⟩
  replace SS:=Ab ((Aa SS).on hb1)
  clear hb1
  go_wp2_with (first|go_skip|((with_reducible show wpList ..);first|(refine zA 43 (Al.cs) (by rfl) rfl SS ?_;clear SS;intro Xb Bb SS;simp only[nn])|(refine zS (G.cs) 2 43 (by rfl) rfl rfl rfl rfl (Ea _) szD SS rfl ?_;clear SS;intro Xz SS;simp only[nn])))
  go_ret2
  exact⟨h,true,rfl, .inl rfl,HP.To.end H (Aa SS) rfl⟩
 ·have SS:=Ab H.start
  have HO:=fun (X:World) (hX:h.To h w X)=>Zcf h j q u k X hX.is hl hj ht (U.to hX) hu (hX.tabs H hT) hg
  simp only[hso] at HO
  simp only[Ec,Dj,Es] at HO ⊢
  generalize hG:soD q u k=G at *
  by_cases hc:G.c=1
  ·go_enter func160,ntmps160
   go_wp2_with (first|go_skip|((with_reducible show wpList ..);first|((refine bx0 85 (by rfl) rfl rfl (Aa SS) ?_);intro X0 B0 S0;replace SS:=Ab S0;clear S0;simp only[nn])|(refine zB 40 (k.cs) (by rfl) rfl rfl rfl SS ?_;clear SS;intro Xa Ba SS;simp only[nn])|(refine zL (k.cs) 40 2 1 rwK szK (by rfl) rfl rfl SS rfl rfl rfl ?_;simp only[nn])))
   refine(HO _ (HP.To.end H (Aa SS) rfl)).mono ?_
   rintro _ Y1 ⟨rfl,hb1⟩
   replace SS:=Ab ((Aa SS).on hb1)
   clear hb1
   go_wp2_with (first|go_skip|((with_reducible show wpList ..);first|(refine zA 43 (Al.cs) (by rfl) rfl SS ?_;clear SS;intro Xb Bb SS;simp only[nn])|(refine zS (G.cs) 2 43 (by rfl) rfl rfl rfl rfl (Ea _) szD SS rfl ?_;clear SS;intro Xz SS;simp only[nn])|(refine rd rfl (Ad 41 isAgg41 rfl rfl ((Aa SS).hold 2 rfl) rfl) ?_)|(refine rd rfl (Zr rfl rfl rfl hc) ?_)))
   go_ret2
   exact⟨h,false,rfl, .inl rfl,HP.To.end H (Aa SS) rfl⟩
  ·go_enter func160,ntmps160
   go_wp2_with (first|go_skip|((with_reducible show wpList ..);first|((refine bx0 85 (by rfl) rfl rfl (Aa SS) ?_);intro X0 B0 S0;replace SS:=Ab S0;clear S0;simp only[nn])|(refine zB 40 (k.cs) (by rfl) rfl rfl rfl SS ?_;clear SS;intro Xa Ba SS;simp only[nn])|(refine zL (k.cs) 40 2 1 rwK szK (by rfl) rfl rfl SS rfl rfl rfl ?_;simp only[nn])))
   refine(HO _ (HP.To.end H (Aa SS) rfl)).mono ?_
   rintro _ Y1 ⟨rfl,hb1⟩
   replace SS:=Ab ((Aa SS).on hb1)
   clear hb1
   go_wp2_with (first|go_skip|((with_reducible show wpList ..);first|(refine zA 43 (Al.cs) (by rfl) rfl SS ?_;clear SS;intro Xb Bb SS;simp only[nn])|(refine zS (G.cs) 2 43 (by rfl) rfl rfl rfl rfl (Ea _) szD SS rfl ?_;clear SS;intro Xz SS;simp only[nn])|(refine rd rfl (Ad 41 isAgg41 rfl rfl ((Aa SS).hold 2 rfl) rfl) ?_)|(refine rd rfl (Qz rfl rfl rfl hc) ?_)))
   have hS:Sy w _ h.blocks [hpO h,Bf Ba k.cs,Bf Bb (Dh Al.cs 0 G.cs)]:=(Aa SS).drew
   clear SS
   refine wp_region_held_drew (P:=prog) (S:=fun _=>True) (by kernel_rfl) (trivial) (fun hS0=> ?_)
   refine gp 0 (some 29) (.pointer (some ⟨h.b,0,none⟩)) rfl rfl (trivial) ?_
   refine gp 1 (some 30) (.int .i64 ((j:Int)+1)) rfl rfl (trivial) ?_
   refine gr (rs:= [2,6]) (gc 2 (some 31) rfl rfl (Lv h j q _ (hS.hp 0 rfl) hj hl) ?_ (gv 6 (some 35) rfl rfl (Aj (vs:=k.cs) 40 2 rwK szK rfl rfl (hS.hold 1 rfl) rfl rfl) (trivial) ?_ gn))
   ·rintro e Y1 ⟨rfl,rfl⟩
    refine⟨_,rfl,trivial, ?_⟩
    refine gp 3 (some 32) (.pointer (some ⟨q.b,0,none⟩)) rfl rfl (trivial) ?_
    refine gp 4 (some 33) (.pointer (some ⟨q.b,7,none⟩)) rfl rfl (trivial) ?_
    refine gr (rs:= [5,6]) (gv 5 (some 34) rfl rfl (Ad 119 isAgg119 rfl rfl ((hS.hp 0 rfl).ob hj).1 rfl) (trivial) ?_ (gv 6 (some 35) rfl rfl (Aj (vs:=k.cs) 40 2 rwK szK rfl rfl (hS.hold 1 rfl) rfl rfl) (trivial) ?_ gn))
    ·simp only[nn]
     refine gr (rs:= [6]) (gv 6 (some 35) rfl rfl (Aj (vs:=k.cs) 40 2 rwK szK rfl rfl (hS.hold 1 rfl) rfl rfl) (trivial) ?_ gn)
     simp only[nn]
     refine gr (rs:= [7]) (gc 7 (some 36) rfl rfl (Uz q.T k _ ((hS.hp 0 rfl).ob hj).2.1 (Kj hg) hlast) ?_ gn)
     rintro e Y4 ⟨rfl,T',hT4,ht4,hla4,hf4,hs4,hlv4⟩
     have hq4:=Sy.heap hS 0 rfl ((hS.hp 0 rfl).table hj hT4 ht4 hf4 hs4)
     refine⟨_,rfl,trivial, ?_⟩
     refine wpAnyH_done (by kernel_rfl) ?_ _
     try simp only[nn]
     have SS:=Ab hq4
     have HP_:=Ab (And.intro hla4 hlv4)
     clear hla4 hlv4
     go_wp2
     go_ret2
     exact⟨h.tab j q T',true,rfl, .inr ⟨hc,T',rfl,(Aa HP_).1,Zbx (Aa HP_).2⟩,HP.To.end H (Aa SS) rfl⟩
    ·simp only[nn]
     refine gr (rs:= [5]) (gv 5 (some 34) rfl rfl (Ad 119 isAgg119 rfl rfl ((hS.hp 0 rfl).ob hj).1 rfl) (trivial) ?_ gn)
     simp only[nn]
     refine gr (rs:= [7]) (gc 7 (some 36) rfl rfl (Uz q.T k _ ((hS.hp 0 rfl).ob hj).2.1 (Kj hg) hlast) ?_ gn)
     rintro e Y7 ⟨rfl,T',hT7,ht7,hla7,hf7,hs7,hlv7⟩
     have hq7:=Sy.heap hS 0 rfl ((hS.hp 0 rfl).table hj hT7 ht7 hf7 hs7)
     refine⟨_,rfl,trivial, ?_⟩
     refine wpAnyH_done (by kernel_rfl) ?_ _
     try simp only[nn]
     have SS:=Ab hq7
     have HP_:=Ab (And.intro hla7 hlv7)
     clear hla7 hlv7
     go_wp2
     go_ret2
     exact⟨h.tab j q T',true,rfl, .inr ⟨hc,T',rfl,(Aa HP_).1,Zbx (Aa HP_).2⟩,HP.To.end H (Aa SS) rfl⟩
   ·simp only[nn]
    refine gr (rs:= [2]) (gc 2 (some 31) rfl rfl (Lv h j q _ (hS.hp 0 rfl) hj hl) ?_ gn)
    rintro e Y9 ⟨rfl,rfl⟩
    refine⟨_,rfl,trivial, ?_⟩
    refine gp 3 (some 32) (.pointer (some ⟨q.b,0,none⟩)) rfl rfl (trivial) ?_
    refine gp 4 (some 33) (.pointer (some ⟨q.b,7,none⟩)) rfl rfl (trivial) ?_
    refine gr (rs:= [5]) (gv 5 (some 34) rfl rfl (Ad 119 isAgg119 rfl rfl ((hS.hp 0 rfl).ob hj).1 rfl) (trivial) ?_ gn)
    simp only[nn]
    refine gr (rs:= [7]) (gc 7 (some 36) rfl rfl (Uz q.T k _ ((hS.hp 0 rfl).ob hj).2.1 (Kj hg) hlast) ?_ gn)
    rintro e Y11 ⟨rfl,T',hT11,ht11,hla11,hf11,hs11,hlv11⟩
    have hq11:=Sy.heap hS 0 rfl ((hS.hp 0 rfl).table hj hT11 ht11 hf11 hs11)
    refine⟨_,rfl,trivial, ?_⟩
    refine wpAnyH_done (by kernel_rfl) ?_ _
    try simp only[nn]
    have SS:=Ab hq11
    have HP_:=Ab (And.intro hla11 hlv11)
    clear hla11 hlv11
    go_wp2
    go_ret2
    exact⟨h.tab j q T',true,rfl, .inr ⟨hc,T',rfl,(Aa HP_).1,Zbx (Aa HP_).2⟩,HP.To.end H (Aa SS) rfl⟩
theorem sget_h (h:HP) (j:Nat) (q:OB) (u:List Nat) (k:KK) (r:VV) (w:World) (H:h.Is w) (hl:h.l.length<=65536) (hj:h.l[j]? =some q) (ht:q.ot=81) (U:Un h q.ov u w) (hu:UOk u) (hT:Tabs w) (hg:goodK k=true) (hso:soB q u k=true) (h0:(soD q u k).g.k=0):Calls prog 161 #[.agg #[], .pointer (some ⟨h.b,0,none⟩), .int .i64 ((j:Int)+1),k.agg,r.agg] w fun e w'=>e= .returned (.tuple #[(soD q u k).v.agg, .nilIface])/\h.To h w w':=by
 have SS:=Ab H.start
 have HO:=fun (X:World) (hX:h.To h w X)=>Zcf h j q u k X hX.is hl hj ht (U.to hX) hu (hX.tabs H hT) hg
 simp only[hso] at HO
 simp only[Ec,Dj,Es] at HO ⊢
 have HR:=fun X=>Zc7 h (soD q u k) r X h0
 simp only[Dj,Es] at HR
 generalize hG:soD q u k=G at *
 go_enter func161,ntmps161
 go_wp2_with (first|go_skip|((with_reducible show wpList ..);first|((refine bx0 85 (by rfl) rfl rfl (Aa SS) ?_);intro X0 B0 S0;replace SS:=Ab S0;clear S0;simp only[nn])|(refine zB 40 (k.cs) (by rfl) rfl rfl rfl SS ?_;clear SS;intro Xa Ba SS;simp only[nn])|(refine zB 36 (r.cs) (by rfl) rfl rfl rfl SS ?_;clear SS;intro Xe Be SS;simp only[nn])|(refine zA 36 (Bh.cs) (by rfl) rfl SS ?_;clear SS;intro Xg Bg SS;simp only[nn])|(refine zL (k.cs) 40 2 1 rwK szK (by rfl) rfl rfl SS rfl rfl rfl ?_;simp only[nn])))
 refine(HO _ (HP.To.end H (Aa SS) rfl)).mono ?_
 rintro _ Y1 ⟨rfl,hb1⟩
 replace SS:=Ab ((Aa SS).on hb1)
 clear hb1
 go_wp2_with (first|go_skip|((with_reducible show wpList ..);first|(refine zA 43 (Al.cs) (by rfl) rfl SS ?_;clear SS;intro Xb Bb SS;simp only[nn])|(refine zS (G.cs) 4 43 (by rfl) rfl rfl rfl rfl (Ea _) szD SS rfl ?_;clear SS;intro Xz SS;simp only[nn])|(refine zL (G.cs) 43 18 4 rwD szD (by rfl) rfl rfl SS rfl rfl rfl ?_;simp only[nn])|(refine zL (r.cs) 36 5 2 rwV szV (by rfl) rfl rfl SS rfl rfl rfl ?_;simp only[nn])))
 refine(HR _).mono ?_
 rintro _ Y2 ⟨rfl,hb2⟩
 replace SS:=Ab ((Aa SS).on hb2)
 clear hb2
 go_wp2_with (first|go_skip|((with_reducible show wpList ..);first|(refine zS (G.v.cs) 3 36 (by rfl) rfl rfl rfl rfl (Jl _) szV SS rfl ?_;clear SS;intro Xy SS;simp only[nn])))
 refine bodyPost_ret (Lj rwV szV rfl rfl rfl ((Aa SS).hold 3 rfl) rfl) rfl ?_
 exact⟨rfl,HP.To.end H (Aa SS) rfl⟩
theorem FD_open {v:VV} (h:v.x<2^64):FD (Lz v):=⟨h,show 0<2^64 by decide,show 0<2^64 by decide⟩
theorem FD_val {v:VV} (h:v.x<2^64):FD (valD v):=⟨h,show 0<2^64 by decide,show 0<2^64 by decide⟩
theorem Nx.out {u:List Nat} {c:Int} {m:Nat} {h h1:HP} {q:OB} (N:Nx u c m h.inn q h1):Nx u (c+1) m h q h1.out:=by
 obtain⟨q1,a1,a2,a3,a4,a5,a6,a7,a8⟩:=N
 have e1:h.inn.fuel=h.fuel - 1:=rfl
 have e2:h.inn.ent=h.ent+1:=rfl
 have e3:h1.out.fuel=h1.fuel:=rfl
 have e4:h1.out.ent=h1.ent - 1:=rfl
 exact⟨q1,a1,a2,a3,a4,by omega,by omega,by omega,a8⟩
theorem Nx.less {u:List Nat} {c:Int} {m:Nat} {h h1:HP} {q:OB} (N:Nx u c m h.less q h1):Nx u (c+1) m h q h1:=by
 obtain⟨q1,a1,a2,a3,a4,a5,a6,a7,a8⟩:=N
 have e1:h.less.fuel=h.fuel - 1:=rfl
 exact⟨q1,a1,a2,a3,a4,by omega,by omega,a7,a8⟩
theorem Nx.ent1 {u:List Nat} {c:Int} {m:Nat} {h h1:HP} {q:OB} (N:Nx u c m h.inn q h1):h1.ent=h.ent+1:=by
 obtain⟨q1,a1,a2,a3,a4,a5,a6,a7,a8⟩:=N
 exact a7
theorem Zcq {h:HP} (K:h.Ok) (hf:h.fuel≠0):h.less.Ok:=⟨K.len,by show 0<=h.fuel - 1;have:=K.f0;omega,by show h.fuel - 1<=_;have:=K.f1;omega,K.e0,K.e1,K.d1⟩
theorem own_en (h:HP) (j:Nat) (q:OB) (u:List Nat) (k:KK) (w:World) (H:h.Is w) (K:h.Ok) (hl1:h.l= [q]) (hj:h.l[j]? =some q) (Q:QI u q) (U:Un h q.ov u w) (hu:UOk u) (hn:u.length<=2000) (hT:Tabs w) (hg:goodK k=true) (hf:h.fuel≠0) (hd:h.ent≠h.depth):Calls prog 56 #[.pointer (some ⟨h.b,0,none⟩), .int .i64 ((j:Int)+1),k.agg] w fun e w'=>e= .returned (.tuple #[(soD q u k).agg, .bool (soB q u k), .nilIface])/\h.To h.less w w':=by
 refine(Nr h j q k (fun h1 V y er=>h1=h.inn/\er= .nilIface/\V=soD q u k/\y=soB q u k) w H K hj hf hd (fun X TX=> ?_)).mono ?_
 ·refine(sown_h h.inn j q u k X TX.is K.len hj Q.ot (U.to TX) hu (TX.tabs H hT) hg).mono ?_
  rintro e Y ⟨rfl,hb⟩
  exact⟨h.inn,_,_,_,rfl,⟨rfl,rfl,rfl,rfl⟩,rfl,HP.To.refl TX.is hb⟩
 ·rintro e Y ⟨h1,V,y,er,rfl,⟨rfl,rfl,rfl,rfl⟩,T⟩
  rw[Zk] at T
  exact⟨rfl,T⟩
theorem nx_j {h:HP} {j:Nat} {q:OB} (hl1:h.l= [q]) (hj:h.l[j]? =some q):j=0:=by
 rw[hl1] at hj
 cases j with
 |zero=>rfl
 |succ j=>simp at hj
theorem def_en (h:HP) (j:Nat) (q:OB) (u:List Nat) (k:KK) (d:DD) (w:World) (H:h.Is w) (K:h.Ok) (hl1:h.l= [q]) (hj:h.l[j]? =some q) (Q:QI u q) (U:Un h q.ov u w) (hu:UOk u) (hn:u.length<=2000) (hT:Tabs w) (hg:goodK k=true) (hFd:FD d) (hdg:d.g.k≠7) (hds:d.s.k≠7) (hla:q.T.last<100000) (hf:h.fuel≠0) (hd:h.ent≠h.depth):Calls prog 46 #[.pointer (some ⟨h.b,0,none⟩), .int .i64 ((j:Int)+1),k.agg,d.agg] w fun e w'=> ∃(h1:HP) (y:Bool),e= .returned (.tuple #[.bool y, .nilIface])/\(Nx u 1 1 h q h1/\(unB u k=true->y=Mk q.x (unD u k) d))/\h.To h1 w w':=by
 refine(Lu h j q k d (fun h1 y er=>er= .nilIface/\Nx u 0 1 h.inn q h1/\(unB u k=true->y=Mk q.x (unD u k) d)) w H K hj hf hd (fun X TX=> ?_)).mono ?_
 ·refine(sdef_h h.inn j q u k d X TX.is K.len hj Q.ot (U.to TX) hu (TX.tabs H hT) hg (Q.get k).1 hFd (by omega)).mono ?_
  rintro e Y ⟨h1,y,rfl,hS,T⟩
  obtain rfl:=nx_j hl1 hj
  have N:=sdef_nx (h:=h.inn) hl1 Q hn hFd hdg hds hS
  refine⟨h1,y, .nilIface,rfl,⟨rfl,N,fun hb=> ?_⟩,N.ent1,T⟩
  rcases hS with ⟨-,h2, -⟩|⟨h2, -⟩
  ·exact h2
  ·rw[hb] at h2;cases h2
 ·rintro e Y ⟨h1,y,er,rfl,⟨rfl,N,hy⟩,T⟩
  exact⟨h1.out,y,rfl,⟨N.out,hy⟩,T⟩
theorem write_s (h:HP) (j:Nat) (q:OB) (u:List Nat) (k:KK) (v:VV) (w:World) (H:h.Is w) (K:h.Ok) (hl1:h.l= [q]) (hj:h.l[j]? =some q) (Q:QI u q) (U:Un h q.ov u w) (hu:UOk u) (hn:u.length<=2000) (hT:Tabs w) (hg:goodK k=true) (hv:v.x<2^64) (hla:q.T.last<100000) (hf:3<=h.fuel) (hd:h.ent+1<=h.depth):Calls prog 174 #[.pointer (some ⟨h.b,0,none⟩), .int .i64 ((j:Int)+1),k.agg,v.agg] w fun e w'=> ∃(h1:HP) (y:Bool),e= .returned (.tuple #[.bool y, .nilIface])/\Nx u 2 1 h q h1/\h.To h1 w w':=by
 have hdp:h.ent≠h.depth:=by omega
 have hfu:h.fuel≠0:=by omega
 have HO:=fun (X:World) (hX:h.To h w X)=>own_en h j q u k X hX.is K hl1 hj Q (U.to hX) hu hn (hX.tabs H hT) hg hfu hdp
 have HD:=fun (d:DD) (X:World) (hX:h.To h.less w X) (a1:FD d) (a2:d.g.k≠7) (a3:d.s.k≠7)=>def_en h.less j q u k d X hX.is (Zcq K hfu) hl1 hj Q (U.to hX) hu hn (hX.tabs H hT) hg a1 a2 a3 hla (by show h.fuel - 1≠0;omega) hdp
 rw[show h.less.b=h.b from rfl] at HD
 simp only[Ec,Dj,Es] at HO HD ⊢
 have SS:=Ab H.start
 rcases hso:soB q u k with _|_
 ·simp only[hso] at HO
  generalize hG:soD q u k=G at *
  go_enter func174,ntmps174
  go_wp2_with (first|go_skip|((with_reducible show wpList ..);first|(refine zB 40 (k.cs) (by rfl) rfl rfl rfl SS ?_;clear SS;intro Xa Ba SS;simp only[nn])|(refine zB 36 (v.cs) (by rfl) rfl rfl rfl SS ?_;clear SS;intro Xb Bb SS;simp only[nn])|(refine zL (k.cs) 40 2 1 rwK szK (by rfl) rfl rfl SS rfl rfl rfl ?_;simp only[nn])))
  refine(HO _ (HP.To.end H (Aa SS) rfl)).mono ?_
  rintro _ Y1 ⟨rfl,T1⟩
  replace SS:=Ab ((Aa SS).heap 0 rfl T1)
  clear T1
  go_wp2_with (first|go_skip|((with_reducible show wpList ..);first|(refine zA 43 (Al.cs) (by rfl) rfl SS ?_;clear SS;intro Xc Bc SS;simp only[nn])|(refine zS (G.cs) 3 43 (by rfl) rfl rfl rfl rfl (Ea _) szD SS rfl ?_;clear SS;intro Xz SS;simp only[nn])))
  have hS5:Sy w _ h.blocks [hpO h.less,Bf Ba k.cs,Bf Bb v.cs,Bf Bc (Dh Al.cs 0 G.cs)]:=(Aa SS).drew
  clear SS
  refine wp_region_held_drew (P:=prog) (S:=fun X=>Holds X Ba k.cs/\Holds X Bb v.cs) (by kernel_rfl) (⟨hS5.hold 1 rfl,hS5.hold 2 rfl⟩) (fun hS0=> ?_)
  refine gp 0 (some 26) (.pointer (some ⟨h.b,0,none⟩)) rfl rfl (⟨hS5.hold 1 rfl,hS5.hold 2 rfl⟩) ?_
  refine gp 1 (some 27) (.int .i64 ((j:Int)+1)) rfl rfl (⟨hS5.hold 1 rfl,hS5.hold 2 rfl⟩) ?_
  refine gq 2 (some 28) (.agg k.cs.toArray) rfl rfl (fun X hX=>Aj (vs:=k.cs) 40 2 rwK szK rfl rfl hX.1 rfl rfl) (⟨hS5.hold 1 rfl,hS5.hold 2 rfl⟩) ?_
  refine gq 3 (some 29) (.agg v.cs.toArray) rfl rfl (fun X hX=>Aj (vs:=v.cs) 36 5 rwV szV rfl rfl hX.2 rfl rfl) (⟨hS5.hold 1 rfl,hS5.hold 2 rfl⟩) ?_
  refine gr (rs:= [4]) (gc 4 (some 30) rfl rfl (Zay v _) ?_ gn)
  rintro e Yu1 ⟨rfl,hYu1⟩
  have hqu1:=Sy.on hS5 hYu1
  refine⟨_,rfl,⟨hqu1.hold 1 rfl,hqu1.hold 2 rfl⟩, ?_⟩
  simp only[nn]
  refine gr (rs:= [5]) (gc 5 (some 31) rfl rfl (HD (Lz v) _ (HP.To.end H hqu1 rfl) (FD_open hv) (show (0:Int)≠7 by decide) (show (0:Int)≠7 by decide)) ?_ gn)
  rintro e Yu2 ⟨h1,y,rfl,hD,T2⟩
  have hqd:=Sy.heap hqu1 0 rfl T2
  have hb1:h1.b=h.b:=T2.hb
  clear T2
  refine⟨_,rfl,⟨hqd.hold 1 rfl,hqd.hold 2 rfl⟩, ?_⟩
  refine gp 6 (some 32) (.bool y) rfl rfl (⟨hqd.hold 1 rfl,hqd.hold 2 rfl⟩) ?_
  refine gp 7 (some 33) (.nilIface) rfl rfl (⟨hqd.hold 1 rfl,hqd.hold 2 rfl⟩) ?_
  refine gp 8 (some 8) (.bool y) rfl rfl (⟨hqd.hold 1 rfl,hqd.hold 2 rfl⟩) ?_
  refine gp 9 (some 9) (.nilIface) rfl rfl (⟨hqd.hold 1 rfl,hqd.hold 2 rfl⟩) ?_
  refine wpAnyH_done (by kernel_rfl) ?_ _
  try simp only[nn]
  have SS:=Ab hqd
  go_wp2
  go_ret2
  exact⟨h1,y,rfl,(hD.1).less,HP.To.end H (Aa SS) hb1⟩
 ·by_cases hga:(soD q u k).g.k=0
  ·by_cases hwr:(soD q u k).w=1
   ·simp only[hso] at HO
    generalize hG:soD q u k=G at *
    go_enter func174,ntmps174
    go_wp2_with (first|go_skip|((with_reducible show wpList ..);first|(refine zB 40 (k.cs) (by rfl) rfl rfl rfl SS ?_;clear SS;intro Xa Ba SS;simp only[nn])|(refine zB 36 (v.cs) (by rfl) rfl rfl rfl SS ?_;clear SS;intro Xb Bb SS;simp only[nn])|(refine zL (k.cs) 40 2 1 rwK szK (by rfl) rfl rfl SS rfl rfl rfl ?_;simp only[nn])))
    refine(HO _ (HP.To.end H (Aa SS) rfl)).mono ?_
    rintro _ Y1 ⟨rfl,T1⟩
    replace SS:=Ab ((Aa SS).heap 0 rfl T1)
    clear T1
    go_wp2_with (first|go_skip|((with_reducible show wpList ..);first|(refine zA 43 (Al.cs) (by rfl) rfl SS ?_;clear SS;intro Xc Bc SS;simp only[nn])|(refine zS (G.cs) 3 43 (by rfl) rfl rfl rfl rfl (Ea _) szD SS rfl ?_;clear SS;intro Xz SS;simp only[nn])|(refine zL (G.cs) 43 18 3 rwD szD (by rfl) rfl rfl SS rfl rfl rfl ?_;simp only[nn])))
    have HA:=Kl G
    simp only[Es] at HA
    refine(HA _).mono ?_
    rintro _ Y2 ⟨rfl,hb2⟩
    replace SS:=Ab ((Aa SS).on hb2)
    clear hb2 HA
    rw[show (G.g.k !=0)=false by simp[hga]]
    go_wp2_with (first|go_skip|((with_reducible show wpList ..);first|(refine rd rfl (Ad 41 isAgg41 rfl rfl ((Aa SS).hold 3 rfl) rfl) ?_)|(refine rd rfl (Zr rfl rfl rfl hwr) ?_)))
    go_ret2
    exact⟨h.less,false,rfl,(Nx.refl (h:=h.less) (c:=1) (m:=1) hl1 Q (by decide)).less,HP.To.end H (Aa SS) rfl⟩
   ·simp only[hso] at HO
    generalize hG:soD q u k=G at *
    go_enter func174,ntmps174
    go_wp2_with (first|go_skip|((with_reducible show wpList ..);first|(refine zB 40 (k.cs) (by rfl) rfl rfl rfl SS ?_;clear SS;intro Xa Ba SS;simp only[nn])|(refine zB 36 (v.cs) (by rfl) rfl rfl rfl SS ?_;clear SS;intro Xb Bb SS;simp only[nn])|(refine zL (k.cs) 40 2 1 rwK szK (by rfl) rfl rfl SS rfl rfl rfl ?_;simp only[nn])))
    refine(HO _ (HP.To.end H (Aa SS) rfl)).mono ?_
    rintro _ Y1 ⟨rfl,T1⟩
    replace SS:=Ab ((Aa SS).heap 0 rfl T1)
    clear T1
    go_wp2_with (first|go_skip|((with_reducible show wpList ..);first|(refine zA 43 (Al.cs) (by rfl) rfl SS ?_;clear SS;intro Xc Bc SS;simp only[nn])|(refine zS (G.cs) 3 43 (by rfl) rfl rfl rfl rfl (Ea _) szD SS rfl ?_;clear SS;intro Xz SS;simp only[nn])|(refine zL (G.cs) 43 18 3 rwD szD (by rfl) rfl rfl SS rfl rfl rfl ?_;simp only[nn])))
    have HA:=Kl G
    simp only[Es] at HA
    refine(HA _).mono ?_
    rintro _ Y2 ⟨rfl,hb2⟩
    replace SS:=Ab ((Aa SS).on hb2)
    clear hb2 HA
    rw[show (G.g.k !=0)=false by simp[hga]]
    go_wp2_with (first|go_skip|((with_reducible show wpList ..);first|(refine rd rfl (Ad 41 isAgg41 rfl rfl ((Aa SS).hold 3 rfl) rfl) ?_)|(refine rd rfl (Qz rfl rfl rfl hwr) ?_)|(refine zL (k.cs) 40 2 1 rwK szK (by rfl) rfl rfl SS rfl rfl rfl ?_;simp only[nn])|(refine zL (v.cs) 36 5 2 rwV szV (by rfl) rfl rfl SS rfl rfl rfl ?_;simp only[nn])|(refine rd rfl (ex_valD v rfl rfl) ?_)))
    refine(HD (valD v) _ (HP.To.end H (Aa SS) rfl) (FD_val hv) (show (0:Int)≠7 by decide) (show (0:Int)≠7 by decide)).mono ?_
    rintro _ Y3 ⟨h1,y,rfl,hD,T2⟩
    replace SS:=Ab ((Aa SS).heap 0 rfl T2)
    have hb1:h1.b=h.b:=T2.hb
    clear T2
    go_wp2
    go_ret2
    exact⟨h1,y,rfl,(hD.1).less,HP.To.end H (Aa SS) hb1⟩
  ·simp only[hso] at HO
   generalize hG:soD q u k=G at *
   go_enter func174,ntmps174
   go_wp2_with (first|go_skip|((with_reducible show wpList ..);first|(refine zB 40 (k.cs) (by rfl) rfl rfl rfl SS ?_;clear SS;intro Xa Ba SS;simp only[nn])|(refine zB 36 (v.cs) (by rfl) rfl rfl rfl SS ?_;clear SS;intro Xb Bb SS;simp only[nn])|(refine zL (k.cs) 40 2 1 rwK szK (by rfl) rfl rfl SS rfl rfl rfl ?_;simp only[nn])))
   refine(HO _ (HP.To.end H (Aa SS) rfl)).mono ?_
   rintro _ Y1 ⟨rfl,T1⟩
   replace SS:=Ab ((Aa SS).heap 0 rfl T1)
   clear T1
   go_wp2_with (first|go_skip|((with_reducible show wpList ..);first|(refine zA 43 (Al.cs) (by rfl) rfl SS ?_;clear SS;intro Xc Bc SS;simp only[nn])|(refine zS (G.cs) 3 43 (by rfl) rfl rfl rfl rfl (Ea _) szD SS rfl ?_;clear SS;intro Xz SS;simp only[nn])|(refine zL (G.cs) 43 18 3 rwD szD (by rfl) rfl rfl SS rfl rfl rfl ?_;simp only[nn])))
   have HA:=Kl G
   simp only[Es] at HA
   refine(HA _).mono ?_
   rintro _ Y2 ⟨rfl,hb2⟩
   replace SS:=Ab ((Aa SS).on hb2)
   clear hb2 HA
   rw[show (G.g.k !=0)=true by simp[hga]]
   go_wp2_with fail
   go_ret2
   exact⟨h.less,false,rfl,(Nx.refl (h:=h.less) (c:=1) (m:=1) hl1 Q (by decide)).less,HP.To.end H (Aa SS) rfl⟩
