import Derived.Test.YthcmamjpfigdfaaGreatDoorRu
import Derived.Test.YthcmamjpfigdfaaGreatDoorRw
set_option linter.all false
namespace Go.Proofs.YthcmamjpfigdfaaGreatDoor
set_option maxRecDepth 100000
set_option maxHeartbeats 0
section
open Go Go.Proofs Go.Maps Go.RowKit FM Tryz
attribute [local go_sem] Am Al Ar Ah Ao Ai Au Dg Df Bh Ak Az
structure AT where
 W:Int
 M:Int
 o:Int
 T:Int
 k:KK
 v:VV
 r:VV
 d:DD
 A:Option Addr
 c:Nat
 l:List VV
 p:VV
 n:Int
 DA:Option Addr
 Dc:Nat
 ds:List (KK×DD)
 x1:Value
 x2:Value
 x3:Value
 x4:Value
 x5:Value
 y1:Value
 y2:Value
 y3:Value
 y4:Value
 y5:Value
 y6:Value
 y7:Value
 y8:Value
 y9:Value
 y10:Value
 y11:Value
 y12:Value
def actC (t:AT):List Value:= [.int .i64 t.W]++Za1 t.M t.o t.T t.k t.v t.r t.d (.slice t.A t.l.length t.c)++t.p.cs++ [.int .i64 t.n,t.x1,t.x2,t.x3,t.x4,t.x5, .slice t.DA t.ds.length t.Dc,t.y1,t.y2,t.y3,t.y4,t.y5,t.y6,t.y7,t.y8,t.y9,t.y10,t.y11,t.y12]
structure AT.Ok (t:AT):Prop where
 k:OkK t.k
 vx:t.v.x<2^64
 rx:t.r.x<2^64
 fd:FD t.d
 lz:t.l.length<=1000000
 lx: ∀v∈t.l,v.x<2^64
 la:t.A=none->t.l.length=0/\t.c=0
 px:t.p.x<2^64
 n1:t.n<=9223372036854775807
 da:t.DA=none->t.ds.length=0/\t.Dc=0
 df: ∀e∈t.ds,FD e.2
 dk: ∀e∈t.ds,OkK e.1
 one: ∀u∈actC t,u.oneCell'=true
def AT.Reads (t:AT) (X:World):Prop:=Nk X t.A t.l/\ReadsP X t.DA t.ds
def ZeQ (h:HP) (N:Nat) (t:AT) (w:World) (e:Ending) (w':World):Prop:= ∃(h1:HP) (n:AN),e= .returned (.agg (Dm n).toArray)/\h1.Gd (max N t.ds.length+1)/\h.To h1 w w'/\(h1.cap=h.cap/\h1.depth=h.depth/\h1.ent=h.ent/\LtB h h1)/\(t.W=0-> ∃er,n.f=Gq er/\AskP h N h1 er/\(t.M=9->SetQ h t.r t.k t.v h1 n.y))
theorem Eb {o:Oper} {a:Act} {w:World} {x y:Operand} {n m:Int} (b:Bool) (ho:o.op= .binOp .eql 3 x y 3) (hx:a.eval x= .int .i64 n) (hc:a.eval y= .int .i64 m) (h:decide (n=m)=b):(execOp a.eval o).run prog w= .ok (.value (.bool b)) w:=by
 unfold execOp
 simp only[ho,hx,hc]
 subst h
 simp[go_sem,eqGuard]
 rfl
theorem fill_gd {h:HP} {N:Nat} (G:h.Gd N) {n:Int} (h0:0<=n) (h1:n<=9223372036854775807):(h.fill n).Gd N:=⟨⟨⟨G.wf.ok.len,h0,h1,G.wf.ok.e0,G.wf.ok.e1,G.wf.ok.d1⟩,G.wf.ob⟩,G.ac,G.few,G.cap,G.room⟩
theorem act7_71 (h:HP) (N:Nat) (t:AT) (w:World) (H:h.Is w) (G:h.Gd N) (hN:N<=90000) (hT:Tabs w) (K:t.Ok) (hW:t.W=71) (hR: ∀X,Fr w X h.blocks->t.Reads X):Calls prog 12 #[.pointer (some ⟨h.b,0,none⟩), .agg (actC t).toArray] w (ZeQ h N t w):=by
 have SS:=Ab H.start
 have H71:decide (t.W=71)=true:=by rw[hW];rfl
 have H72:decide (t.W=72)=false:=by rw[hW];rfl
 have H0:decide (t.W=0)=false:=by rw[hW];rfl
 have HW:=Ab hW
 clear hW
 go_enter func12,ntmps12
 go_wp2_with (first|go_skip|((with_reducible show wpList ..);first|(refine zB 56 (actC t) (by rfl) rfl rfl rfl SS ?_;clear SS;intro Xa Ba SS;simp only[nn])|(refine zA 60 (Dm Bs) (by rfl) rfl (show Hid (Sy _ _ _ [_,_]) from SS) ?_;clear SS;intro Xb Bb SS;simp only[nn])|(refine zA 60 (Dm Bs) (by rfl) rfl (show Hid (Sy _ _ _ [_,_,_]) from SS) ?_;clear SS;intro Xc Bc SS;simp only[nn])|(refine z1 3 isAgg3 1 (by rfl) rfl rfl SS rfl rfl ?_;simp only[nn])|(refine zL (t.p.cs) 40 5 1 rwV szV (by rfl) rfl rfl SS rfl rfl rfl ?_;simp only[nn])|(refine rd rfl (Eb true rfl rfl rfl H71) ?_)))
 have HC:=Zcd h t.p _ ((Aa SS).hp 0 rfl) (hT.fr (Aa SS).fr H.low) G.wf.ok.len
 simp only[Bu] at HC
 refine HC.mono ?_
 rintro _ Y1 (⟨rfl,hmk,T1⟩|⟨hmk,gv,q,rfl,a1,a2,a3,a4,a5,T1⟩)
 ·have hb1:=Ab T1.hb
  replace SS:=Ab ((Aa SS).heap 0 rfl T1)
  clear T1 HC
  go_wp2_with (first|go_skip|((with_reducible show wpList ..);((refine stS (vs:= [.int .i64 0]) 3 3 (by rfl) rfl rfl rfl rfl (by simp[Value.oneCell']) (by kernel_rfl) (Aa SS) rfl (by simp[Bo,VV.cs,KK.cs,DD.cs,zeroD,Av,Dm,Bs,El]) ?_);intro Xh Lh hfh hsh;replace SS:=Ab Lh;clear Lh hfh hsh;simp only[nn])))
  refine(Zz (Bl (orE [Di h.l.length t.p,Db t.p,Jh h])) _ (.inr ⟨_,rfl⟩)).mono ?_
  rintro _ Yf ⟨rfl,hYf⟩
  replace SS:=Ab ((Aa SS).on hYf)
  clear hYf
  go_wp2_with (first|go_skip|((with_reducible show wpList ..);first|((refine stS (vs:=El (Gq (Bl (orE [Di h.l.length t.p,Db t.p,Jh h])))) 3 58 (by rfl) rfl rfl rfl rfl (Nx _) (szF) (Aa SS) rfl (by simp[Bo,VV.cs,KK.cs,DD.cs,zeroD,Av,Dm,Bs,El]) ?_);intro Xj Lj hfj hsj;replace SS:=Ab Lj;clear Lj hfj hsj;simp only[nn])|(refine zL (Dm {Bs with o:=0,f:=Gq (Bl (orE [Di h.l.length t.p,Db t.p,Jh h]))}) 60 34 3 rwN szN (by rfl) rfl rfl SS rfl rfl rfl ?_;simp only[nn])|((refine stS (vs:=Dm {Bs with o:=0,f:=Gq (Bl (orE [Di h.l.length t.p,Db t.p,Jh h]))}) 2 60 (by rfl) rfl rfl rfl rfl (Lc _) szN (Aa SS) rfl (by simp[Bo,VV.cs,KK.cs,DD.cs,zeroD,Av,Dm,Bs,El]) ?_);intro Xz Lz hfz hsz;replace SS:=Ab Lz;clear Lz hfz hsz;simp only[nn])))
  refine Kz rwN szN rfl rfl rfl ((Aa SS).hold 2 rfl) rfl ?_
  exact⟨h,{Bs with o:=0,f:=Gq (Bl (orE [Di h.l.length t.p,Db t.p,Jh h]))},rfl,G.mono (by omega),HP.To.end H (Aa SS) rfl,⟨rfl,rfl,rfl,LtB.refl _⟩,fun h0=>absurd ((Aa HW).symm.trans h0) (by decide)⟩
 ·have hb1:=Ab T1.hb
  replace SS:=Ab ((Aa SS).heap 0 rfl T1)
  clear T1 HC
  go_wp2_with (first|go_skip|((with_reducible show wpList ..);((refine stS (vs:= [.int .i64 ((h.l.length:Int)+1)]) 3 3 (by rfl) rfl rfl rfl rfl (by simp[Value.oneCell']) (by kernel_rfl) (Aa SS) rfl (by simp[Bo,VV.cs,KK.cs,DD.cs,zeroD,Av,Dm,Bs,El]) ?_);intro Xh Lh hfh hsh;replace SS:=Ab Lh;clear Lh hfh hsh;simp only[nn])))
  refine(Zz (.nilIface) _ (.inl rfl)).mono ?_
  rintro _ Yf ⟨rfl,hYf⟩
  replace SS:=Ab ((Aa SS).on hYf)
  clear hYf
  go_wp2_with (first|go_skip|((with_reducible show wpList ..);first|((refine stS (vs:=El (Gq (.nilIface))) 3 58 (by rfl) rfl rfl rfl rfl (Nx _) (szF) (Aa SS) rfl (by simp[Bo,VV.cs,KK.cs,DD.cs,zeroD,Av,Dm,Bs,El]) ?_);intro Xj Lj hfj hsj;replace SS:=Ab Lj;clear Lj hfj hsj;simp only[nn])|(refine zL (Dm {Bs with o:=((h.l.length:Int)+1),f:=Gq (.nilIface)}) 60 34 3 rwN szN (by rfl) rfl rfl SS rfl rfl rfl ?_;simp only[nn])|((refine stS (vs:=Dm {Bs with o:=((h.l.length:Int)+1),f:=Gq (.nilIface)}) 2 60 (by rfl) rfl rfl rfl rfl (Lc _) szN (Aa SS) rfl (by simp[Bo,VV.cs,KK.cs,DD.cs,zeroD,Av,Dm,Bs,El]) ?_);intro Xz Lz hfz hsz;replace SS:=Ab Lz;clear Lz hfz hsz;simp only[nn])))
  refine Kz rwN szN rfl rfl rfl ((Aa SS).hold 2 rfl) rfl ?_
  exact⟨h.more gv q,{Bs with o:=((h.l.length:Int)+1),f:=Gq (.nilIface)},rfl,(Zfd (gv:=gv) G hmk K.px a1 a2 a3 a4 a5).mono (by omega),HP.To.end H (Aa SS) (Aa hb1),⟨rfl,rfl,rfl,Zfc (by rw[a2];exact Ug (Dx hmk (Di h.l.length t.p) (by simp))) a4⟩,fun h0=>absurd ((Aa HW).symm.trans h0) (by decide)⟩
theorem act7_72 (h:HP) (N:Nat) (t:AT) (w:World) (H:h.Is w) (G:h.Gd N) (hN:N<=90000) (hT:Tabs w) (K:t.Ok) (hW:t.W=72) (hR: ∀X,Fr w X h.blocks->t.Reads X):Calls prog 12 #[.pointer (some ⟨h.b,0,none⟩), .agg (actC t).toArray] w (ZeQ h N t w):=by
 have SS:=Ab H.start
 have H71:decide (t.W=71)=false:=by rw[hW];rfl
 have H72:decide (t.W=72)=true:=by rw[hW];rfl
 have H0:decide (t.W=0)=false:=by rw[hW];rfl
 have HW:=Ab hW
 clear hW
 go_enter func12,ntmps12
 go_wp2_with (first|go_skip|((with_reducible show wpList ..);first|(refine zB 56 (actC t) (by rfl) rfl rfl rfl SS ?_;clear SS;intro Xa Ba SS;simp only[nn])|(refine zA 60 (Dm Bs) (by rfl) rfl (show Hid (Sy _ _ _ [_,_]) from SS) ?_;clear SS;intro Xb Bb SS;simp only[nn])|(refine zA 60 (Dm Bs) (by rfl) rfl (show Hid (Sy _ _ _ [_,_,_]) from SS) ?_;clear SS;intro Xc Bc SS;simp only[nn])|(refine z1 3 isAgg3 1 (by rfl) rfl rfl SS rfl rfl ?_;simp only[nn])|(refine rd rfl (Eb false rfl rfl rfl H71) ?_)|(refine rd rfl (Eb true rfl rfl rfl H72) ?_)))
 have HC:=refuel_h h t.n _ ((Aa SS).hp 0 rfl)
 refine HC.mono ?_
 rintro _ Y1 (⟨hn,rfl,T1⟩|⟨hn,rfl,T1⟩)
 ·have hb1:=Ab T1.hb
  replace SS:=Ab ((Aa SS).heap 0 rfl T1)
  clear T1 HC
  go_wp2_with (first|go_skip|((with_reducible show wpList ..);first|((refine stS (vs:= [.int .i64 7]) 3 3 (by rfl) rfl rfl rfl rfl (by simp[Value.oneCell']) (by kernel_rfl) (Aa SS) rfl (by simp[Bo,VV.cs,KK.cs,DD.cs,zeroD,Av,Dm,Bs,El]) ?_);intro Xh Lh hfh hsh;replace SS:=Ab Lh;clear Lh hfh hsh;simp only[nn])|(refine zL (Dm {Bs with f:=7}) 60 34 3 rwN szN (by rfl) rfl rfl SS rfl rfl rfl ?_;simp only[nn])|((refine stS (vs:=Dm {Bs with f:=7}) 2 60 (by rfl) rfl rfl rfl rfl (Lc _) szN (Aa SS) rfl (by simp[Bo,VV.cs,KK.cs,DD.cs,zeroD,Av,Dm,Bs,El]) ?_);intro Xz Lz hfz hsz;replace SS:=Ab Lz;clear Lz hfz hsz;simp only[nn])))
  refine Kz rwN szN rfl rfl rfl ((Aa SS).hold 2 rfl) rfl ?_
  exact⟨h,{Bs with f:=7},rfl,G.mono (by omega),HP.To.end H (Aa SS) rfl,⟨rfl,rfl,rfl,LtB.refl _⟩,fun h0=>absurd ((Aa HW).symm.trans h0) (by decide)⟩
 ·have hb1:=Ab T1.hb
  replace SS:=Ab ((Aa SS).heap 0 rfl T1)
  clear T1 HC
  go_wp2_with (first|go_skip|((with_reducible show wpList ..);first|((refine stS (vs:= [.int .i64 0]) 3 3 (by rfl) rfl rfl rfl rfl (by simp[Value.oneCell']) (by kernel_rfl) (Aa SS) rfl (by simp[Bo,VV.cs,KK.cs,DD.cs,zeroD,Av,Dm,Bs,El]) ?_);intro Xh Lh hfh hsh;replace SS:=Ab Lh;clear Lh hfh hsh;simp only[nn])|(refine zL (Dm {Bs with f:=0}) 60 34 3 rwN szN (by rfl) rfl rfl SS rfl rfl rfl ?_;simp only[nn])|((refine stS (vs:=Dm {Bs with f:=0}) 2 60 (by rfl) rfl rfl rfl rfl (Lc _) szN (Aa SS) rfl (by simp[Bo,VV.cs,KK.cs,DD.cs,zeroD,Av,Dm,Bs,El]) ?_);intro Xz Lz hfz hsz;replace SS:=Ab Lz;clear Lz hfz hsz;simp only[nn])))
  refine Kz rwN szN rfl rfl rfl ((Aa SS).hold 2 rfl) rfl ?_
  exact⟨h.fill t.n,{Bs with f:=0},rfl,(fill_gd G hn K.n1).mono (by omega),HP.To.end H (Aa SS) (Aa hb1),⟨rfl,rfl,rfl,LtB.refl h⟩,fun h0=>absurd ((Aa HW).symm.trans h0) (by decide)⟩
theorem act7_0 (h:HP) (N:Nat) (t:AT) (w:World) (H:h.Is w) (G:h.Gd N) (hN:N<=90000) (hT:Tabs w) (K:t.Ok) (hW:t.W=0) (hM:1<=t.M/\t.M<=11) (hR: ∀X,Fr w X h.blocks->t.Reads X):Calls prog 12 #[.pointer (some ⟨h.b,0,none⟩), .agg (actC t).toArray] w (ZeQ h N t w):=by
 have SS:=Ab H.start
 have H71:decide (t.W=71)=false:=by rw[hW];rfl
 have H72:decide (t.W=72)=false:=by rw[hW];rfl
 have H0:decide (t.W=0)=true:=by rw[hW];rfl
 have HW:=Ab hW
 clear hW
 go_enter func12,ntmps12
 go_wp2_with (first|go_skip|((with_reducible show wpList ..);first|(refine zB 56 (actC t) (by rfl) rfl rfl rfl SS ?_;clear SS;intro Xa Ba SS;simp only[nn])|(refine zA 60 (Dm Bs) (by rfl) rfl (show Hid (Sy _ _ _ [_,_]) from SS) ?_;clear SS;intro Xb Bb SS;simp only[nn])|(refine zA 60 (Dm Bs) (by rfl) rfl (show Hid (Sy _ _ _ [_,_,_]) from SS) ?_;clear SS;intro Xc Bc SS;simp only[nn])|(refine z1 3 isAgg3 1 (by rfl) rfl rfl SS rfl rfl ?_;simp only[nn])|(refine zL (Za1 t.M t.o t.T t.k t.v t.r t.d (.slice t.A t.l.length t.c)) 46 34 1 rwA szA (by rfl) rfl rfl SS rfl rfl rfl ?_;simp only[nn])|(refine rd rfl (Eb false rfl rfl rfl H71) ?_)|(refine rd rfl (Eb false rfl rfl rfl H72) ?_)|(refine rd rfl (Eb true rfl rfl rfl H0) ?_)))
 have HC:=ask_h h t.M t.o t.T t.k t.v t.r t.d t.A t.c t.l N _ hM.1 hM.2 ((Aa SS).hp 0 rfl) G hN (hT.fr (Aa SS).fr H.low) K.k K.vx K.fd K.lz K.lx K.la (fun X hX=>(hR X ((Aa SS).fr.trans hX (fun b hb=> .inl hb))).1)
 refine HC.mono ?_
 rintro _ Y1 ⟨h1,n,er,rfl,hf,hP,hQ,T1⟩
 have hb1:=Ab T1.hb
 replace SS:=Ab ((Aa SS).heap 0 rfl T1)
 clear T1 HC
 go_wp2_with (first|go_skip|((with_reducible show wpList ..);((refine stS (vs:=Dm n) 2 60 (by rfl) rfl rfl rfl rfl (Lc _) szN (Aa SS) rfl (by simp[Bo,VV.cs,KK.cs,DD.cs,zeroD,Av,Dm,Bs,El]) ?_);intro Xz Lz hfz hsz;replace SS:=Ab Lz;clear Lz hfz hsz;simp only[nn])))
 refine Kz rwN szN rfl rfl rfl ((Aa SS).hold 2 rfl) rfl ?_
 exact⟨h1,n,rfl,hP.1.mono (by omega),HP.To.end H (Aa SS) (Aa hb1),⟨hP.2.1.cap,hP.2.1.depth,hP.2.1.ent,hP.2.1.lt⟩,fun _=>⟨er,hf,hP,hQ⟩⟩
end
section
open Go Go.Proofs Go.Maps Go.RowKit FM
attribute [local go_sem] Am Al Ar Ah Ao Ai Au Dg Df Bh Ak Az
theorem Zc4 {X:World} {base e s g n c q:Nat} {ys:List Value} {u:Value} (h:X.ownsRow base e s (.slice (some ⟨g,0,none⟩) n c) n ys) (hq:ys[q]? =some u):X.cell? ⟨g,q,none⟩=some u/\X.frozen? ⟨g,q,none⟩=false/\g<X.heap.size:=by
 have hlt:=(List.getElem?_eq_some_iff.1 hq).1
 rcases h.2 with ⟨h1,h0⟩|⟨g',cap,cur,h1,h2,h3,h4,h5,h6,h7⟩
 ·cases h1
 ·cases h1
  have hl:=h.1
  have h8:(cur.toList.take (n * s))[q]? =some u:=by rw[h7];exact hq
  rw[List.getElem?_take,if_pos (by omega)] at h8
  have e2:cur[q]? =some u:=by simpa using h8
  exact⟨by simp[World.cell?,h3,e2],by simp[World.frozen?,h3],(Array.getElem?_eq_some_iff.1 h3).1⟩
section
variable {ops : Array Oper} {rest : List Oper} {Q : Exit → Act → World → Prop} {w w0 : World} {a : Act} {o : Oper} {E : List Nat} {L : List Ob}
theorem stR {base e s n g c p:Nat} {ys:List Value} {v:Value} {x y:Operand} (i:Nat) (ty:TypeId) (hw:Region.wanted o (yielded ops a.tmps)=true) (ho:o.op= .store ty x y) (hx:a.eval x= .pointer (some ⟨g,p,none⟩)) (hy:a.eval y=v)
  (hv:v.cells.toList= [v]) (h1:v.oneCell'=true) (hi:(Tryz.prog.info? ty).map (·.size)=some 1) (hL:Sy w0 w E L) (hg:L[i]? =some (Du base e s (.slice (some ⟨g,0,none⟩) n c) n ys)) (hp:p+1<=ys.length)
  (h: ∀X,Sy w0 X E (L.set i (Du base e s (.slice (some ⟨g,0,none⟩) n c) n (Bo ys p [v])))->wpList Tryz.prog ops Q rest (a.put o.dst undef) X):wpList Tryz.prog ops Q (o::rest) a w:=by
 refine BigFrame.wpList_want hw fun K hK=> ?_
 have hP:=hK _ _ (h _ (hL.cell i (vs:= [v]) hg hp))
 have ht:w.there g p [v].length:=fun j hj=>by
  obtain rfl:j=0:=by simpa using hj
  have:=Zc4 (hL.get i hg) (List.getElem?_eq_getElem (show p+0<ys.length by omega))
  exact⟨by rw[this.1];rfl,this.2.1⟩
 unfold Oper.wp execOp
 simp only[ho,hx,hy,Instr.storeAt,Instr.sureAddr,Sem.run_bind,Sem.run_pure,Result.andThen_ok,Ee w g p ty v [v] hv ht hi (by simpa using h1)]
 exact hP
end
theorem reads_fr {α:Type} {f:α->List Value} {k:Nat} {X Y:World} {E:List Nat} {g:Nat} {l:List α} (h:ReadsG f k Y (some ⟨g,0,none⟩) l) (hg:g ∉ E) (hF:Fr Y X E):ReadsG f k X (some ⟨g,0,none⟩) l:=fun j x hx=>by
 obtain⟨b,off,h1,h2,h3⟩:=h j x hx
 cases h1
 refine⟨g,0,rfl,Nat.lt_of_lt_of_le h2 hF.size,fun j v hv=> ?_⟩
 have e:=h3 j v hv
 have h1:=hF.block g h2 hg
 unfold World.cell? at e ⊢
 dsimp only at e ⊢
 rw[h1]
 exact e
def RowFrom (ys:List Value) (ds:List (KK×DD)) (i:Nat):Prop:=ys.length=(ds.length+1) * 20/\ ∀(j:Nat) (e:KK×DD),i<=j->ds[j]? =some e-> ∀t u,(prC e)[t]? =some u->ys[j * 20+t]? =some u
theorem Ut (e:KK×DD):(prC e).length=20:=rfl
theorem RowFrom.start (ds:List (KK×DD)) (e9:KK×DD):RowFrom (ds.flatMap prC++ [e9].flatMap prC) ds 0:=by
 refine⟨?_,fun j e _ hj t u hu=> ?_⟩
 ·rw[←List.flatMap_append,Nw prC 20 Ut]
  simp
 ·have hlt:=(List.getElem?_eq_some_iff.1 hj).1
  have he:=(List.getElem?_eq_some_iff.1 hj).2
  have ht:t<20:=(List.getElem?_eq_some_iff.1 hu).1
  have h1:=Px prC 20 Ut ds j t hlt ht
  rw[he,hu] at h1
  rw[List.getElem?_append_left (List.getElem?_eq_some_iff.1 h1).1]
  exact h1
theorem RowFrom.step {ys:List Value} {ds:List (KK×DD)} {i p:Nat} (v:Value) (h:RowFrom ys ds i) (hi:i<ds.length) (hp:p=i * 20+1):RowFrom (Bo ys p [v]) ds (i+1):=by
 have hl:p<ys.length:=by rw[h.1];omega
 have e:Bo ys p [v]=ys.set p v:=by
  unfold Bo
  rw[List.set_eq_take_append_cons_drop,if_pos hl]
  simp
 refine⟨by rw[e,List.length_set];exact h.1,fun j x hj hx t u hu=> ?_⟩
 rw[e,List.getElem?_set_ne (by omega)]
 exact h.2 j x (by omega) hx t u hu
theorem RowFrom.range {X:World} {base e g c:Nat} {ys:List Value} {ds:List (KK×DD)} {i j:Nat} {x:KK×DD} (hO:X.ownsRow base e 20 (.slice (some ⟨g,0,none⟩) (ds.length+1) c) (ds.length+1) ys) (h:RowFrom ys ds i) (hj:i<=j) (hx:ds[j]? =some x):X.rangeAt g (0+j * 20) (prC x):=fun t u hu=>by
 rw[Nat.zero_add]
 exact(Zc4 hO (h.2 j x hj hx t u hu)).1
def k9:KK:=⟨⟨#[]⟩, -9⟩
def e9:KK×DD:=(k9,zeroD)
theorem Zcl:(Tryz.prog.info? 80).map (fun i=>(i.zero,i.size,i.bytes))=some (some (.agg (prC Pf).toArray),20,192):=by kernel_rfl
theorem ex_bk9 {o:Oper} {a:Act} {w:World} (ho:o.op= .build 37 #[(1, .const (.int .i64 (-9)))]):(execOp a.eval o).run Tryz.prog w= .ok (.value (.agg k9.cs.toArray)) w:=by
 have e:(Instr.build 37 #[(1, .int .i64 (-9))]).run Tryz.prog w= .ok (.agg k9.cs.toArray) w:=by kernel_rfl
 unfold execOp
 simp only[ho,List.map_toArray,List.map_cons,List.map_nil,show a.eval (.const (.int .i64 (-9)))= .int .i64 (-9) from rfl]
 simp[e]
theorem ex_be9 {o:Oper} {a:Act} {w:World} {x:Operand} (ho:o.op= .build 80 #[(0,x)]) (hx:a.eval x= .agg k9.cs.toArray):(execOp a.eval o).run Tryz.prog w= .ok (.value (.agg (prC e9).toArray)) w:=by
 have e:(Instr.build 80 #[(0, .agg k9.cs.toArray)]).run Tryz.prog w= .ok (.agg (prC e9).toArray) w:=by kernel_rfl
 unfold execOp
 simp only[ho,List.map_toArray,List.map_cons,List.map_nil,hx]
 simp[e]
theorem Zbv (l:List (KK×DD)): ∀u∈l.flatMap prC,u.oneCell'=true:=by
 intro u hu
 obtain⟨v, -,h⟩:=List.mem_flatMap.1 hu
 exact Us v u h
theorem own_rp {X:World} {base e:Nat} {A:Option Addr} {c:Nat} {l:List (KK×DD)} {v:KK×DD} (h:X.ownsRow base e 20 (.slice A (l.length+1) c) (l.length+1) (l.flatMap prC++ [v].flatMap prC)):ReadsP X A (l++ [v]):=Rl (f:=prC) Ut (by rw[List.flatMap_append];exact h) (by simp)
theorem own_rpA {X:World} {base e:Nat} {A:Option Addr} {c:Nat} {n:Nat} {ys:List Value} (h:X.ownsRow base e 20 (.slice A (n+1) c) (n+1) ys): ∃g,A=some ⟨g,0,none⟩/\n+1<=c:=by
 rcases h.2 with ⟨h1,h0⟩|⟨g,cap,cur,h1,h2,h3,h4,h5⟩
 ·omega
 ·cases h1
  exact⟨g,rfl,h4⟩
theorem Zf6 {X:World} {base e g:Nat} {c:Nat} {l:List (KK×DD)} {v:KK×DD} (h:X.ownsRow base e 20 (.slice (some ⟨g,0,none⟩) (l.length+1) c) (l.length+1) (l.flatMap prC++ [v].flatMap prC)):X.rangeAt g (0+l.length * 20) (prC v):=by
 obtain⟨b,off,h1, -,h3⟩:=own_rp h l.length v (by simp)
 cases h1
 exact h3
theorem ZeB {w X Y:World} {h:HP} {L:List Ob} {base e g c i:Nat} {l:List (KK×DD)} {v:KK×DD} (S:Sy w X h.blocks (hpO h::L)) (hi:L[i]? =some (Du base e 20 (.slice (some ⟨g,0,none⟩) (l.length+1) c) (l.length+1) (l.flatMap prC++ [v].flatMap prC))) (k:Fr X Y h.blocks):ReadsP Y (some ⟨g,0,none⟩) l:=by
 have hr:ReadsG prC 20 X (some ⟨g,0,none⟩) l:=ReadsG.left (m:= [v]) (own_rp (S.get (i+1) hi))
 exact reads_fr hr (fun hg=>S.apart (i:=0) (j:=i+1) rfl hi (by omega) g hg (by simp[Du,Value.ownBlock])) k
end
section
open Go Go.Proofs Go.Maps Go.RowKit FM Tryz
attribute [local go_sem] Am Al Ar Ah Ao Ai Au Dg Df Bh Ak Az
theorem Zf5 {X:World} {base e g:Nat} {c:Nat} {l:List (KK×DD)} {v:KK×DD} (h:X.ownsRow base e 20 (.slice (some ⟨g,0,none⟩) (l.length+1) c) (l.length+1) (l.flatMap prC++ [v].flatMap prC)):X.rangeAt g (l.length * 20) (prC v):=by
 have:=Zf6 h
 rwa [Nat.zero_add] at this
theorem ex_neI {o:Oper} {a:Act} {w:World} {x y:Operand} {n m:Int} (b:Bool) (ho:o.op= .binOp .neq 3 x y 3) (hx:a.eval x= .int .i64 n) (hc:a.eval y= .int .i64 m) (h:decide (n=m)=b):(execOp a.eval o).run prog w= .ok (.value (.bool (!b))) w:=by
 unfold execOp
 simp only[ho,hx,hc]
 subst h
 by_cases h:n=m<;>simp[go_sem,eqGuard,h]
theorem ex_bans {o:Oper} {a:Act} {w:World} {x y:Operand} {c k:Int} (ho:o.op= .build 60 #[(4,x),(6,y)]) (hx:a.eval x= .int .i64 c) (hy:a.eval y= .agg (El k).toArray):(execOp a.eval o).run prog w= .ok (.value (.agg (Dm {Bs with o:=c,f:=k}).toArray)) w:=by
 have e:(Instr.build 60 #[(4, .int .i64 c),(6, .agg (El k).toArray)]).run prog w= .ok (.agg (Dm {Bs with o:=c,f:=k}).toArray) w:=by kernel_rfl
 unfold execOp
 simp only[ho,List.map_toArray,List.map_cons,List.map_nil,hx,hy]
 simp[e]
def AT.Known (t:AT):Prop:=t.W=71∨t.W=72∨t.W=91∨(t.W=0/\1<=t.M/\t.M<=11)
theorem act7_h (h:HP) (N:Nat) (t:AT) (w:World) (H:h.Is w) (G:h.Gd N) (hN:N<=90000) (hT:Tabs w) (K:t.Ok) (hK:t.Known) (hW:t.W≠91) (hR: ∀X,Fr w X h.blocks->t.Reads X):Calls prog 12 #[.pointer (some ⟨h.b,0,none⟩), .agg (actC t).toArray] w (ZeQ h N t w):=by
 rcases hK with h1|h1|h1|⟨h1,hM⟩
 ·exact act7_71 h N t w H G hN hT K h1 hR
 ·exact act7_72 h N t w H G hN hT K h1 hR
 ·exact absurd h1 hW
 ·exact act7_0 h N t w H G hN hT K h1 hM hR
theorem act9_7 (h:HP) (N:Nat) (t:AT) (w:World) (H:h.Is w) (G:h.Gd N) (hN:N<=90000) (hT:Tabs w) (K:t.Ok) (hK:t.Known) (hW:t.W≠91) (hR: ∀X,Fr w X h.blocks->t.Reads X):Calls prog 8 #[.pointer (some ⟨h.b,0,none⟩), .agg (actC t).toArray] w (ZeQ h N t w):=by
 have SS:=Ab H.start
 have H91:decide (t.W=91)=false:=decide_eq_false hW
 go_enter func8,ntmps8
 go_wp2_with (first|go_skip|((with_reducible show wpList ..);first|(refine zB 56 (actC t) (by rfl) rfl rfl rfl SS ?_;clear SS;intro Xa Ba SS;simp only[nn])|(refine zA 60 (Dm Bs) (by rfl) rfl (show Hid (Sy _ _ _ [_,_]) from SS) ?_;clear SS;intro Xb Bb SS;simp only[nn])|(refine z1 3 isAgg3 1 (by rfl) rfl rfl SS rfl rfl ?_;simp only[nn])|(refine zL (actC t) 56 59 1 rwT szT (by rfl) rfl rfl SS rfl rfl rfl ?_;simp only[nn])|(refine rd rfl (ex_neI false rfl rfl rfl H91) ?_)))
 have HC:=act7_h h N t _ ((Aa SS).hp 0 rfl) G hN (hT.fr (Aa SS).fr H.low) K hK hW (fun X hX=>hR X ((Aa SS).fr.trans hX (fun b hb=> .inl hb)))
 refine HC.mono ?_
 rintro _ Y1 ⟨h1,n,rfl,g1,T1,hc,hq⟩
 have hb1:=Ab T1.hb
 replace SS:=Ab ((Aa SS).heap 0 rfl T1)
 clear T1 HC
 go_wp2_with (first|go_skip|((with_reducible show wpList ..);first|((refine stS (vs:=Dm n) 2 60 (by rfl) rfl rfl rfl rfl (Lc _) szN (Aa SS) rfl (by simp[Bo,VV.cs,KK.cs,DD.cs,zeroD,Av,Dm,Bs,El]) ?_);intro Xz Lz hfz hsz;replace SS:=Ab Lz;clear Lz hfz hsz;simp only[nn])))
 refine Kz rwN szN rfl rfl rfl ((Aa SS).hold 2 rfl) rfl ?_
 exact⟨h1,n,rfl,g1,HP.To.end H (Aa SS) (Aa hb1),hc,hq⟩
theorem fault2_h (er:Value) (w:World) (h:er= .nilIface∨ ∃k,er=Bl k):Calls prog 26 #[er] w fun e w'=>e= .returned (.agg (El (Gq er)).toArray)/\Below w.heap.size w w':=by
 have SS:=Ab (Sy.nil w [])
 go_enter func26,ntmps26
 go_wp2_with (first|go_skip|((with_reducible show wpList ..);first|(refine zA 58 (El 0) (by rfl) rfl SS ?_;clear SS;intro Xa Ba SS;simp only[nn])))
 refine(Zz er _ h).mono ?_
 rintro _ Yf ⟨rfl,hYf⟩
 replace SS:=Ab ((Aa SS).on hYf)
 clear hYf
 go_wp2_with (first|go_skip|((with_reducible show wpList ..);first|((refine stS (vs:=El (Gq er)) 0 58 (by rfl) rfl rfl rfl rfl (Nx _) szF (Aa SS) rfl (by simp[Bo,El,VV.cs]) ?_);intro Xb Lb hfb hsb;replace SS:=Ab Lb;clear Lb hfb hsb;simp only[nn])))
 refine Kz rwF szF rfl rfl rfl ((Aa SS).hold 0 rfl) rfl ?_
 exact⟨rfl,(Aa SS).fr.below⟩
theorem act9_91 (h:HP) (N:Nat) (t:AT) (w:World) (H:h.Is w) (G:h.Gd N) (hN:N<=90000) (hT:Tabs w) (K:t.Ok) (hW:t.W=91) (hz:t.ds.length<=1000000) (hR: ∀X,Fr w X h.blocks->t.Reads X):Calls prog 8 #[.pointer (some ⟨h.b,0,none⟩), .agg (actC t).toArray] w (ZeQ h N t w):=by
 have SS:=Ab H.start
 have HR:=Ab hR
 clear hR
 have H91:decide (t.W=91)=true:=decide_eq_true hW
 clear hW
 go_enter func8,ntmps8
 go_wp2_with (first|go_skip|((with_reducible show wpList ..);first|(refine zB 56 (actC t) (by rfl) rfl rfl rfl SS ?_;clear SS;intro Xa Ba SS;simp only[nn])|(refine zA 60 (Dm Bs) (by rfl) rfl (show Hid (Sy _ _ _ [_,_]) from SS) ?_;clear SS;intro Xb Bb SS;simp only[nn])|(refine z1 3 isAgg3 1 (by rfl) rfl rfl SS rfl rfl ?_;simp only[nn])|(refine rd rfl (ex_neI true rfl rfl rfl H91) ?_)|((refine emS (e:=80) (size:=20) w.heap.size (by rfl) rfl (fun w=>by kernel_rfl) (Aa SS) (Aa SS).fr.size ?_);intro Xd Bd Ld;replace SS:=Ab Ld;clear Ld;simp only[nn])|(refine z1 49 isAgg49 1 (by rfl) rfl rfl SS rfl rfl ?_;simp only[nn])|((refine apA0 (news:=t.ds.flatMap prC) 3 (by rfl) rfl rfl rfl underlying49 Zcl rfl (by decide) (Aa SS) rfl K.da (Nw prC 20 Ut t.ds) (ReadsG.src (f:=prC) Ut (by decide) (Aa HR _ (Aa SS).fr).2) (Zbv t.ds) (by omega) (by decide) (Aa SS).fr.size ?_);intro Ae ce Xe Le;replace SS:=Ab Le;clear Le;simp only[nn])|(refine rd rfl (ex_bk9 rfl) ?_)|(refine rd rfl (ex_be9 rfl rfl) ?_)|((refine bsS (cs:= [e9].flatMap prC) (by rfl) rfl rfl underlying49 Zcl (by decide) rfl rfl (by decide) (Aa SS) ?_);intro Xf Bf hEf Lf hbf;replace SS:=Ab Lf;clear Lf hbf hEf;simp only[nn])|((refine apS 3 4 rfl rfl rfl rfl underlying49 Zcl rfl (by decide) (Aa SS) rfl rfl rfl (Zbv [e9]) (by omega) (by decide) (Aa SS).fr.size ?_);intro Ag cg Xg Lg;replace SS:=Ab Lg;clear Lg;simp only[nn])))
 obtain⟨g,rfl,hcg⟩:=own_rpA (show World.ownsRow _ _ _ 20 (.slice Ag (t.ds.length+1) cg) (t.ds.length+1) _ from (Aa SS).get 3 rfl)
 have hS4:Sy w _ h.blocks [Aq Ba (actC t),Aq Bb (Dm Bs),Du w.heap.size 80 20 (.slice (some ⟨g,0,none⟩) (t.ds.length+1) cg) (t.ds.length+1) (t.ds.flatMap prC++ [e9].flatMap prC),Aq Bf ([e9].flatMap prC),hpO h]:=(Sy.back (L:= [Aq Ba (actC t),Aq Bb (Dm Bs),Du w.heap.size 80 20 (.slice (some ⟨g,0,none⟩) (t.ds.length+1) cg) (t.ds.length+1) (t.ds.flatMap prC++ [e9].flatMap prC),Aq Bf ([e9].flatMap prC)]) (o:=hpO h) (Aa SS)).drew
 clear SS
 have cu: ∀{X:World} {M:List Ob},Sy w X h.blocks ([Aq Ba (actC t),Aq Bb (Dm Bs),Du w.heap.size 80 20 (.slice (some ⟨g,0,none⟩) (t.ds.length+1) cg) (t.ds.length+1) (t.ds.flatMap prC++ [e9].flatMap prC),Aq Bf ([e9].flatMap prC)]++M)->Sy w X h.blocks [Aq Ba (actC t),Aq Bb (Dm Bs),Du w.heap.size 80 20 (.slice (some ⟨g,0,none⟩) (t.ds.length+1) cg) (t.ds.length+1) (t.ds.flatMap prC++ [e9].flatMap prC),Aq Bf ([e9].flatMap prC)]:=fun h=>Sy.left h
 refine wp_region_held_drew (P:=prog) (S:=fun X=>Sy w X h.blocks [Aq Ba (actC t),Aq Bb (Dm Bs),Du w.heap.size 80 20 (.slice (some ⟨g,0,none⟩) (t.ds.length+1) cg) (t.ds.length+1) (t.ds.flatMap prC++ [e9].flatMap prC),Aq Bf ([e9].flatMap prC)]) (by kernel_rfl) (cu hS4) (fun hS0=> ?_)
 refine gp 0 (some 24) (.pointer (some ⟨h.b,0,none⟩)) rfl rfl (cu hS4) ?_
 refine gp 1 (some 25) (.pointer (some ⟨Ba,35,none⟩)) rfl rfl (cu hS4) ?_
 refine gq 2 (some 26) (.agg (t.p.cs).toArray) rfl rfl (fun X hX=>Af (vs:=t.p.cs) 40 5 rwV szV rfl rfl (hX.hold 0 rfl) rfl rfl) (cu hS4) ?_
 refine gp 3 (some 27) (.slice (some ⟨g,0,none⟩) (t.ds.length+1) cg) rfl rfl (cu hS4) ?_
 refine gp 4 (some 28) (.pointer (some ⟨Ba,46,none⟩)) rfl rfl (cu hS4) ?_
 refine gq 5 (some 29) (.slice t.DA t.ds.length t.Dc) rfl rfl (fun X hX=>Ad 49 isAgg49 rfl rfl (hX.hold 0 rfl) rfl) (cu hS4) ?_
 refine gq 6 (some 30) (.int .i64 (t.ds.length:Nat)) rfl rfl (fun X hX=>Bm 49 80 underlying49 rfl rfl) (cu hS4) ?_
 refine gq 7 (some 31) (.slice (some ⟨g,0,none⟩) t.ds.length cg) rfl rfl (fun X hX=>ex_slP rfl rfl rfl (by omega)) (cu hS4) ?_
 refine gr (rs:= [8]) (gc 8 (some 32) rfl rfl (ordNew_h h t.p (some ⟨g,0,none⟩) cg t.ds N _ (hS4.hp 4 rfl) G (hT.fr hS4.fr H.low) K.px K.df K.dk (fun X hX=>ZeB (i:=2) (Sy.front (L:= [Aq Ba (actC t),Aq Bb (Dm Bs),Du w.heap.size 80 20 (.slice (some ⟨g,0,none⟩) (t.ds.length+1) cg) (t.ds.length+1) (t.ds.flatMap prC++ [e9].flatMap prC),Aq Bf ([e9].flatMap prC)]) hS4) rfl hX) hz) ?_ gn)
 rintro e Yt1 ⟨h1,cc,er,rfl,hEr,g1,T1,k1,k2,k3, -,k5⟩
 have hb1:=Ab T1.hb
 have hqt1:=Sy.heap hS4 4 rfl T1
 clear T1
 refine⟨_,rfl,cu hqt1, ?_⟩
 refine gp 9 (some 23) (.tuple #[.int .i64 cc,er]) rfl rfl (cu hqt1) ?_
 refine gp 10 (some 33) (.int .i64 cc) rfl rfl (cu hqt1) ?_
 refine gp 11 (some 34) (er) rfl rfl (cu hqt1) ?_
 refine gp 12 (some 6) (.int .i64 cc) rfl rfl (cu hqt1) ?_
 refine gp 13 (some 7) (er) rfl rfl (cu hqt1) ?_
 refine dn ?_
 try simp only[nn]
 have SS:=Ab (Sy.front (L:= [Aq Ba (actC t),Aq Bb (Dm Bs),Du w.heap.size 80 20 (.slice (some ⟨g,0,none⟩) (t.ds.length+1) cg) (t.ds.length+1) (t.ds.flatMap prC++ [e9].flatMap prC),Aq Bf ([e9].flatMap prC)]) (o:=hpO h1) hqt1)
 go_wp2_with (first|go_skip|((with_reducible show wpList ..);first|(refine z1 49 isAgg49 1 (by rfl) rfl rfl SS rfl rfl ?_;simp only[nn])|(refine rd rfl (Bm 49 80 underlying49 rfl rfl) ?_)|(refine rd rfl (Ax 49 20 t.ds.length Qu Qw rfl rfl rfl (Nat.lt_succ_self _)) ?_)|(refine rd rfl (Zct 3 1 isAgg3 rfl rfl (Zf5 ((Aa SS).get 3 rfl)) rfl) ?_)|(refine rd rfl (Jb rfl rfl rfl rfl) ?_)))
 go_loopg [8] t.ds.length (fun gm s8 wr=> ∃(i:Nat) (ys:List Value),s8= .int .i64 (i:Nat)/\i<=t.ds.length/\t.ds.length - i<=gm/\Hid (RowFrom ys t.ds i)/\Hid (Sy w wr h.blocks [hpO h1,Aq Ba (actC t),Aq Bb (Dm Bs),Du w.heap.size 80 20 (.slice (some ⟨g,0,none⟩) (t.ds.length+1) cg) (t.ds.length+1) ys,Aq Bf ([e9].flatMap prC)]))
 case atStart=>exact⟨0,_,rfl,by omega,by omega,Ab (RowFrom.start t.ds e9),SS⟩
 case round=>
  clear SS
  obtain⟨i,ys,rfl,hil,hgm,HF,SS⟩:=hrel
  by_cases hlt:i<t.ds.length
  ·have dlt:decide ((i:Int)<(t.ds.length:Int))=true:=decide_eq_true (by omega)
   have hw1:IntKind.i64.wrap ((i:Int)+1)=(i:Int)+1:=by rw[IntKind.wrap_i64];omega
   obtain⟨x,hx⟩: ∃x,t.ds[i]? =some x:=⟨_,List.getElem?_eq_getElem hlt⟩
   have eqc: ∀w,Calls prog 25 #[x.2.agg,x.2.agg] w fun e w'=>e= .returned (.bool true)/\Below w.heap.size w w':=fun w=>by
    have hfx:=K.df x (List.mem_of_getElem? hx)
    have:=eqD_any x.2 x.2 w
    rw[eqD_self] at this
    exact this
   obtain⟨b,off,hDA, -, -⟩:=(Aa HR w (Fr.refl _ _)).2 i x hx
   have HD:=Ab hDA
   clear hDA
   have HG1: ∀X,Sy w X h.blocks [hpO h1,Aq Ba (actC t),Aq Bb (Dm Bs),Du w.heap.size 80 20 (.slice (some ⟨g,0,none⟩) (t.ds.length+1) cg) (t.ds.length+1) ys,Aq Bf ([e9].flatMap prC)]->X.rangeAt g (0+i * 20) (x.1.cs++x.2.cs):=fun X hX=>RowFrom.range (hX.get 3 rfl) (Aa HF) (Nat.le_refl _) hx
   have HG2: ∀X,Sy w X h.blocks [hpO h1,Aq Ba (actC t),Aq Bb (Dm Bs),Du w.heap.size 80 20 (.slice (some ⟨g,0,none⟩) (t.ds.length+1) cg) (t.ds.length+1) ys,Aq Bf ([e9].flatMap prC)]->X.rangeAt b (off+i * 20) (x.1.cs++x.2.cs):=fun X hX=>by
    obtain⟨b2,o2,h1, -,h3⟩:=(Aa HR X hX.fr).2 i x hx
    rw[Aa HD] at h1
    cases h1
    exact h3
   go_wp2_with (first|go_skip|((with_reducible show wpList ..);first|(refine z1 49 isAgg49 1 (by rfl) rfl rfl SS rfl rfl ?_;simp only[nn])|(refine rd rfl (Bm 49 80 underlying49 rfl rfl) ?_)))
   have hS10:Sy w _ h.blocks [hpO h1,Aq Ba (actC t),Aq Bb (Dm Bs),Du w.heap.size 80 20 (.slice (some ⟨g,0,none⟩) (t.ds.length+1) cg) (t.ds.length+1) ys,Aq Bf ([e9].flatMap prC)]:=(Aa SS).drew
   clear SS
   refine wp_region_held_drew (P:=prog) (S:=fun X=>Sy w X h.blocks _) (by kernel_rfl) (hS10) (fun hS0=> ?_)
   refine gp 0 (some 53) (.slice (some ⟨g,0,none⟩) (t.ds.length+1) cg) rfl rfl (hS10) ?_
   refine gp 1 (some 54) (.int .i64 (i:Nat)) rfl rfl (hS10) ?_
   refine gq 2 (some 55) (.pointer (some ⟨g,0+i * 20,none⟩)) rfl rfl (fun X hX=>Ax 49 20 i Qu Qw rfl rfl rfl (by omega)) (hS10) ?_
   refine gp 3 (some 56) (.pointer (some ⟨g,0+i * 20,none⟩)) rfl rfl (hS10) ?_
   refine gq 4 (some 57) (.agg x.1.cs.toArray) rfl rfl (fun X hX=>Bp (vs:=x.1.cs) 37 2 rwK szK rfl rfl (Ku (HG1 X hX)) rfl) (hS10) ?_
   refine gp 5 (some 58) (.pointer (some ⟨Ba,46,none⟩)) rfl rfl (hS10) ?_
   refine gq 6 (some 59) (.slice (some ⟨b,off,none⟩) t.ds.length t.Dc) rfl rfl (fun X hX=>Ad (v:= .slice (some ⟨b,off,none⟩) t.ds.length t.Dc) 49 isAgg49 rfl rfl (hX.hold 1 rfl) (by rw[←Aa HD];rfl)) (hS10) ?_
   refine gp 7 (some 60) (.int .i64 (i:Nat)) rfl rfl (hS10) ?_
   refine gq 8 (some 61) (.pointer (some ⟨b,off+i * 20,none⟩)) rfl rfl (fun X hX=>Ax 49 20 i Qu Qw rfl rfl rfl (by omega)) (hS10) ?_
   refine gp 9 (some 62) (.pointer (some ⟨b,off+i * 20,none⟩)) rfl rfl (hS10) ?_
   refine gq 10 (some 63) (.agg x.1.cs.toArray) rfl rfl (fun X hX=>Bp (vs:=x.1.cs) 37 2 rwK szK rfl rfl (Ku (HG2 X hX)) rfl) (hS10) ?_
   refine gq 11 (some 64) (.bool false) rfl rfl (fun X hX=>ex_kne rfl rfl rfl) (hS10) ?_
   refine gp 12 (some 65) (.bool false) rfl rfl (hS10) ?_
   refine gp 13 (some 66) (.slice (some ⟨g,0,none⟩) (t.ds.length+1) cg) rfl rfl (hS10) ?_
   refine gp 14 (some 67) (.int .i64 (i:Nat)) rfl rfl (hS10) ?_
   refine gq 15 (some 68) (.pointer (some ⟨g,0+i * 20,none⟩)) rfl rfl (fun X hX=>Ax 49 20 i Qu Qw rfl rfl rfl (by omega)) (hS10) ?_
   refine gp 16 (some 69) (.pointer (some ⟨g,0+i * 20+2,none⟩)) rfl rfl (hS10) ?_
   refine gq 17 (some 70) (.agg x.2.cs.toArray) rfl rfl (fun X hX=>Bp (vs:=x.2.cs) 43 18 rwD szD rfl rfl (Ms (HG1 X hX)) rfl) (hS10) ?_
   refine gp 18 (some 71) (.pointer (some ⟨Ba,46,none⟩)) rfl rfl (hS10) ?_
   refine gq 19 (some 72) (.slice (some ⟨b,off,none⟩) t.ds.length t.Dc) rfl rfl (fun X hX=>Ad (v:= .slice (some ⟨b,off,none⟩) t.ds.length t.Dc) 49 isAgg49 rfl rfl (hX.hold 1 rfl) (by rw[←Aa HD];rfl)) (hS10) ?_
   refine gp 20 (some 73) (.int .i64 (i:Nat)) rfl rfl (hS10) ?_
   refine gq 21 (some 74) (.pointer (some ⟨b,off+i * 20,none⟩)) rfl rfl (fun X hX=>Ax 49 20 i Qu Qw rfl rfl rfl (by omega)) (hS10) ?_
   refine gp 22 (some 75) (.pointer (some ⟨b,off+i * 20+2,none⟩)) rfl rfl (hS10) ?_
   refine gq 23 (some 76) (.agg x.2.cs.toArray) rfl rfl (fun X hX=>Bp (vs:=x.2.cs) 43 18 rwD szD rfl rfl (Ms (HG2 X hX)) rfl) (hS10) ?_
   refine gr (rs:= [24]) (gcB 24 (some 77) rfl rfl hS10 (eqc _) id ?_ gn)
   intro Yu1 hqu1
   refine gp 25 (some 78) (.bool false) rfl rfl (hqu1) ?_
   refine gp 26 (some 79) (.bool false) rfl rfl (hqu1) ?_
   refine dn ?_
   try simp only[nn]
   have SS:=Ab hqu1
   go_wp2_with (first|go_skip|((with_reducible show wpList ..);first|(refine rd rfl (Ax 49 20 i Qu Qw rfl rfl rfl (by omega)) ?_)|((refine stR 3 3 (by rfl) rfl rfl rfl rfl rfl (by kernel_rfl) (Aa SS) rfl (by rw[(Aa HF).1];omega) ?_);intro Xr Lr;replace SS:=Ab Lr;clear Lr;simp only[nn])))
   go_roundg (t.ds.length - (i+1))
   case measure=>omega
   case rel=>exact⟨i+1,_,by go_num,by omega,by omega,Ab ((Aa HF).step _ hlt (by omega)),SS⟩
  ·obtain rfl:i=t.ds.length:=by omega
   go_wp2_with (first|go_skip|((with_reducible show wpList ..);first|(refine z1 49 isAgg49 1 (by rfl) rfl rfl SS rfl rfl ?_;simp only[nn])|(refine rd rfl (Bm 49 80 underlying49 rfl rfl) ?_)))
   refine(fault2_h er _ hEr).mono ?_
   rintro _ Yf ⟨rfl,hYf⟩
   replace SS:=Ab ((Aa SS).on hYf)
   clear hYf
   go_wp2_with (first|go_skip|((with_reducible show wpList ..);first|(refine rd rfl (ex_bans rfl rfl rfl) ?_)|((refine stS (vs:=Dm {Bs with o:=cc,f:=Gq er}) 2 60 (by rfl) rfl rfl rfl rfl (Lc _) szN (Aa SS) rfl (by simp[Bo,VV.cs,KK.cs,DD.cs,zeroD,Av,Dm,Bs,El]) ?_);intro Xz Lz hfz hsz;replace SS:=Ab Lz;clear Lz hfz hsz;simp only[nn])))
   refine Kz rwN szN rfl rfl rfl ((Aa SS).hold 2 rfl) rfl ?_
   exact⟨h1,{Bs with o:=cc,f:=Gq er},rfl,g1.mono (by omega),HP.To.end H (Aa SS) (Aa hb1),⟨k1,k2,k3,k5⟩,fun h0=>by have:=of_decide_eq_true H91;rw[this] at h0;cases h0⟩
end
section
open Go Go.Proofs Go.Maps Go.RowKit FM
attribute [local go_sem] Am Al Ar Ah Ao Ai Au Dg Df Bh Ak Az
def Ln:AT:=⟨0,0,0,0,⟨⟨#[]⟩,0⟩,Av,Av,zeroD,none,0, [],Av,0,none,0, [], .slice none 0 0, .bool false, .slice none 0 0, .slice none 0 0, .string ⟨#[]⟩, .slice none 0 0, .slice none 0 0, .int .i64 0, .bool false, .float .f64 0, .string ⟨#[]⟩, .int .i64 0, .int .i64 0, .int .i64 0, .int .i64 0, .slice none 0 0, .slice none 0 0⟩
theorem Mw:(Tryz.prog.info? 56).map (fun i=>(i.zero,i.size,i.bytes))=some (some (.agg (actC Ln).toArray),59,688):=by kernel_rfl
theorem ZdD (t:AT):(actC t).length=59:=rfl
theorem ZcK:Tryz.prog.underlying 22=some (.slice (Tryz.prog.elem 22)):=by kernel_rfl
theorem Zdk (w:World):(sizeOf (Tryz.prog.elem 22)).run Tryz.prog w= .ok 59 w:=by kernel_rfl
def Lp (c f d:Int) (v:Value):List Value:= [.int .i64 c, .int .i64 f, .int .i64 d,v]
def knB (t:AT):Bool:=decide (t.W=71)||(decide (t.W=72)||(decide (t.W=91)||(decide (t.W=0) && (decide (1<=t.M) && decide (t.M<=11)))))
theorem Zga {t:AT} (h:knB t=true):t.Known:=by
 simp only[knB,Bool.or_eq_true,Bool.and_eq_true,decide_eq_true_eq] at h
 exact h
theorem ex_leq {o:Oper} {a:Act} {w:World} {x y:Operand} {n m:Int} (b:Bool) (ho:o.op= .binOp .leq 3 x y 3) (hx:a.eval x= .int .i64 n) (hc:a.eval y= .int .i64 m) (h:decide (n<=m)=b):(execOp a.eval o).run Tryz.prog w= .ok (.value (.bool b)) w:=by
 subst h
 unfold execOp
 simp only[ho,hx,hc]
 simp[go_sem,eqGuard]
end
section
open Go Go.Proofs Go.Maps Go.RowKit FM Tryz
attribute [local go_sem] Am Al Ar Ah Ao Ai Au Dg Df Bh Ak Az
theorem Sy.nilRow {w X:World} {E:List Nat} {L:List Ob} (h:Sy w X E L) (base e s:Nat):Sy w X E (L++ [Du base e s (.slice none 0 0) 0 []]):=Sy.add h (Mr _ _ _ _ _ _) ⟨by simp, .inl ⟨rfl,rfl⟩⟩ (Below.refl _ _) (fun b hb=>by simp[Du,Value.ownBlock] at hb)
theorem Mj (t:AT):Bo (actC Ln) 0 (actC t)=actC t:=by kernel_rfl
theorem Zaf {ts:List AT} {i:Nat} {t:AT} (h:ts[i]? =some t):(ts.take (i+1)).filter knB=(ts.take i).filter knB++(if knB t then [t] else []):=by
 rw[List.take_add_one,h,List.filter_append]
 by_cases hk:knB t=true<;>simp[hk]
theorem known_w (c f d:Int) (A:Option Addr) (cp:Nat) (ts:List AT) (w:World) (hz:ts.length<=1000000) (hone: ∀t∈ts,∀u∈actC t,u.oneCell'=true) (hR:ReadsG actC 59 w A ts):Calls prog 7 #[.agg (Lp c f d (.slice A ts.length cp)).toArray] w fun e w'=> ∃A1 c1,e= .returned (.agg (Lp c f d (.slice A1 (ts.filter knB).length c1)).toArray)/\w'.ownsRow w.heap.size 56 59 (.slice A1 (ts.filter knB).length c1) (ts.filter knB).length ((ts.filter knB).flatMap actC)/\Below w.heap.size w w':=by
 have SS:=Ab (Sy.nil w [])
 go_enter func7,ntmps7
 go_wp2_with (first|go_skip|((with_reducible show wpList ..);first|((with_reducible show wpList _ _ _ (Oper.mk _ (Op.box _ _) _ _ _ _::_) _ _);(refine zB 24 (Lp c f d (.slice A ts.length cp)) (by rfl) rfl rfl rfl SS ?_;clear SS;intro Xa Ba SS;simp only[nn]))|((with_reducible show wpList _ _ _ (Oper.mk _ (Op.alloc _) _ _ _ _::_) _ _);(refine zA 24 (Lp 0 0 0 (.slice none 0 0)) (by rfl) rfl SS ?_;clear SS;intro Xb Bb SS;simp only[nn]))))
 replace SS:=Ab (Sy.nilRow (Aa SS) w.heap.size 56 59)
 go_loopg [3,4] ts.length (fun gm s3 s4 wr=> ∃(i:Nat) (A1:Option Addr) (c1 k:Nat),s3= .slice A1 k c1/\s4= .int .i64 (i:Nat)/\i<=ts.length/\ts.length - i<=gm/\Hid (((ts.take i).filter knB).length=k)/\Hid (Sy w wr [] [Aq Ba (Lp c f d (.slice A ts.length cp)),Aq Bb (Lp 0 0 0 (.slice none 0 0)),Du w.heap.size 56 59 (.slice A1 k c1) k (((ts.take i).filter knB).flatMap actC)]))
 case atStart=>exact⟨0,none,0,0,rfl,rfl,by omega,by omega,Ab rfl,SS⟩
 case round=>
  clear SS
  obtain⟨i,A1,c1,k,rfl,rfl,hil,hgm,HK,SS⟩:=hrel
  by_cases hlt:i<ts.length
  ·have dlt:decide ((i:Int)<(ts.length:Int))=true:=decide_eq_true (by omega)
   have hw1:IntKind.i64.wrap ((i:Int)+1)=(i:Int)+1:=by rw[IntKind.wrap_i64];omega
   obtain⟨t,hx⟩: ∃t,ts[i]? =some t:=⟨_,List.getElem?_eq_getElem hlt⟩
   have HM:=Ab (List.mem_of_getElem? hx)
   have HKK:Hid (k<=1000000):=Ab (by have:=List.length_filter_le knB (ts.take i);have h2:=List.length_take_le i ts;have:=Aa HK;omega)
   obtain⟨b,off,hA,hb,hr⟩:=hR i t hx
   subst hA
   have HA2:Hid (∀X,Below w.heap.size w X->X.rangeAt b (off+i * 59) (actC t)):=Ab (fun X hX=>Dn hr hb hX)
   have HLT:=Ab hlt
   clear hlt hil hr hb
   by_cases h71:t.W=71
   ·have H71:decide (t.W=71)=true:=decide_eq_true h71
    clear h71
    have HB:knB t=true:=by simp only[knB,H71];rfl
    have HT:Hid ((ts.take (i+1)).filter knB=(ts.take i).filter knB++ [t]):=Ab (by have h:=Zaf hx;rw[HB,if_pos rfl] at h;exact h)
    clear HB
    go_wp2_with (first|go_skip|((with_reducible show wpList ..);first|((with_reducible show wpList _ _ _ (Oper.mk _ (Op.load _ _) _ _ _ _::_) _ _);(refine rd rfl (Ad 22 isAgg22 rfl rfl ((Aa SS).hold 0 rfl) rfl) ?_))|((with_reducible show wpList _ _ _ (Oper.mk _ (Op.call _) _ _ _ _::_) _ _);(refine rd rfl (Bm 22 56 underlying22 rfl rfl) ?_))|((with_reducible show wpList _ _ _ (Oper.mk _ (Op.indexAddr _ _ _) _ _ _ _::_) _ _);(refine rd rfl (Ax 22 59 i ZcK Zdk rfl rfl rfl (Aa HLT)) ?_))|((with_reducible show wpList _ _ _ (Oper.mk _ (Op.load _ _) _ _ _ _::_) _ _);(refine rd rfl (Bp (vs:=actC t) 56 59 rwT szT rfl rfl (Aa HA2 _ (Aa SS).fr.below) rfl) ?_))|((with_reducible show wpList _ _ _ (Oper.mk _ (Op.alloc _) _ _ _ _::_) _ _);((refine alS (v:= .agg (actC Ln).toArray) 56 (actC Ln) (by rfl) rfl (fun w=>by kernel_rfl) rfl (Nat.succ_pos _) (Aa SS) ?_);intro Xt Bt hEt Lt hbt;replace SS:=Ab Lt;clear Lt hbt hEt;simp only[nn]))|((with_reducible show wpList _ _ _ (Oper.mk _ (Op.store _ _ _) _ _ _ _::_) _ _);((refine stS (vs:=actC t) 3 56 (by rfl) rfl rfl rfl rfl (hone t (Aa HM)) szT (Aa SS) rfl (by show 0+59<=59;omega) ?_);intro Xs Ls hfs hss;rw[Mj] at Ls;replace SS:=Ab Ls;clear Ls hfs hss;simp only[nn]))|((with_reducible show wpList _ _ _ (Oper.mk _ (Op.load _ _) _ _ _ _::_) _ _);(refine rd rfl (Ad 3 isAgg3 rfl rfl ((Aa SS).hold 3 rfl) rfl) ?_))|((with_reducible show wpList _ _ _ (Oper.mk _ (Op.load _ _) _ _ _ _::_) _ _);(refine rd rfl (Af (vs:=actC t) 56 59 rwT szT rfl rfl ((Aa SS).hold 3 rfl) rfl rfl) ?_))|((with_reducible show wpList _ _ _ (Oper.mk _ (Op.buildSlice _ _ _) _ _ _ _::_) _ _);((refine bsS (cs:=actC t) (by rfl) rfl rfl underlying22 Mw (by decide) rfl rfl (by decide) (Aa SS) ?_);intro Xf Bf hEf Lf hbf;replace SS:=Ab Lf;clear Lf hbf hEf;simp only[nn]))|((with_reducible show wpList _ _ _ (Oper.mk _ (Op.call _) _ _ _ _::_) _ _);((refine apS 2 4 rfl rfl rfl rfl underlying22 Mw rfl (by decide) (Aa SS) rfl rfl rfl (hone t (Aa HM)) (by have:=Aa HKK;omega) (by decide) (Aa SS).fr.size ?_);intro Ag cg Xg Lg;replace SS:=Ab Lg;clear Lg;simp only[nn]))|((with_reducible show wpList _ _ _ (Oper.mk _ (Op.binOp _ _ _ _ _) _ _ _ _::_) _ _);(refine rd rfl (Eb true rfl rfl rfl H71) ?_))))
    go_roundg (ts.length - (i+1))
    case measure=>have:=Aa HLT;omega
    case rel=>exact⟨i+1,_,_,_,rfl,by go_num,by have:=Aa HLT;omega,by omega,Ab (by rw[Aa HT,List.length_append,Aa HK];rfl),Ab (by
      have S9:=Sy.left (L:= [_,_,_]) (M:= [_,_]) (Aa SS)
      rw[Aa HT,List.flatMap_append,List.flatMap_singleton]
      exact S9)⟩
   ·have H71:decide (t.W=71)=false:=decide_eq_false h71
    clear h71
    by_cases h72:t.W=72
    ·have H72:decide (t.W=72)=true:=decide_eq_true h72
     clear h72
     have HB:knB t=true:=by simp only[knB,H71,H72];rfl
     have HT:Hid ((ts.take (i+1)).filter knB=(ts.take i).filter knB++ [t]):=Ab (by have h:=Zaf hx;rw[HB,if_pos rfl] at h;exact h)
     clear HB
     go_wp2_with (first|go_skip|((with_reducible show wpList ..);first|((with_reducible show wpList _ _ _ (Oper.mk _ (Op.load _ _) _ _ _ _::_) _ _);(refine rd rfl (Ad 22 isAgg22 rfl rfl ((Aa SS).hold 0 rfl) rfl) ?_))|((with_reducible show wpList _ _ _ (Oper.mk _ (Op.call _) _ _ _ _::_) _ _);(refine rd rfl (Bm 22 56 underlying22 rfl rfl) ?_))|((with_reducible show wpList _ _ _ (Oper.mk _ (Op.indexAddr _ _ _) _ _ _ _::_) _ _);(refine rd rfl (Ax 22 59 i ZcK Zdk rfl rfl rfl (Aa HLT)) ?_))|((with_reducible show wpList _ _ _ (Oper.mk _ (Op.load _ _) _ _ _ _::_) _ _);(refine rd rfl (Bp (vs:=actC t) 56 59 rwT szT rfl rfl (Aa HA2 _ (Aa SS).fr.below) rfl) ?_))|((with_reducible show wpList _ _ _ (Oper.mk _ (Op.alloc _) _ _ _ _::_) _ _);((refine alS (v:= .agg (actC Ln).toArray) 56 (actC Ln) (by rfl) rfl (fun w=>by kernel_rfl) rfl (Nat.succ_pos _) (Aa SS) ?_);intro Xt Bt hEt Lt hbt;replace SS:=Ab Lt;clear Lt hbt hEt;simp only[nn]))|((with_reducible show wpList _ _ _ (Oper.mk _ (Op.store _ _ _) _ _ _ _::_) _ _);((refine stS (vs:=actC t) 3 56 (by rfl) rfl rfl rfl rfl (hone t (Aa HM)) szT (Aa SS) rfl (by show 0+59<=59;omega) ?_);intro Xs Ls hfs hss;rw[Mj] at Ls;replace SS:=Ab Ls;clear Ls hfs hss;simp only[nn]))|((with_reducible show wpList _ _ _ (Oper.mk _ (Op.load _ _) _ _ _ _::_) _ _);(refine rd rfl (Ad 3 isAgg3 rfl rfl ((Aa SS).hold 3 rfl) rfl) ?_))|((with_reducible show wpList _ _ _ (Oper.mk _ (Op.load _ _) _ _ _ _::_) _ _);(refine rd rfl (Af (vs:=actC t) 56 59 rwT szT rfl rfl ((Aa SS).hold 3 rfl) rfl rfl) ?_))|((with_reducible show wpList _ _ _ (Oper.mk _ (Op.buildSlice _ _ _) _ _ _ _::_) _ _);((refine bsS (cs:=actC t) (by rfl) rfl rfl underlying22 Mw (by decide) rfl rfl (by decide) (Aa SS) ?_);intro Xf Bf hEf Lf hbf;replace SS:=Ab Lf;clear Lf hbf hEf;simp only[nn]))|((with_reducible show wpList _ _ _ (Oper.mk _ (Op.call _) _ _ _ _::_) _ _);((refine apS 2 4 rfl rfl rfl rfl underlying22 Mw rfl (by decide) (Aa SS) rfl rfl rfl (hone t (Aa HM)) (by have:=Aa HKK;omega) (by decide) (Aa SS).fr.size ?_);intro Ag cg Xg Lg;replace SS:=Ab Lg;clear Lg;simp only[nn]))|((with_reducible show wpList _ _ _ (Oper.mk _ (Op.binOp _ _ _ _ _) _ _ _ _::_) _ _);(refine rd rfl (Eb false rfl rfl rfl H71) ?_))|((with_reducible show wpList _ _ _ (Oper.mk _ (Op.binOp _ _ _ _ _) _ _ _ _::_) _ _);(refine rd rfl (Eb true rfl rfl rfl H72) ?_))))
     go_roundg (ts.length - (i+1))
     case measure=>have:=Aa HLT;omega
     case rel=>exact⟨i+1,_,_,_,rfl,by go_num,by have:=Aa HLT;omega,by omega,Ab (by rw[Aa HT,List.length_append,Aa HK];rfl),Ab (by
       have S9:=Sy.left (L:= [_,_,_]) (M:= [_,_]) (Aa SS)
       rw[Aa HT,List.flatMap_append,List.flatMap_singleton]
       exact S9)⟩
    ·have H72:decide (t.W=72)=false:=decide_eq_false h72
     clear h72
     by_cases h91:t.W=91
     ·have H91:decide (t.W=91)=true:=decide_eq_true h91
      clear h91
      have HB:knB t=true:=by simp only[knB,H71,H72,H91];rfl
      have HT:Hid ((ts.take (i+1)).filter knB=(ts.take i).filter knB++ [t]):=Ab (by have h:=Zaf hx;rw[HB,if_pos rfl] at h;exact h)
      clear HB
      go_wp2_with (first|go_skip|((with_reducible show wpList ..);first|((with_reducible show wpList _ _ _ (Oper.mk _ (Op.load _ _) _ _ _ _::_) _ _);(refine rd rfl (Ad 22 isAgg22 rfl rfl ((Aa SS).hold 0 rfl) rfl) ?_))|((with_reducible show wpList _ _ _ (Oper.mk _ (Op.call _) _ _ _ _::_) _ _);(refine rd rfl (Bm 22 56 underlying22 rfl rfl) ?_))|((with_reducible show wpList _ _ _ (Oper.mk _ (Op.indexAddr _ _ _) _ _ _ _::_) _ _);(refine rd rfl (Ax 22 59 i ZcK Zdk rfl rfl rfl (Aa HLT)) ?_))|((with_reducible show wpList _ _ _ (Oper.mk _ (Op.load _ _) _ _ _ _::_) _ _);(refine rd rfl (Bp (vs:=actC t) 56 59 rwT szT rfl rfl (Aa HA2 _ (Aa SS).fr.below) rfl) ?_))|((with_reducible show wpList _ _ _ (Oper.mk _ (Op.alloc _) _ _ _ _::_) _ _);((refine alS (v:= .agg (actC Ln).toArray) 56 (actC Ln) (by rfl) rfl (fun w=>by kernel_rfl) rfl (Nat.succ_pos _) (Aa SS) ?_);intro Xt Bt hEt Lt hbt;replace SS:=Ab Lt;clear Lt hbt hEt;simp only[nn]))|((with_reducible show wpList _ _ _ (Oper.mk _ (Op.store _ _ _) _ _ _ _::_) _ _);((refine stS (vs:=actC t) 3 56 (by rfl) rfl rfl rfl rfl (hone t (Aa HM)) szT (Aa SS) rfl (by show 0+59<=59;omega) ?_);intro Xs Ls hfs hss;rw[Mj] at Ls;replace SS:=Ab Ls;clear Ls hfs hss;simp only[nn]))|((with_reducible show wpList _ _ _ (Oper.mk _ (Op.load _ _) _ _ _ _::_) _ _);(refine rd rfl (Ad 3 isAgg3 rfl rfl ((Aa SS).hold 3 rfl) rfl) ?_))|((with_reducible show wpList _ _ _ (Oper.mk _ (Op.load _ _) _ _ _ _::_) _ _);(refine rd rfl (Af (vs:=actC t) 56 59 rwT szT rfl rfl ((Aa SS).hold 3 rfl) rfl rfl) ?_))|((with_reducible show wpList _ _ _ (Oper.mk _ (Op.buildSlice _ _ _) _ _ _ _::_) _ _);((refine bsS (cs:=actC t) (by rfl) rfl rfl underlying22 Mw (by decide) rfl rfl (by decide) (Aa SS) ?_);intro Xf Bf hEf Lf hbf;replace SS:=Ab Lf;clear Lf hbf hEf;simp only[nn]))|((with_reducible show wpList _ _ _ (Oper.mk _ (Op.call _) _ _ _ _::_) _ _);((refine apS 2 4 rfl rfl rfl rfl underlying22 Mw rfl (by decide) (Aa SS) rfl rfl rfl (hone t (Aa HM)) (by have:=Aa HKK;omega) (by decide) (Aa SS).fr.size ?_);intro Ag cg Xg Lg;replace SS:=Ab Lg;clear Lg;simp only[nn]))|((with_reducible show wpList _ _ _ (Oper.mk _ (Op.binOp _ _ _ _ _) _ _ _ _::_) _ _);(refine rd rfl (Eb false rfl rfl rfl H71) ?_))|((with_reducible show wpList _ _ _ (Oper.mk _ (Op.binOp _ _ _ _ _) _ _ _ _::_) _ _);(refine rd rfl (Eb false rfl rfl rfl H72) ?_))|((with_reducible show wpList _ _ _ (Oper.mk _ (Op.binOp _ _ _ _ _) _ _ _ _::_) _ _);(refine rd rfl (Eb true rfl rfl rfl H91) ?_))))
      go_roundg (ts.length - (i+1))
      case measure=>have:=Aa HLT;omega
      case rel=>exact⟨i+1,_,_,_,rfl,by go_num,by have:=Aa HLT;omega,by omega,Ab (by rw[Aa HT,List.length_append,Aa HK];rfl),Ab (by
        have S9:=Sy.left (L:= [_,_,_]) (M:= [_,_]) (Aa SS)
        rw[Aa HT,List.flatMap_append,List.flatMap_singleton]
        exact S9)⟩
     ·have H91:decide (t.W=91)=false:=decide_eq_false h91
      clear h91
      by_cases h0:t.W=0
      ·have H0:decide (t.W=0)=true:=decide_eq_true h0
       clear h0
       by_cases hge:1<=t.M
       ·have Hge:decide (1<=t.M)=true:=decide_eq_true hge
        clear hge
        by_cases hle:t.M<=11
        ·have Hle:decide (t.M<=11)=true:=decide_eq_true hle
         clear hle
         have HB:knB t=true:=by simp only[knB,H71,H72,H91,H0,Hge,Hle];rfl
         have HT:Hid ((ts.take (i+1)).filter knB=(ts.take i).filter knB++ [t]):=Ab (by have h:=Zaf hx;rw[HB,if_pos rfl] at h;exact h)
         clear HB
         go_wp2_with (first|go_skip|((with_reducible show wpList ..);first|((with_reducible show wpList _ _ _ (Oper.mk _ (Op.load _ _) _ _ _ _::_) _ _);(refine rd rfl (Ad 22 isAgg22 rfl rfl ((Aa SS).hold 0 rfl) rfl) ?_))|((with_reducible show wpList _ _ _ (Oper.mk _ (Op.call _) _ _ _ _::_) _ _);(refine rd rfl (Bm 22 56 underlying22 rfl rfl) ?_))|((with_reducible show wpList _ _ _ (Oper.mk _ (Op.indexAddr _ _ _) _ _ _ _::_) _ _);(refine rd rfl (Ax 22 59 i ZcK Zdk rfl rfl rfl (Aa HLT)) ?_))|((with_reducible show wpList _ _ _ (Oper.mk _ (Op.load _ _) _ _ _ _::_) _ _);(refine rd rfl (Bp (vs:=actC t) 56 59 rwT szT rfl rfl (Aa HA2 _ (Aa SS).fr.below) rfl) ?_))|((with_reducible show wpList _ _ _ (Oper.mk _ (Op.alloc _) _ _ _ _::_) _ _);((refine alS (v:= .agg (actC Ln).toArray) 56 (actC Ln) (by rfl) rfl (fun w=>by kernel_rfl) rfl (Nat.succ_pos _) (Aa SS) ?_);intro Xt Bt hEt Lt hbt;replace SS:=Ab Lt;clear Lt hbt hEt;simp only[nn]))|((with_reducible show wpList _ _ _ (Oper.mk _ (Op.store _ _ _) _ _ _ _::_) _ _);((refine stS (vs:=actC t) 3 56 (by rfl) rfl rfl rfl rfl (hone t (Aa HM)) szT (Aa SS) rfl (by show 0+59<=59;omega) ?_);intro Xs Ls hfs hss;rw[Mj] at Ls;replace SS:=Ab Ls;clear Ls hfs hss;simp only[nn]))|((with_reducible show wpList _ _ _ (Oper.mk _ (Op.load _ _) _ _ _ _::_) _ _);(refine rd rfl (Ad 3 isAgg3 rfl rfl ((Aa SS).hold 3 rfl) rfl) ?_))|((with_reducible show wpList _ _ _ (Oper.mk _ (Op.load _ _) _ _ _ _::_) _ _);(refine rd rfl (Af (vs:=actC t) 56 59 rwT szT rfl rfl ((Aa SS).hold 3 rfl) rfl rfl) ?_))|((with_reducible show wpList _ _ _ (Oper.mk _ (Op.buildSlice _ _ _) _ _ _ _::_) _ _);((refine bsS (cs:=actC t) (by rfl) rfl rfl underlying22 Mw (by decide) rfl rfl (by decide) (Aa SS) ?_);intro Xf Bf hEf Lf hbf;replace SS:=Ab Lf;clear Lf hbf hEf;simp only[nn]))|((with_reducible show wpList _ _ _ (Oper.mk _ (Op.call _) _ _ _ _::_) _ _);((refine apS 2 4 rfl rfl rfl rfl underlying22 Mw rfl (by decide) (Aa SS) rfl rfl rfl (hone t (Aa HM)) (by have:=Aa HKK;omega) (by decide) (Aa SS).fr.size ?_);intro Ag cg Xg Lg;replace SS:=Ab Lg;clear Lg;simp only[nn]))|((with_reducible show wpList _ _ _ (Oper.mk _ (Op.binOp _ _ _ _ _) _ _ _ _::_) _ _);(refine rd rfl (Eb false rfl rfl rfl H71) ?_))|((with_reducible show wpList _ _ _ (Oper.mk _ (Op.binOp _ _ _ _ _) _ _ _ _::_) _ _);(refine rd rfl (Eb false rfl rfl rfl H72) ?_))|((with_reducible show wpList _ _ _ (Oper.mk _ (Op.binOp _ _ _ _ _) _ _ _ _::_) _ _);(refine rd rfl (Eb false rfl rfl rfl H91) ?_))|((with_reducible show wpList _ _ _ (Oper.mk _ (Op.binOp _ _ _ _ _) _ _ _ _::_) _ _);(refine rd rfl (Eb true rfl rfl rfl H0) ?_))|((with_reducible show wpList _ _ _ (Oper.mk _ (Op.binOp _ _ _ _ _) _ _ _ _::_) _ _);(refine rd rfl (ZaO true rfl rfl rfl Hge) ?_))|((with_reducible show wpList _ _ _ (Oper.mk _ (Op.binOp _ _ _ _ _) _ _ _ _::_) _ _);(refine rd rfl (ex_leq true rfl rfl rfl Hle) ?_))))
         go_roundg (ts.length - (i+1))
         case measure=>have:=Aa HLT;omega
         case rel=>exact⟨i+1,_,_,_,rfl,by go_num,by have:=Aa HLT;omega,by omega,Ab (by rw[Aa HT,List.length_append,Aa HK];rfl),Ab (by
           have S9:=Sy.left (L:= [_,_,_]) (M:= [_,_]) (Aa SS)
           rw[Aa HT,List.flatMap_append,List.flatMap_singleton]
           exact S9)⟩
        ·have Hle:decide (t.M<=11)=false:=decide_eq_false hle
         clear hle
         have HB:knB t=false:=by simp only[knB,H71,H72,H91,H0,Hge,Hle];rfl
         have HT:Hid ((ts.take (i+1)).filter knB=(ts.take i).filter knB):=Ab (by have h:=Zaf hx;rw[HB] at h;simpa using h)
         clear HB
         go_wp2_with (first|go_skip|((with_reducible show wpList ..);first|((with_reducible show wpList _ _ _ (Oper.mk _ (Op.load _ _) _ _ _ _::_) _ _);(refine rd rfl (Ad 22 isAgg22 rfl rfl ((Aa SS).hold 0 rfl) rfl) ?_))|((with_reducible show wpList _ _ _ (Oper.mk _ (Op.call _) _ _ _ _::_) _ _);(refine rd rfl (Bm 22 56 underlying22 rfl rfl) ?_))|((with_reducible show wpList _ _ _ (Oper.mk _ (Op.indexAddr _ _ _) _ _ _ _::_) _ _);(refine rd rfl (Ax 22 59 i ZcK Zdk rfl rfl rfl (Aa HLT)) ?_))|((with_reducible show wpList _ _ _ (Oper.mk _ (Op.load _ _) _ _ _ _::_) _ _);(refine rd rfl (Bp (vs:=actC t) 56 59 rwT szT rfl rfl (Aa HA2 _ (Aa SS).fr.below) rfl) ?_))|((with_reducible show wpList _ _ _ (Oper.mk _ (Op.alloc _) _ _ _ _::_) _ _);((refine alS (v:= .agg (actC Ln).toArray) 56 (actC Ln) (by rfl) rfl (fun w=>by kernel_rfl) rfl (Nat.succ_pos _) (Aa SS) ?_);intro Xt Bt hEt Lt hbt;replace SS:=Ab Lt;clear Lt hbt hEt;simp only[nn]))|((with_reducible show wpList _ _ _ (Oper.mk _ (Op.store _ _ _) _ _ _ _::_) _ _);((refine stS (vs:=actC t) 3 56 (by rfl) rfl rfl rfl rfl (hone t (Aa HM)) szT (Aa SS) rfl (by show 0+59<=59;omega) ?_);intro Xs Ls hfs hss;rw[Mj] at Ls;replace SS:=Ab Ls;clear Ls hfs hss;simp only[nn]))|((with_reducible show wpList _ _ _ (Oper.mk _ (Op.load _ _) _ _ _ _::_) _ _);(refine rd rfl (Ad 3 isAgg3 rfl rfl ((Aa SS).hold 3 rfl) rfl) ?_))|((with_reducible show wpList _ _ _ (Oper.mk _ (Op.binOp _ _ _ _ _) _ _ _ _::_) _ _);(refine rd rfl (Eb false rfl rfl rfl H71) ?_))|((with_reducible show wpList _ _ _ (Oper.mk _ (Op.binOp _ _ _ _ _) _ _ _ _::_) _ _);(refine rd rfl (Eb false rfl rfl rfl H72) ?_))|((with_reducible show wpList _ _ _ (Oper.mk _ (Op.binOp _ _ _ _ _) _ _ _ _::_) _ _);(refine rd rfl (Eb false rfl rfl rfl H91) ?_))|((with_reducible show wpList _ _ _ (Oper.mk _ (Op.binOp _ _ _ _ _) _ _ _ _::_) _ _);(refine rd rfl (Eb true rfl rfl rfl H0) ?_))|((with_reducible show wpList _ _ _ (Oper.mk _ (Op.binOp _ _ _ _ _) _ _ _ _::_) _ _);(refine rd rfl (ZaO true rfl rfl rfl Hge) ?_))|((with_reducible show wpList _ _ _ (Oper.mk _ (Op.binOp _ _ _ _ _) _ _ _ _::_) _ _);(refine rd rfl (ex_leq false rfl rfl rfl Hle) ?_))))
         go_roundg (ts.length - (i+1))
         case measure=>have:=Aa HLT;omega
         case rel=>exact⟨i+1,_,_,_,rfl,by go_num,by have:=Aa HLT;omega,by omega,Ab (by rw[Aa HT,Aa HK]),Ab (by
           have S9:=Sy.left (L:= [_,_,_]) (M:= [_]) (Aa SS)
           rw[Aa HT]
           exact S9)⟩
       ·have Hge:decide (1<=t.M)=false:=decide_eq_false hge
        clear hge
        have HB:knB t=false:=by simp only[knB,H71,H72,H91,H0,Hge];rfl
        have HT:Hid ((ts.take (i+1)).filter knB=(ts.take i).filter knB):=Ab (by have h:=Zaf hx;rw[HB] at h;simpa using h)
        clear HB
        go_wp2_with (first|go_skip|((with_reducible show wpList ..);first|((with_reducible show wpList _ _ _ (Oper.mk _ (Op.load _ _) _ _ _ _::_) _ _);(refine rd rfl (Ad 22 isAgg22 rfl rfl ((Aa SS).hold 0 rfl) rfl) ?_))|((with_reducible show wpList _ _ _ (Oper.mk _ (Op.call _) _ _ _ _::_) _ _);(refine rd rfl (Bm 22 56 underlying22 rfl rfl) ?_))|((with_reducible show wpList _ _ _ (Oper.mk _ (Op.indexAddr _ _ _) _ _ _ _::_) _ _);(refine rd rfl (Ax 22 59 i ZcK Zdk rfl rfl rfl (Aa HLT)) ?_))|((with_reducible show wpList _ _ _ (Oper.mk _ (Op.load _ _) _ _ _ _::_) _ _);(refine rd rfl (Bp (vs:=actC t) 56 59 rwT szT rfl rfl (Aa HA2 _ (Aa SS).fr.below) rfl) ?_))|((with_reducible show wpList _ _ _ (Oper.mk _ (Op.alloc _) _ _ _ _::_) _ _);((refine alS (v:= .agg (actC Ln).toArray) 56 (actC Ln) (by rfl) rfl (fun w=>by kernel_rfl) rfl (Nat.succ_pos _) (Aa SS) ?_);intro Xt Bt hEt Lt hbt;replace SS:=Ab Lt;clear Lt hbt hEt;simp only[nn]))|((with_reducible show wpList _ _ _ (Oper.mk _ (Op.store _ _ _) _ _ _ _::_) _ _);((refine stS (vs:=actC t) 3 56 (by rfl) rfl rfl rfl rfl (hone t (Aa HM)) szT (Aa SS) rfl (by show 0+59<=59;omega) ?_);intro Xs Ls hfs hss;rw[Mj] at Ls;replace SS:=Ab Ls;clear Ls hfs hss;simp only[nn]))|((with_reducible show wpList _ _ _ (Oper.mk _ (Op.load _ _) _ _ _ _::_) _ _);(refine rd rfl (Ad 3 isAgg3 rfl rfl ((Aa SS).hold 3 rfl) rfl) ?_))|((with_reducible show wpList _ _ _ (Oper.mk _ (Op.binOp _ _ _ _ _) _ _ _ _::_) _ _);(refine rd rfl (Eb false rfl rfl rfl H71) ?_))|((with_reducible show wpList _ _ _ (Oper.mk _ (Op.binOp _ _ _ _ _) _ _ _ _::_) _ _);(refine rd rfl (Eb false rfl rfl rfl H72) ?_))|((with_reducible show wpList _ _ _ (Oper.mk _ (Op.binOp _ _ _ _ _) _ _ _ _::_) _ _);(refine rd rfl (Eb false rfl rfl rfl H91) ?_))|((with_reducible show wpList _ _ _ (Oper.mk _ (Op.binOp _ _ _ _ _) _ _ _ _::_) _ _);(refine rd rfl (Eb true rfl rfl rfl H0) ?_))|((with_reducible show wpList _ _ _ (Oper.mk _ (Op.binOp _ _ _ _ _) _ _ _ _::_) _ _);(refine rd rfl (ZaO false rfl rfl rfl Hge) ?_))))
        go_roundg (ts.length - (i+1))
        case measure=>have:=Aa HLT;omega
        case rel=>exact⟨i+1,_,_,_,rfl,by go_num,by have:=Aa HLT;omega,by omega,Ab (by rw[Aa HT,Aa HK]),Ab (by
          have S9:=Sy.left (L:= [_,_,_]) (M:= [_]) (Aa SS)
          rw[Aa HT]
          exact S9)⟩
      ·have H0:decide (t.W=0)=false:=decide_eq_false h0
       clear h0
       have HB:knB t=false:=by simp only[knB,H71,H72,H91,H0];rfl
       have HT:Hid ((ts.take (i+1)).filter knB=(ts.take i).filter knB):=Ab (by have h:=Zaf hx;rw[HB] at h;simpa using h)
       clear HB
       go_wp2_with (first|go_skip|((with_reducible show wpList ..);first|((with_reducible show wpList _ _ _ (Oper.mk _ (Op.load _ _) _ _ _ _::_) _ _);(refine rd rfl (Ad 22 isAgg22 rfl rfl ((Aa SS).hold 0 rfl) rfl) ?_))|((with_reducible show wpList _ _ _ (Oper.mk _ (Op.call _) _ _ _ _::_) _ _);(refine rd rfl (Bm 22 56 underlying22 rfl rfl) ?_))|((with_reducible show wpList _ _ _ (Oper.mk _ (Op.indexAddr _ _ _) _ _ _ _::_) _ _);(refine rd rfl (Ax 22 59 i ZcK Zdk rfl rfl rfl (Aa HLT)) ?_))|((with_reducible show wpList _ _ _ (Oper.mk _ (Op.load _ _) _ _ _ _::_) _ _);(refine rd rfl (Bp (vs:=actC t) 56 59 rwT szT rfl rfl (Aa HA2 _ (Aa SS).fr.below) rfl) ?_))|((with_reducible show wpList _ _ _ (Oper.mk _ (Op.alloc _) _ _ _ _::_) _ _);((refine alS (v:= .agg (actC Ln).toArray) 56 (actC Ln) (by rfl) rfl (fun w=>by kernel_rfl) rfl (Nat.succ_pos _) (Aa SS) ?_);intro Xt Bt hEt Lt hbt;replace SS:=Ab Lt;clear Lt hbt hEt;simp only[nn]))|((with_reducible show wpList _ _ _ (Oper.mk _ (Op.store _ _ _) _ _ _ _::_) _ _);((refine stS (vs:=actC t) 3 56 (by rfl) rfl rfl rfl rfl (hone t (Aa HM)) szT (Aa SS) rfl (by show 0+59<=59;omega) ?_);intro Xs Ls hfs hss;rw[Mj] at Ls;replace SS:=Ab Ls;clear Ls hfs hss;simp only[nn]))|((with_reducible show wpList _ _ _ (Oper.mk _ (Op.load _ _) _ _ _ _::_) _ _);(refine rd rfl (Ad 3 isAgg3 rfl rfl ((Aa SS).hold 3 rfl) rfl) ?_))|((with_reducible show wpList _ _ _ (Oper.mk _ (Op.binOp _ _ _ _ _) _ _ _ _::_) _ _);(refine rd rfl (Eb false rfl rfl rfl H71) ?_))|((with_reducible show wpList _ _ _ (Oper.mk _ (Op.binOp _ _ _ _ _) _ _ _ _::_) _ _);(refine rd rfl (Eb false rfl rfl rfl H72) ?_))|((with_reducible show wpList _ _ _ (Oper.mk _ (Op.binOp _ _ _ _ _) _ _ _ _::_) _ _);(refine rd rfl (Eb false rfl rfl rfl H91) ?_))|((with_reducible show wpList _ _ _ (Oper.mk _ (Op.binOp _ _ _ _ _) _ _ _ _::_) _ _);(refine rd rfl (Eb false rfl rfl rfl H0) ?_))))
       go_roundg (ts.length - (i+1))
       case measure=>have:=Aa HLT;omega
       case rel=>exact⟨i+1,_,_,_,rfl,by go_num,by have:=Aa HLT;omega,by omega,Ab (by rw[Aa HT,Aa HK]),Ab (by
         have S9:=Sy.left (L:= [_,_,_]) (M:= [_]) (Aa SS)
         rw[Aa HT]
         exact S9)⟩
  ·obtain rfl:i=ts.length:=by omega
   have e9:ts.take ts.length=ts:=List.take_length
   rw[e9] at SS HK
   go_wp2_with (first|go_skip|((with_reducible show wpList ..);first|((with_reducible show wpList _ _ _ (Oper.mk _ (Op.load _ _) _ _ _ _::_) _ _);(refine rd rfl (Ad 22 isAgg22 rfl rfl ((Aa SS).hold 0 rfl) rfl) ?_))|((with_reducible show wpList _ _ _ (Oper.mk _ (Op.call _) _ _ _ _::_) _ _);(refine rd rfl (Bm 22 56 underlying22 rfl rfl) ?_))|((with_reducible show wpList _ _ _ (Oper.mk _ (Op.store _ _ _) _ _ _ _::_) _ _);((refine stS (vs:= [.slice A1 k c1]) 0 22 (by rfl) rfl rfl rfl rfl (by simp[Value.oneCell']) (by kernel_rfl) (Aa SS) rfl (by show 3+1<=4;omega) ?_);intro Xs Ls hfs hss;replace SS:=Ab Ls;clear Ls hfs hss;simp only[nn]))|((with_reducible show wpList _ _ _ (Oper.mk _ (Op.load _ _) _ _ _ _::_) _ _);(refine rd rfl (Af (vs:=Lp c f d (.slice A1 k c1)) 24 4 rwW szW rfl rfl ((Aa SS).hold 0 rfl) rfl rfl) ?_))|((with_reducible show wpList _ _ _ (Oper.mk _ (Op.store _ _ _) _ _ _ _::_) _ _);((refine stS (vs:=Lp c f d (.slice A1 k c1)) 1 24 (by rfl) rfl rfl rfl rfl (by simp[Lp,Value.oneCell']) szW (Aa SS) rfl (by show 0+4<=4;omega) ?_);intro Xs Ls hfs hss;replace SS:=Ab Ls;clear Ls hfs hss;simp only[nn]))))
   refine Kz rwW szW rfl rfl rfl ((Aa SS).hold 1 rfl) rfl ?_
   have HK2:=Aa HK
   subst HK2
   exact⟨A1,c1,rfl,(Aa SS).get 2 rfl,(Aa SS).fr.below⟩
end
section
open Go Go.Proofs Go.Maps Go.RowKit FM
attribute [local go_sem] Am Al Ar Ah Ao Ai Au Dg Df Bh Ak Az
theorem Sy.beside {w X Y:World} {E:List Nat} {L M:List Ob} (S:Sy w X E L) (T:Sy X Y [] M):Sy w Y E (L++M):=by
 have S2:=S.on T.fr.below
 refine⟨S2.fr,fun o ho=> ?_,fun o ho=> ?_,fun o ho b hb=> ?_, ?_⟩
 ·rcases List.mem_append.1 ho with h1|h1
  ·exact S2.ok o h1
  ·exact T.ok o h1
 ·rcases List.mem_append.1 ho with h1|h1
  ·exact S2.ho o h1
  ·exact T.ho o h1
 ·rcases List.mem_append.1 ho with h1|h1
  ·exact S2.lo o h1 b hb
  ·rcases T.lo o h1 b hb with h2|h2
   ·cases h2
   ·exact .inr (Nat.le_trans S.fr.size h2)
 ·rw[List.pairwise_append]
  refine⟨S2.dis,T.dis,fun a ha b hb x hx hxb=> ?_⟩
  have h1:=(S.ok a ha).lt (S.ho a ha) x hx
  rcases T.lo b hb x hxb with h2|h2
  ·cases h2
  ·omega
theorem new_gd {B:Nat} {c f d:Int} (h:Ng c f d=false) (hf:f<=9223372036854775807):(Gn B c f d).Gd 0:=by
 simp only[Ng,Bool.or_eq_false_iff,decide_eq_false_iff_not] at h
 obtain⟨h1,h2,h3,h4,h5⟩:=h
 exact⟨⟨⟨Nat.zero_le _,by show 0<=f;omega,hf,Int.le_refl _,by show 0<=d;omega,by show d<=_;omega⟩,fun j q hj=>(by cases hj)⟩,⟨fun _=>0,fun j i q hj=>(by cases hj)⟩,fun j q hj=>(by cases hj),by show c<=65536;omega,by show ((0:Nat):Int)<=c;omega⟩
theorem new_sy {w X Y:World} {L:List Ob} {B:Nat} {c f d:Int} (S:Sy w X [] L) (h:(Gn B c f d).Is Y) (hB:X.heap.size<=B) (k:Below X.heap.size X Y):Sy w Y [] (L++ [hpO (Gn B c f d)]):=S.add (Zei _) h k (fun b hb=>by
 have e:b∈(Gn B c f d).blocks:=hb
 rw[Zea,List.mem_singleton] at e
 omega)
theorem ZeO {h:HP} {N:Nat} {X:World} (H:h.Is X) (G:h.Gd N) (hN:N<=90000):h.abs.length<=1000000/\ ∀s∈h.abs,s.ps.length<=1000000/\s.p.x<2^64/\ ∀e∈s.ps,FD e.2:=by
 refine⟨?_,fun s hs=> ?_⟩
 ·have:=G.wf.ok.len
  unfold HP.abs
  rw[List.length_map]
  omega
 ·obtain⟨q,hq,rfl⟩:=List.mem_map.1 hs
  obtain⟨j,hj,rfl⟩:=List.getElem_of_mem hq
  have hj2:=List.getElem?_eq_getElem hj
  have h1:=G.few j _ hj2
  have h2:=Yd (H.ob hj2).2.1
  have h3:=G.wf.ob j _ hj2
  refine⟨?_,h3.px,fun e he=>(h3.ps e he).1⟩
  show (pr _).length<=_
  rw[Zd1]
  omega
end
section
open Go Go.Proofs Go.Maps Go.RowKit FM Tryz
structure MO where
 A:Option Addr
 n:Nat
 c:Nat
 l:List PO
 vs:List Value
def MO.v (m:MO):Value:= .slice m.A m.n m.c
def MO.row (m:MO):Ob:=Du 0 85 8 m.v m.n (Oz m.l m.vs)
def MO.pso (m:MO):Ob:=psO 0 m.l m.vs
def Uz (ms:List MO):Ob:=⟨ms.flatMap (fun m=>m.row.bs++m.pso.bs),fun X=> ∀m∈ms,m.row.P X/\m.pso.P X⟩
theorem Zff (ms:List MO):(Uz ms).Ok:=by
 refine⟨fun h k m hm=>⟨?_, ?_⟩,fun k b hb=> ?_⟩
 ·exact(Mr _ _ _ _ _ _).on (fun b hb=>h b (List.mem_flatMap.2 ⟨m,hm,List.mem_append_left _ hb⟩)) (k m hm).1
 ·exact(Zb4 _ _ _).on (fun b hb=>h b (List.mem_flatMap.2 ⟨m,hm,List.mem_append_right _ hb⟩)) (k m hm).2
 ·obtain⟨m,hm,hb⟩:=List.mem_flatMap.1 hb
  rcases List.mem_append.1 hb with h1|h1
  ·exact(Mr _ _ _ _ _ _).lt (k m hm).1 b h1
  ·exact(Zb4 _ _ _).lt (k m hm).2 b h1
theorem psO_mono {base:Nat} {l:List PO} {vs:List Value} {X:World} (h:(psO base l vs).P X):(psO 0 l vs).P X:=⟨h.1,fun j s v h1 h2=>No (h.2 j s v h1 h2) (Nat.zero_le _)⟩
theorem Zfe {w X:World} {E:List Nat} {L M:List Ob} {base:Nat} {A:Option Addr} {n c:Nat} {l:List PO} {vs:List Value} (S:Sy w X E (L++Du base 85 8 (.slice A n c) n (Oz l vs)::psO base l vs::M)):Sy w X E (L++ [Uz [⟨A,n,c,l,vs⟩]]):=by
 have h1:(Du base 85 8 (.slice A n c) n (Oz l vs)).P X:=S.ho _ (List.mem_append_right _ (List.mem_cons_self ..))
 have h2:(psO base l vs).P X:=S.ho _ (List.mem_append_right _ (List.mem_cons_of_mem _ (List.mem_cons_self ..)))
 refine S.join (Zff _) (fun m hm=> ?_) (fun x hx=> ?_)
 ·rw[List.mem_singleton.1 hm]
  exact⟨No h1 (Nat.zero_le _),psO_mono h2⟩
 ·obtain⟨m,hm,hx⟩:=List.mem_flatMap.1 hx
  rw[List.mem_singleton.1 hm] at hx
  exact List.mem_append.1 hx
theorem mom_snoc {w X:World} {E:List Nat} {L M:List Ob} {ms:List MO} {m:MO} (S:Sy w X E (L++Uz ms::Uz [m]::M)):Sy w X E (L++ [Uz (ms++ [m])]):=by
 have h1:(Uz ms).P X:=S.ho _ (List.mem_append_right _ (List.mem_cons_self ..))
 have h2:(Uz [m]).P X:=S.ho _ (List.mem_append_right _ (List.mem_cons_of_mem _ (List.mem_cons_self ..)))
 refine S.join (Zff _) (fun q hq=> ?_) (fun x hx=> ?_)
 ·rcases List.mem_append.1 hq with h3|h3
  ·exact h1 q h3
  ·exact h2 q h3
 ·obtain⟨q,hq,hx⟩:=List.mem_flatMap.1 hx
  rcases List.mem_append.1 hq with h3|h3
  ·exact .inl (List.mem_flatMap.2 ⟨q,h3,hx⟩)
  ·exact .inr (List.mem_flatMap.2 ⟨q,h3,hx⟩)
structure MO.Ok (h:HP) (m:MO):Prop where
 n:m.l.length=m.n
 z:m.l.length<=1000000
 ok: ∀s∈m.l,ShOk s
 lt:LtH m.l h.abs
theorem Yb {X:World} {ms:List MO} {h:HP} {m:MO} (S:(Uz ms).P X) (hm:m∈ms) (K:m.Ok h):Yx X m.A m.l:=ZcV (vs:=m.vs) (c:=m.c) K.n (S m hm).1 (S m hm).2
theorem ZeZ {h:HP} {N:Nat} {X:World} (H:h.Is X) (G:h.Gd N) (hN:N<=90000) (W:WhH h): ∀s∈h.abs,ShOk s:=fun s hs=>by
 obtain⟨h1,h2,h3⟩:=(ZeO H G hN).2 s hs
 exact⟨⟨_,(W s hs).2⟩,h3,h2,h1⟩
theorem infL1:(prog.info? 61).map (fun i=>(i.zero,i.size,i.bytes))=some (some (.slice none 0 0),1,24):=by kernel_rfl
theorem unL1:prog.underlying 35=some (.slice (prog.elem 35)):=by kernel_rfl
theorem idL1 (w:World):(sizeOf (prog.elem 35)).run prog w= .ok 1 w:=by kernel_rfl
section
variable {ops : Array Oper} {rest : List Oper} {Q : Exit → Act → World → Prop} {w w0 : World} {a : Act} {o : Oper} {E : List Nat} {L : List Ob}
theorem bsRow {t e:TypeId} {size bytes:Nat} {z v:Value} {cs:List Value} {x:Operand} (base:Nat) (hw:Region.wanted o (yielded ops a.tmps)=true) (ho:o.op= .buildSlice t 1 #[(0,x)]) (hx:a.eval x=v)
  (ht:prog.underlying t=some (.slice e)) (hi:(prog.info? e).map (fun i=>(i.zero,i.size,i.bytes))=some (some z,size,bytes)) (hs1:size<=100) (hv:v.cells.toList=cs) (hc:cs.length=size) (h0:0<size) (hL:Sy w0 w E L) (hb:base<=w.heap.size)
  (h: ∀X B,Sy w0 X E (L++ [Du base e size (.slice (some ⟨B,0,none⟩) 1 1) 1 cs])->wpList prog ops Q rest (a.put o.dst (.slice (some ⟨B,0,none⟩) 1 1)) X):wpList prog ops Q (o::rest) a w:=by
 refine BigFrame.wpList_want hw fun K hK=> ?_
 have hown:(w.alloc (Obj.cells cs.toArray e)).ownsRow w.heap.size e size (.slice (some ⟨w.heap.size,0,none⟩) 1 1) 1 cs:=⟨by rw[hc,Nat.one_mul], .inr ⟨w.heap.size,1,cs.toArray,rfl,Nat.le_refl _,(MapKept.heap_alloc w _).1,Nat.le_refl _,(by decide),by simp[hc],by rw[Nat.one_mul];exact List.take_of_length_le (by simp[hc])⟩⟩
 have hP:=hK _ _ (h (w.alloc (Obj.cells cs.toArray e)) w.heap.size (Sy.addRow hL hown ((Below.refl _ _).alloc (Nat.le_refl _) _) hb))
 unfold Oper.wp
 rw[Qs ho hx ht hi hs1 hv hc h0]
 exact hP
end
