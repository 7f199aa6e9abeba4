import Derived.Test.YtfnohipnenkhoaaGreatDoorRr
set_option linter.all false
namespace Go.Proofs.YtfnohipnenkhoaaGreatDoor
set_option maxRecDepth 100000
set_option maxHeartbeats 0
section
open Go Go.Proofs Go.Maps Go.RowKit FM Tryz
attribute [local go_sem] Am Al Ar Ah Ao Ai Aw Do Dn Bq Aj Bo
structure AT where
 W:Int
 M:Int
 o:Int
 T:Int
 k:KK
 v:VV
 r:VV
 d:DD
 A:Option Addr
 c:Nat
 l:List VV
 p:VV
 n:Int
 DA:Option Addr
 Dc:Nat
 ds:List (KK×DD)
 x1:Value
 x2:Value
 x3:Value
 x4:Value
 x5:Value
 y1:Value
 y2:Value
 y3:Value
 y4:Value
 y5:Value
 y6:Value
 y7:Value
 y8:Value
 y9:Value
 y10:Value
 y11:Value
 y12:Value
def actC (t:AT):List Value:= [.int .i64 t.W]++Je t.M t.o t.T t.k t.v t.r t.d (.slice t.A t.l.length t.c)++t.p.cs++ [.int .i64 t.n,t.x1,t.x2,t.x3,t.x4,t.x5, .slice t.DA t.ds.length t.Dc,t.y1,t.y2,t.y3,t.y4,t.y5,t.y6,t.y7,t.y8,t.y9,t.y10,t.y11,t.y12]
structure AT.Ok (t:AT):Prop where
 k:OkK t.k
 vx:t.v.x<2^64
 rx:t.r.x<2^64
 fd:FD t.d
 lz:t.l.length<=1000000
 lx: ∀v∈t.l,v.x<2^64
 la:t.A=none->t.l.length=0/\t.c=0
 px:t.p.x<2^64
 n1:t.n<=9223372036854775807
 da:t.DA=none->t.ds.length=0/\t.Dc=0
 df: ∀e∈t.ds,FD e.2
 dk: ∀e∈t.ds,OkK e.1
 one: ∀u∈actC t,u.oneCell'=true
def AT.Reads (t:AT) (X:World):Prop:=Gv X t.A t.l/\ReadsP X t.DA t.ds
def ZdS (h:HP) (N:Nat) (t:AT) (w:World) (e:Ending) (w':World):Prop:= ∃(h1:HP) (n:AN),e= .returned (.agg (Bl n).toArray)/\h1.Gd (max N t.ds.length+1)/\h.To h1 w w'/\(h1.cap=h.cap/\h1.depth=h.depth/\h1.ent=h.ent)/\(t.W=0-> ∃er,n.f=Bx er/\AskP h N h1 er/\(t.M=9->SetQ h t.r t.k t.v h1 n.y))
theorem Eo {o:Oper} {a:Act} {w:World} {x y:Operand} {n m:Int} (b:Bool) (ho:o.op= .binOp .eql 3 x y 3) (hx:a.eval x= .int .i64 n) (hc:a.eval y= .int .i64 m) (h:decide (n=m)=b):(execOp a.eval o).run prog w= .ok (.value (.bool b)) w:=by
 unfold execOp
 simp only[ho,hx,hc]
 subst h
 simp[go_sem,eqGuard]
 rfl
theorem fill_gd {h:HP} {N:Nat} (G:h.Gd N) {n:Int} (h0:0<=n) (h1:n<=9223372036854775807):(h.fill n).Gd N:=⟨⟨⟨G.wf.ok.len,h0,h1,G.wf.ok.e0,G.wf.ok.e1,G.wf.ok.d1⟩,G.wf.ob⟩,G.ac,G.few,G.cap,G.room⟩
theorem ask_h (h:HP) (M o T:Int) (k:KK) (v r:VV) (d:DD) (A:Option Addr) (c:Nat) (l:List VV) (N:Nat) (w:World) (h1:1<=M) (h11:M<=11) (H:h.Is w) (G:h.Gd N) (hN:N<=90000) (hT:Tabs w) (hk:OkK k) (hvx:v.x<2^64) (hFd:FD d) (hz:l.length<=1000000) (hlx: ∀v∈l,v.x<2^64) (hA:A=none->l.length=0/\c=0) (hR: ∀X,Fr w X h.blocks->Gv X A l):Calls prog 41 #[.pointer (some ⟨h.b,0,none⟩), .agg (Je M o T k v r d (.slice A l.length c)).toArray] w (Yz h N M k v r w):=by
 have:M=1∨M=2∨M=3∨M=4∨M=5∨M=6∨M=7∨M=8∨M=9∨M=10∨M=11:=by omega
 rcases this with rfl|rfl|rfl|rfl|rfl|rfl|rfl|rfl|rfl|rfl|rfl
 ·exact ask_1 h o T k v r d A c l N w H G hN hT hk hvx hFd hz hlx hA hR
 ·exact ask_2 h o T k v r d A c l N w H G hN hT hk hvx hFd hz hlx hA hR
 ·exact ask_3 h o T k v r d A c l N w H G hN hT hk hvx hFd hz hlx hA hR
 ·exact ask_4 h o T k v r d A c l N w H G hN hT hk hvx hFd hz hlx hA hR
 ·exact ask_5 h o T k v r d A c l N w H G hN hT hk hvx hFd hz hlx hA hR
 ·exact ask_6 h o T k v r d A c l N w H G hN hT hk hvx hFd hz hlx hA hR
 ·exact ask_7 h o T k v r d A c l N w H G hN hT hk hvx hFd hz hlx hA hR
 ·exact ask_8 h o T k v r d A c l N w H G hN hT hk hvx hFd hz hlx hA hR
 ·exact ask_9 h o T k v r d A c l N w H G hN hT hk hvx hFd hz hlx hA hR
 ·exact ask_10 h o T k v r d A c l N w H G hN hT hk hvx hFd hz hlx hA hR
 ·exact ask_11 h o T k v r d A c l N w H G hN hT hk hvx hFd hz hlx hA hR
theorem act7_71 (h:HP) (N:Nat) (t:AT) (w:World) (H:h.Is w) (G:h.Gd N) (hN:N<=90000) (hT:Tabs w) (K:t.Ok) (hW:t.W=71) (hR: ∀X,Fr w X h.blocks->t.Reads X):Calls prog 23 #[.pointer (some ⟨h.b,0,none⟩), .agg (actC t).toArray] w (ZdS h N t w):=by
 have SS:=Ab H.start
 have H71:decide (t.W=71)=true:=by rw[hW];rfl
 have H72:decide (t.W=72)=false:=by rw[hW];rfl
 have H0:decide (t.W=0)=false:=by rw[hW];rfl
 have HW:=Ab hW
 clear hW
 go_enter func23,ntmps23
 go_wp2_with (first|go_skip|((with_reducible show wpList ..);first|(refine zB 59 (actC t) (by rfl) rfl rfl rfl SS ?_;clear SS;intro Xa Ba SS;simp only[nn])|(refine zA 45 (Bl Ay) (by rfl) rfl SS ?_;clear SS;intro Xb Bb SS;simp only[nn])|(refine zA 45 (Bl Ay) (by rfl) rfl SS ?_;clear SS;intro Xc Bc SS;simp only[nn])|(refine z1 3 isAgg3 1 (by rfl) rfl rfl SS rfl rfl ?_;simp only[nn])|(refine zL (t.p.cs) 36 5 1 rwV szV (by rfl) rfl rfl SS rfl rfl rfl ?_;simp only[nn])|(refine zL (Je t.M t.o t.T t.k t.v t.r t.d (.slice t.A t.l.length t.c)) 50 34 1 rwA szA (by rfl) rfl rfl SS rfl rfl rfl ?_;simp only[nn])|(refine rd rfl (Eo true rfl rfl rfl H71) ?_)))
 have HC:=ZbD h t.p _ ((Aa SS).hp 0 rfl) (hT.fr (Aa SS).fr H.low) G.wf.ok.len
 simp only[Db] at HC
 refine HC.mono ?_
 rintro _ Y1 (⟨rfl,hmk,T1⟩|⟨hmk,gv,q,rfl,a1,a2,a3,a4,a5,T1⟩)
 ·have hb1:=Ab T1.hb
  replace SS:=Ab ((Aa SS).heap 0 rfl T1)
  clear T1 HC
  go_wp2_with (first|go_skip|((with_reducible show wpList ..);first|((refine stS (vs:= [.int .i64 0]) 3 3 (by rfl) rfl rfl rfl rfl (by simp[Value.oneCell']) (by kernel_rfl) (Aa SS) rfl (by simp[Bw,VV.cs,KK.cs,DD.cs,Ak,Av,Bl,Ay,Dq]) ?_);intro Xh Lh hfh hsh;replace SS:=Ab Lh;clear Lh hfh hsh;simp only[nn])))
  refine(Jq (Bs (orE [En h.l.length t.p,De t.p,Ju h])) _ (.inr ⟨_,rfl⟩)).mono ?_
  rintro _ Yf ⟨rfl,hYf⟩
  replace SS:=Ab ((Aa SS).on hYf)
  clear hYf
  go_wp2_with (first|go_skip|((with_reducible show wpList ..);first|((refine stS (vs:=Dq (Bx (Bs (orE [En h.l.length t.p,De t.p,Ju h])))) 3 43 (by rfl) rfl rfl rfl rfl (Gf _) (szF) (Aa SS) rfl (by simp[Bw,VV.cs,KK.cs,DD.cs,Ak,Av,Bl,Ay,Dq]) ?_);intro Xj Lj hfj hsj;replace SS:=Ab Lj;clear Lj hfj hsj;simp only[nn])|(refine zL (Bl {Ay with o:=0,f:=Bx (Bs (orE [En h.l.length t.p,De t.p,Ju h]))}) 45 34 3 rwN szN (by rfl) rfl rfl SS rfl rfl rfl ?_;simp only[nn])|((refine stS (vs:=Bl {Ay with o:=0,f:=Bx (Bs (orE [En h.l.length t.p,De t.p,Ju h]))}) 2 45 (by rfl) rfl rfl rfl rfl (Ed _) szN (Aa SS) rfl (by simp[Bw,VV.cs,KK.cs,DD.cs,Ak,Av,Bl,Ay,Dq]) ?_);intro Xz Lz hfz hsz;replace SS:=Ab Lz;clear Lz hfz hsz;simp only[nn])))
  refine Jf rwN szN rfl rfl rfl ((Aa SS).hold 2 rfl) rfl ?_
  exact⟨h,{Ay with o:=0,f:=Bx (Bs (orE [En h.l.length t.p,De t.p,Ju h]))},rfl,G.mono (by omega),HP.To.end H (Aa SS) rfl,⟨rfl,rfl,rfl⟩,fun h0=>absurd ((Aa HW).symm.trans h0) (by decide)⟩
 ·have hb1:=Ab T1.hb
  replace SS:=Ab ((Aa SS).heap 0 rfl T1)
  clear T1 HC
  go_wp2_with (first|go_skip|((with_reducible show wpList ..);first|((refine stS (vs:= [.int .i64 ((h.l.length:Int)+1)]) 3 3 (by rfl) rfl rfl rfl rfl (by simp[Value.oneCell']) (by kernel_rfl) (Aa SS) rfl (by simp[Bw,VV.cs,KK.cs,DD.cs,Ak,Av,Bl,Ay,Dq]) ?_);intro Xh Lh hfh hsh;replace SS:=Ab Lh;clear Lh hfh hsh;simp only[nn])))
  refine(Jq (.nilIface) _ (.inl rfl)).mono ?_
  rintro _ Yf ⟨rfl,hYf⟩
  replace SS:=Ab ((Aa SS).on hYf)
  clear hYf
  go_wp2_with (first|go_skip|((with_reducible show wpList ..);first|((refine stS (vs:=Dq (Bx (.nilIface))) 3 43 (by rfl) rfl rfl rfl rfl (Gf _) (szF) (Aa SS) rfl (by simp[Bw,VV.cs,KK.cs,DD.cs,Ak,Av,Bl,Ay,Dq]) ?_);intro Xj Lj hfj hsj;replace SS:=Ab Lj;clear Lj hfj hsj;simp only[nn])|(refine zL (Bl {Ay with o:=((h.l.length:Int)+1),f:=Bx (.nilIface)}) 45 34 3 rwN szN (by rfl) rfl rfl SS rfl rfl rfl ?_;simp only[nn])|((refine stS (vs:=Bl {Ay with o:=((h.l.length:Int)+1),f:=Bx (.nilIface)}) 2 45 (by rfl) rfl rfl rfl rfl (Ed _) szN (Aa SS) rfl (by simp[Bw,VV.cs,KK.cs,DD.cs,Ak,Av,Bl,Ay,Dq]) ?_);intro Xz Lz hfz hsz;replace SS:=Ab Lz;clear Lz hfz hsz;simp only[nn])))
  refine Jf rwN szN rfl rfl rfl ((Aa SS).hold 2 rfl) rfl ?_
  exact⟨h.more gv q,{Ay with o:=((h.l.length:Int)+1),f:=Bx (.nilIface)},rfl,(Zd6 (gv:=gv) G hmk K.px a1 a2 a3 a4 a5).mono (by omega),HP.To.end H (Aa SS) (Aa hb1),⟨rfl,rfl,rfl⟩,fun h0=>absurd ((Aa HW).symm.trans h0) (by decide)⟩
theorem act7_72 (h:HP) (N:Nat) (t:AT) (w:World) (H:h.Is w) (G:h.Gd N) (hN:N<=90000) (hT:Tabs w) (K:t.Ok) (hW:t.W=72) (hR: ∀X,Fr w X h.blocks->t.Reads X):Calls prog 23 #[.pointer (some ⟨h.b,0,none⟩), .agg (actC t).toArray] w (ZdS h N t w):=by
 have SS:=Ab H.start
 have H71:decide (t.W=71)=false:=by rw[hW];rfl
 have H72:decide (t.W=72)=true:=by rw[hW];rfl
 have H0:decide (t.W=0)=false:=by rw[hW];rfl
 have HW:=Ab hW
 clear hW
 go_enter func23,ntmps23
 go_wp2_with (first|go_skip|((with_reducible show wpList ..);first|(refine zB 59 (actC t) (by rfl) rfl rfl rfl SS ?_;clear SS;intro Xa Ba SS;simp only[nn])|(refine zA 45 (Bl Ay) (by rfl) rfl SS ?_;clear SS;intro Xb Bb SS;simp only[nn])|(refine zA 45 (Bl Ay) (by rfl) rfl SS ?_;clear SS;intro Xc Bc SS;simp only[nn])|(refine z1 3 isAgg3 1 (by rfl) rfl rfl SS rfl rfl ?_;simp only[nn])|(refine zL (t.p.cs) 36 5 1 rwV szV (by rfl) rfl rfl SS rfl rfl rfl ?_;simp only[nn])|(refine zL (Je t.M t.o t.T t.k t.v t.r t.d (.slice t.A t.l.length t.c)) 50 34 1 rwA szA (by rfl) rfl rfl SS rfl rfl rfl ?_;simp only[nn])|(refine rd rfl (Eo false rfl rfl rfl H71) ?_)|(refine rd rfl (Eo true rfl rfl rfl H72) ?_)))
 have HC:=refuel_h h t.n _ ((Aa SS).hp 0 rfl)
 refine HC.mono ?_
 rintro _ Y1 (⟨hn,rfl,T1⟩|⟨hn,rfl,T1⟩)
 ·have hb1:=Ab T1.hb
  replace SS:=Ab ((Aa SS).heap 0 rfl T1)
  clear T1 HC
  go_wp2_with (first|go_skip|((with_reducible show wpList ..);first|((refine stS (vs:= [.int .i64 7]) 3 3 (by rfl) rfl rfl rfl rfl (by simp[Value.oneCell']) (by kernel_rfl) (Aa SS) rfl (by simp[Bw,VV.cs,KK.cs,DD.cs,Ak,Av,Bl,Ay,Dq]) ?_);intro Xh Lh hfh hsh;replace SS:=Ab Lh;clear Lh hfh hsh;simp only[nn])|(refine zL (Bl {Ay with f:=7}) 45 34 3 rwN szN (by rfl) rfl rfl SS rfl rfl rfl ?_;simp only[nn])|((refine stS (vs:=Bl {Ay with f:=7}) 2 45 (by rfl) rfl rfl rfl rfl (Ed _) szN (Aa SS) rfl (by simp[Bw,VV.cs,KK.cs,DD.cs,Ak,Av,Bl,Ay,Dq]) ?_);intro Xz Lz hfz hsz;replace SS:=Ab Lz;clear Lz hfz hsz;simp only[nn])))
  refine Jf rwN szN rfl rfl rfl ((Aa SS).hold 2 rfl) rfl ?_
  exact⟨h,{Ay with f:=7},rfl,G.mono (by omega),HP.To.end H (Aa SS) rfl,⟨rfl,rfl,rfl⟩,fun h0=>absurd ((Aa HW).symm.trans h0) (by decide)⟩
 ·have hb1:=Ab T1.hb
  replace SS:=Ab ((Aa SS).heap 0 rfl T1)
  clear T1 HC
  go_wp2_with (first|go_skip|((with_reducible show wpList ..);first|((refine stS (vs:= [.int .i64 0]) 3 3 (by rfl) rfl rfl rfl rfl (by simp[Value.oneCell']) (by kernel_rfl) (Aa SS) rfl (by simp[Bw,VV.cs,KK.cs,DD.cs,Ak,Av,Bl,Ay,Dq]) ?_);intro Xh Lh hfh hsh;replace SS:=Ab Lh;clear Lh hfh hsh;simp only[nn])|(refine zL (Bl {Ay with f:=0}) 45 34 3 rwN szN (by rfl) rfl rfl SS rfl rfl rfl ?_;simp only[nn])|((refine stS (vs:=Bl {Ay with f:=0}) 2 45 (by rfl) rfl rfl rfl rfl (Ed _) szN (Aa SS) rfl (by simp[Bw,VV.cs,KK.cs,DD.cs,Ak,Av,Bl,Ay,Dq]) ?_);intro Xz Lz hfz hsz;replace SS:=Ab Lz;clear Lz hfz hsz;simp only[nn])))
  refine Jf rwN szN rfl rfl rfl ((Aa SS).hold 2 rfl) rfl ?_
  exact⟨h.fill t.n,{Ay with f:=0},rfl,(fill_gd G hn K.n1).mono (by omega),HP.To.end H (Aa SS) (Aa hb1),⟨rfl,rfl,rfl⟩,fun h0=>absurd ((Aa HW).symm.trans h0) (by decide)⟩
theorem act7_0 (h:HP) (N:Nat) (t:AT) (w:World) (H:h.Is w) (G:h.Gd N) (hN:N<=90000) (hT:Tabs w) (K:t.Ok) (hW:t.W=0) (hM:1<=t.M/\t.M<=11) (hR: ∀X,Fr w X h.blocks->t.Reads X):Calls prog 23 #[.pointer (some ⟨h.b,0,none⟩), .agg (actC t).toArray] w (ZdS h N t w):=by
 have SS:=Ab H.start
 have H71:decide (t.W=71)=false:=by rw[hW];rfl
 have H72:decide (t.W=72)=false:=by rw[hW];rfl
 have H0:decide (t.W=0)=true:=by rw[hW];rfl
 have HW:=Ab hW
 clear hW
 go_enter func23,ntmps23
 go_wp2_with (first|go_skip|((with_reducible show wpList ..);first|(refine zB 59 (actC t) (by rfl) rfl rfl rfl SS ?_;clear SS;intro Xa Ba SS;simp only[nn])|(refine zA 45 (Bl Ay) (by rfl) rfl SS ?_;clear SS;intro Xb Bb SS;simp only[nn])|(refine zA 45 (Bl Ay) (by rfl) rfl SS ?_;clear SS;intro Xc Bc SS;simp only[nn])|(refine z1 3 isAgg3 1 (by rfl) rfl rfl SS rfl rfl ?_;simp only[nn])|(refine zL (t.p.cs) 36 5 1 rwV szV (by rfl) rfl rfl SS rfl rfl rfl ?_;simp only[nn])|(refine zL (Je t.M t.o t.T t.k t.v t.r t.d (.slice t.A t.l.length t.c)) 50 34 1 rwA szA (by rfl) rfl rfl SS rfl rfl rfl ?_;simp only[nn])|(refine rd rfl (Eo false rfl rfl rfl H71) ?_)|(refine rd rfl (Eo false rfl rfl rfl H72) ?_)|(refine rd rfl (Eo true rfl rfl rfl H0) ?_)))
 have HC:=ask_h h t.M t.o t.T t.k t.v t.r t.d t.A t.c t.l N _ hM.1 hM.2 ((Aa SS).hp 0 rfl) G hN (hT.fr (Aa SS).fr H.low) K.k K.vx K.fd K.lz K.lx K.la (fun X hX=>(hR X ((Aa SS).fr.trans hX (fun b hb=> .inl hb))).1)
 refine HC.mono ?_
 rintro _ Y1 ⟨h1,n,er,rfl,hf,hP,hQ,T1⟩
 have hb1:=Ab T1.hb
 replace SS:=Ab ((Aa SS).heap 0 rfl T1)
 clear T1 HC
 go_wp2_with (first|go_skip|((with_reducible show wpList ..);first|((refine stS (vs:=Bl n) 2 45 (by rfl) rfl rfl rfl rfl (Ed _) szN (Aa SS) rfl (by simp[Bw,VV.cs,KK.cs,DD.cs,Ak,Av,Bl,Ay,Dq]) ?_);intro Xz Lz hfz hsz;replace SS:=Ab Lz;clear Lz hfz hsz;simp only[nn])))
 refine Jf rwN szN rfl rfl rfl ((Aa SS).hold 2 rfl) rfl ?_
 exact⟨h1,n,rfl,hP.1.mono (by omega),HP.To.end H (Aa SS) (Aa hb1),⟨hP.2.1.cap,hP.2.1.depth,hP.2.1.ent⟩,fun _=>⟨er,hf,hP,hQ⟩⟩
