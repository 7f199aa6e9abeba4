import Derived.Test.YtfnohipnenkhoaaGreatDoorRs
set_option linter.all false
namespace Go.Proofs.YtfnohipnenkhoaaGreatDoor
set_option maxRecDepth 100000
set_option maxHeartbeats 0
section
open Go Go.Proofs Go.Maps Go.RowKit FM Tryz
attribute [local go_sem] Ao Am Au Ah Ap Ai Ax Dn Dm Bq Aj Bp
structure AT where
 W:Int
 M:Int
 o:Int
 T:Int
 k:KK
 v:VV
 r:VV
 d:DD
 A:Option Addr
 c:Nat
 l:List VV
 p:VV
 n:Int
 DA:Option Addr
 Dc:Nat
 ds:List (KK×DD)
 x1:Value
 x2:Value
 x3:Value
 x4:Value
 x5:Value
 y1:Value
 y2:Value
 y3:Value
 y4:Value
 y5:Value
 y6:Value
 y7:Value
 y8:Value
 y9:Value
 y10:Value
 y11:Value
 y12:Value
def actC (t:AT):List Value:= [.int .i64 t.W]++Jc t.M t.o t.T t.k t.v t.r t.d (.slice t.A t.l.length t.c)++t.p.cs++ [.int .i64 t.n,t.x1,t.x2,t.x3,t.x4,t.x5, .slice t.DA t.ds.length t.Dc,t.y1,t.y2,t.y3,t.y4,t.y5,t.y6,t.y7,t.y8,t.y9,t.y10,t.y11,t.y12]
structure AT.Ok (t:AT):Prop where
 k:OkK t.k
 vx:t.v.x<2^64
 rx:t.r.x<2^64
 fd:FD t.d
 lz:t.l.length<=1000000
 lx: ∀v∈t.l,v.x<2^64
 la:t.A=none->t.l.length=0/\t.c=0
 px:t.p.x<2^64
 n1:t.n<=9223372036854775807
 da:t.DA=none->t.ds.length=0/\t.Dc=0
 df: ∀e∈t.ds,FD e.2
 dk: ∀e∈t.ds,OkK e.1
 one: ∀u∈actC t,u.oneCell'=true
def AT.Reads (t:AT) (X:World):Prop:=Gt X t.A t.l/\ReadsP X t.DA t.ds
def ZdD (h:HP) (N:Nat) (t:AT) (w:World) (e:Ending) (w':World):Prop:= ∃(h1:HP) (n:AN),e= .returned (.agg (Bj n).toArray)/\h1.Gd (max N t.ds.length+1)/\h.To h1 w w'/\(h1.cap=h.cap/\h1.depth=h.depth/\h1.ent=h.ent)/\(t.W=0-> ∃er,n.f=Bu er/\AskP h N h1 er/\(t.M=9->SetQ h t.r t.k t.v h1 n.y))
theorem Dk {o:Oper} {a:Act} {w:World} {x y:Operand} {n m:Int} (b:Bool) (ho:o.op= .binOp .eql 3 x y 3) (hx:a.eval x= .int .i64 n) (hc:a.eval y= .int .i64 m) (h:decide (n=m)=b):(execOp a.eval o).run prog w= .ok (.value (.bool b)) w:=by
 unfold execOp
 simp only[ho,hx,hc]
 subst h
 simp[go_sem,eqGuard]
 rfl
theorem fill_gd {h:HP} {N:Nat} (G:h.Gd N) {n:Int} (h0:0<=n) (h1:n<=9223372036854775807):(h.fill n).Gd N:=⟨⟨⟨G.wf.ok.len,h0,h1,G.wf.ok.e0,G.wf.ok.e1,G.wf.ok.d1⟩,G.wf.ob⟩,G.ac,G.few,G.cap,G.room⟩
theorem ask_h (h:HP) (M o T:Int) (k:KK) (v r:VV) (d:DD) (A:Option Addr) (c:Nat) (l:List VV) (N:Nat) (w:World) (h1:1<=M) (h11:M<=11) (H:h.Is w) (G:h.Gd N) (hN:N<=90000) (hT:Tabs w) (hk:OkK k) (hvx:v.x<2^64) (hFd:FD d) (hz:l.length<=1000000) (hlx: ∀v∈l,v.x<2^64) (hA:A=none->l.length=0/\c=0) (hR: ∀X,Fr w X h.blocks->Gt X A l):Calls prog 41 #[.pointer (some ⟨h.b,0,none⟩), .agg (Jc M o T k v r d (.slice A l.length c)).toArray] w (Ym h N M k v r w):=by
 have:M=1∨M=2∨M=3∨M=4∨M=5∨M=6∨M=7∨M=8∨M=9∨M=10∨M=11:=by omega
 rcases this with rfl|rfl|rfl|rfl|rfl|rfl|rfl|rfl|rfl|rfl|rfl
 ·exact ask_1 h o T k v r d A c l N w H G hN hT hk hvx hFd hz hlx hA hR
 ·exact ask_2 h o T k v r d A c l N w H G hN hT hk hvx hFd hz hlx hA hR
 ·exact ask_3 h o T k v r d A c l N w H G hN hT hk hvx hFd hz hlx hA hR
 ·exact ask_4 h o T k v r d A c l N w H G hN hT hk hvx hFd hz hlx hA hR
 ·exact ask_5 h o T k v r d A c l N w H G hN hT hk hvx hFd hz hlx hA hR
 ·exact ask_6 h o T k v r d A c l N w H G hN hT hk hvx hFd hz hlx hA hR
 ·exact ask_7 h o T k v r d A c l N w H G hN hT hk hvx hFd hz hlx hA hR
 ·exact ask_8 h o T k v r d A c l N w H G hN hT hk hvx hFd hz hlx hA hR
 ·exact ask_9 h o T k v r d A c l N w H G hN hT hk hvx hFd hz hlx hA hR
 ·exact ask_10 h o T k v r d A c l N w H G hN hT hk hvx hFd hz hlx hA hR
 ·exact ask_11 h o T k v r d A c l N w H G hN hT hk hvx hFd hz hlx hA hR
theorem act7_71 (h:HP) (N:Nat) (t:AT) (w:World) (H:h.Is w) (G:h.Gd N) (hN:N<=90000) (hT:Tabs w) (K:t.Ok) (hW:t.W=71) (hR: ∀X,Fr w X h.blocks->t.Reads X):Calls prog 23 #[.pointer (some ⟨h.b,0,none⟩), .agg (actC t).toArray] w (ZdD h N t w):=by
 have SS:=Ab H.start
 have H71:decide (t.W=71)=true:=by rw[hW];rfl
 have H72:decide (t.W=72)=false:=by rw[hW];rfl
 have H0:decide (t.W=0)=false:=by rw[hW];rfl
 have HW:=Ab hW
 clear hW
 go_enter func23,ntmps23
 go_wp2_with (first|go_skip|((with_reducible show wpList ..);first|(refine zB 59 (actC t) (by rfl) rfl rfl rfl SS ?_;clear SS;intro Xa Ba SS;simp only[nn])|(refine zA 45 (Bj Ay) (by rfl) rfl SS ?_;clear SS;intro Xb Bb SS;simp only[nn])|(refine zA 45 (Bj Ay) (by rfl) rfl SS ?_;clear SS;intro Xc Bc SS;simp only[nn])|(refine z1 3 isAgg3 1 (by rfl) rfl rfl SS rfl rfl ?_;simp only[nn])|(refine zL (t.p.cs) 36 5 1 rwV szV (by rfl) rfl rfl SS rfl rfl rfl ?_;simp only[nn])|(refine zL (Jc t.M t.o t.T t.k t.v t.r t.d (.slice t.A t.l.length t.c)) 50 34 1 rwA szA (by rfl) rfl rfl SS rfl rfl rfl ?_;simp only[nn])|(refine rd rfl (Dk true rfl rfl rfl H71) ?_;simp only[nn])))
 have HC:=Zbs h t.p _ ((Aa SS).hp 0 rfl) (hT.fr (Aa SS).fr H.low) G.wf.ok.len
 simp only[By] at HC
 refine HC.mono ?_
 rintro _ Y1 (⟨rfl,hmk,T1⟩|⟨hmk,gv,q,rfl,a1,a2,a3,a4,a5,T1⟩)
 ·have hb1:=Ab T1.hb
  replace SS:=Ab ((Aa SS).heap 0 rfl T1)
  clear T1 HC
  go_wp2_with (first|go_skip|((with_reducible show wpList ..);first|((refine stS (vs:= [.int .i64 0]) 3 3 (by rfl) rfl rfl rfl rfl (by simp[Value.oneCell']) (by kernel_rfl) (Aa SS) rfl (by simp[Bs,VV.cs,KK.cs,DD.cs,Ak,Av,Bj,Ay,Do]) ?_);intro Xh Lh hfh hsh;replace SS:=Ab Lh;clear Lh hfh hsh;simp only[nn])))
  refine(Jo (Br (orE [El h.l.length t.p,Da t.p,Jr h])) _ (.inr ⟨_,rfl⟩)).mono ?_
  rintro _ Yf ⟨rfl,hYf⟩
  replace SS:=Ab ((Aa SS).on hYf)
  clear hYf
  go_wp2_with (first|go_skip|((with_reducible show wpList ..);first|((refine stS (vs:=Do (Bu (Br (orE [El h.l.length t.p,Da t.p,Jr h])))) 3 43 (by rfl) rfl rfl rfl rfl (Gc _) (szF) (Aa SS) rfl (by simp[Bs,VV.cs,KK.cs,DD.cs,Ak,Av,Bj,Ay,Do]) ?_);intro Xj Lj hfj hsj;replace SS:=Ab Lj;clear Lj hfj hsj;simp only[nn])|(refine zL (Bj {Ay with o:=0,f:=Bu (Br (orE [El h.l.length t.p,Da t.p,Jr h]))}) 45 34 3 rwN szN (by rfl) rfl rfl SS rfl rfl rfl ?_;simp only[nn])|((refine stS (vs:=Bj {Ay with o:=0,f:=Bu (Br (orE [El h.l.length t.p,Da t.p,Jr h]))}) 2 45 (by rfl) rfl rfl rfl rfl (Ei _) szN (Aa SS) rfl (by simp[Bs,VV.cs,KK.cs,DD.cs,Ak,Av,Bj,Ay,Do]) ?_);intro Xz Lz hfz hsz;replace SS:=Ab Lz;clear Lz hfz hsz;simp only[nn])))
  refine Jm rwN szN rfl rfl rfl ((Aa SS).hold 2 rfl) rfl ?_
  exact⟨h,{Ay with o:=0,f:=Bu (Br (orE [El h.l.length t.p,Da t.p,Jr h]))},rfl,G.mono (by omega),HP.To.end H (Aa SS) rfl,⟨rfl,rfl,rfl⟩,fun h0=>absurd ((Aa HW).symm.trans h0) (by decide)⟩
 ·have hb1:=Ab T1.hb
  replace SS:=Ab ((Aa SS).heap 0 rfl T1)
  clear T1 HC
  go_wp2_with (first|go_skip|((with_reducible show wpList ..);first|((refine stS (vs:= [.int .i64 ((h.l.length:Int)+1)]) 3 3 (by rfl) rfl rfl rfl rfl (by simp[Value.oneCell']) (by kernel_rfl) (Aa SS) rfl (by simp[Bs,VV.cs,KK.cs,DD.cs,Ak,Av,Bj,Ay,Do]) ?_);intro Xh Lh hfh hsh;replace SS:=Ab Lh;clear Lh hfh hsh;simp only[nn])))
  refine(Jo (.nilIface) _ (.inl rfl)).mono ?_
  rintro _ Yf ⟨rfl,hYf⟩
  replace SS:=Ab ((Aa SS).on hYf)
  clear hYf
  go_wp2_with (first|go_skip|((with_reducible show wpList ..);first|((refine stS (vs:=Do (Bu (.nilIface))) 3 43 (by rfl) rfl rfl rfl rfl (Gc _) (szF) (Aa SS) rfl (by simp[Bs,VV.cs,KK.cs,DD.cs,Ak,Av,Bj,Ay,Do]) ?_);intro Xj Lj hfj hsj;replace SS:=Ab Lj;clear Lj hfj hsj;simp only[nn])|(refine zL (Bj {Ay with o:=((h.l.length:Int)+1),f:=Bu (.nilIface)}) 45 34 3 rwN szN (by rfl) rfl rfl SS rfl rfl rfl ?_;simp only[nn])|((refine stS (vs:=Bj {Ay with o:=((h.l.length:Int)+1),f:=Bu (.nilIface)}) 2 45 (by rfl) rfl rfl rfl rfl (Ei _) szN (Aa SS) rfl (by simp[Bs,VV.cs,KK.cs,DD.cs,Ak,Av,Bj,Ay,Do]) ?_);intro Xz Lz hfz hsz;replace SS:=Ab Lz;clear Lz hfz hsz;simp only[nn])))
  refine Jm rwN szN rfl rfl rfl ((Aa SS).hold 2 rfl) rfl ?_
  exact⟨h.more gv q,{Ay with o:=((h.l.length:Int)+1),f:=Bu (.nilIface)},rfl,(ZdR (gv:=gv) G hmk K.px a1 a2 a3 a4 a5).mono (by omega),HP.To.end H (Aa SS) (Aa hb1),⟨rfl,rfl,rfl⟩,fun h0=>absurd ((Aa HW).symm.trans h0) (by decide)⟩
theorem act7_72 (h:HP) (N:Nat) (t:AT) (w:World) (H:h.Is w) (G:h.Gd N) (hN:N<=90000) (hT:Tabs w) (K:t.Ok) (hW:t.W=72) (hR: ∀X,Fr w X h.blocks->t.Reads X):Calls prog 23 #[.pointer (some ⟨h.b,0,none⟩), .agg (actC t).toArray] w (ZdD h N t w):=by
 have SS:=Ab H.start
 have H71:decide (t.W=71)=false:=by rw[hW];rfl
 have H72:decide (t.W=72)=true:=by rw[hW];rfl
 have H0:decide (t.W=0)=false:=by rw[hW];rfl
 have HW:=Ab hW
 clear hW
 go_enter func23,ntmps23
 go_wp2_with (first|go_skip|((with_reducible show wpList ..);first|(refine zB 59 (actC t) (by rfl) rfl rfl rfl SS ?_;clear SS;intro Xa Ba SS;simp only[nn])|(refine zA 45 (Bj Ay) (by rfl) rfl SS ?_;clear SS;intro Xb Bb SS;simp only[nn])|(refine zA 45 (Bj Ay) (by rfl) rfl SS ?_;clear SS;intro Xc Bc SS;simp only[nn])|(refine z1 3 isAgg3 1 (by rfl) rfl rfl SS rfl rfl ?_;simp only[nn])|(refine zL (t.p.cs) 36 5 1 rwV szV (by rfl) rfl rfl SS rfl rfl rfl ?_;simp only[nn])|(refine zL (Jc t.M t.o t.T t.k t.v t.r t.d (.slice t.A t.l.length t.c)) 50 34 1 rwA szA (by rfl) rfl rfl SS rfl rfl rfl ?_;simp only[nn])|(refine rd rfl (Dk false rfl rfl rfl H71) ?_;simp only[nn])|(refine rd rfl (Dk true rfl rfl rfl H72) ?_;simp only[nn])))
 have HC:=refuel_h h t.n _ ((Aa SS).hp 0 rfl)
 refine HC.mono ?_
 rintro _ Y1 (⟨hn,rfl,T1⟩|⟨hn,rfl,T1⟩)
 ·have hb1:=Ab T1.hb
  replace SS:=Ab ((Aa SS).heap 0 rfl T1)
  clear T1 HC
  go_wp2_with (first|go_skip|((with_reducible show wpList ..);first|((refine stS (vs:= [.int .i64 7]) 3 3 (by rfl) rfl rfl rfl rfl (by simp[Value.oneCell']) (by kernel_rfl) (Aa SS) rfl (by simp[Bs,VV.cs,KK.cs,DD.cs,Ak,Av,Bj,Ay,Do]) ?_);intro Xh Lh hfh hsh;replace SS:=Ab Lh;clear Lh hfh hsh;simp only[nn])|(refine zL (Bj {Ay with f:=7}) 45 34 3 rwN szN (by rfl) rfl rfl SS rfl rfl rfl ?_;simp only[nn])|((refine stS (vs:=Bj {Ay with f:=7}) 2 45 (by rfl) rfl rfl rfl rfl (Ei _) szN (Aa SS) rfl (by simp[Bs,VV.cs,KK.cs,DD.cs,Ak,Av,Bj,Ay,Do]) ?_);intro Xz Lz hfz hsz;replace SS:=Ab Lz;clear Lz hfz hsz;simp only[nn])))
  refine Jm rwN szN rfl rfl rfl ((Aa SS).hold 2 rfl) rfl ?_
  exact⟨h,{Ay with f:=7},rfl,G.mono (by omega),HP.To.end H (Aa SS) rfl,⟨rfl,rfl,rfl⟩,fun h0=>absurd ((Aa HW).symm.trans h0) (by decide)⟩
 ·have hb1:=Ab T1.hb
  replace SS:=Ab ((Aa SS).heap 0 rfl T1)
  clear T1 HC
  go_wp2_with (first|go_skip|((with_reducible show wpList ..);first|((refine stS (vs:= [.int .i64 0]) 3 3 (by rfl) rfl rfl rfl rfl (by simp[Value.oneCell']) (by kernel_rfl) (Aa SS) rfl (by simp[Bs,VV.cs,KK.cs,DD.cs,Ak,Av,Bj,Ay,Do]) ?_);intro Xh Lh hfh hsh;replace SS:=Ab Lh;clear Lh hfh hsh;simp only[nn])|(refine zL (Bj {Ay with f:=0}) 45 34 3 rwN szN (by rfl) rfl rfl SS rfl rfl rfl ?_;simp only[nn])|((refine stS (vs:=Bj {Ay with f:=0}) 2 45 (by rfl) rfl rfl rfl rfl (Ei _) szN (Aa SS) rfl (by simp[Bs,VV.cs,KK.cs,DD.cs,Ak,Av,Bj,Ay,Do]) ?_);intro Xz Lz hfz hsz;replace SS:=Ab Lz;clear Lz hfz hsz;simp only[nn])))
  refine Jm rwN szN rfl rfl rfl ((Aa SS).hold 2 rfl) rfl ?_
  exact⟨h.fill t.n,{Ay with f:=0},rfl,(fill_gd G hn K.n1).mono (by omega),HP.To.end H (Aa SS) (Aa hb1),⟨rfl,rfl,rfl⟩,fun h0=>absurd ((Aa HW).symm.trans h0) (by decide)⟩
theorem act7_0 (h:HP) (N:Nat) (t:AT) (w:World) (H:h.Is w) (G:h.Gd N) (hN:N<=90000) (hT:Tabs w) (K:t.Ok) (hW:t.W=0) (hM:1<=t.M/\t.M<=11) (hR: ∀X,Fr w X h.blocks->t.Reads X):Calls prog 23 #[.pointer (some ⟨h.b,0,none⟩), .agg (actC t).toArray] w (ZdD h N t w):=by
 have SS:=Ab H.start
 have H71:decide (t.W=71)=false:=by rw[hW];rfl
 have H72:decide (t.W=72)=false:=by rw[hW];rfl
 have H0:decide (t.W=0)=true:=by rw[hW];rfl
 have HW:=Ab hW
 clear hW
 go_enter func23,ntmps23
 go_wp2_with (first|go_skip|((with_reducible show wpList ..);first|(refine zB 59 (actC t) (by rfl) rfl rfl rfl SS ?_;clear SS;intro Xa Ba SS;simp only[nn])|(refine zA 45 (Bj Ay) (by rfl) rfl SS ?_;clear SS;intro Xb Bb SS;simp only[nn])|(refine zA 45 (Bj Ay) (by rfl) rfl SS ?_;clear SS;intro Xc Bc SS;simp only[nn])|(refine z1 3 isAgg3 1 (by rfl) rfl rfl SS rfl rfl ?_;simp only[nn])|(refine zL (t.p.cs) 36 5 1 rwV szV (by rfl) rfl rfl SS rfl rfl rfl ?_;simp only[nn])|(refine zL (Jc t.M t.o t.T t.k t.v t.r t.d (.slice t.A t.l.length t.c)) 50 34 1 rwA szA (by rfl) rfl rfl SS rfl rfl rfl ?_;simp only[nn])|(refine rd rfl (Dk false rfl rfl rfl H71) ?_;simp only[nn])|(refine rd rfl (Dk false rfl rfl rfl H72) ?_;simp only[nn])|(refine rd rfl (Dk true rfl rfl rfl H0) ?_;simp only[nn])))
 have HC:=ask_h h t.M t.o t.T t.k t.v t.r t.d t.A t.c t.l N _ hM.1 hM.2 ((Aa SS).hp 0 rfl) G hN (hT.fr (Aa SS).fr H.low) K.k K.vx K.fd K.lz K.lx K.la (fun X hX=>(hR X ((Aa SS).fr.trans hX (fun b hb=> .inl hb))).1)
 refine HC.mono ?_
 rintro _ Y1 ⟨h1,n,er,rfl,hf,hP,hQ,T1⟩
 have hb1:=Ab T1.hb
 replace SS:=Ab ((Aa SS).heap 0 rfl T1)
 clear T1 HC
 go_wp2_with (first|go_skip|((with_reducible show wpList ..);first|((refine stS (vs:=Bj n) 2 45 (by rfl) rfl rfl rfl rfl (Ei _) szN (Aa SS) rfl (by simp[Bs,VV.cs,KK.cs,DD.cs,Ak,Av,Bj,Ay,Do]) ?_);intro Xz Lz hfz hsz;replace SS:=Ab Lz;clear Lz hfz hsz;simp only[nn])))
 refine Jm rwN szN rfl rfl rfl ((Aa SS).hold 2 rfl) rfl ?_
 exact⟨h1,n,rfl,hP.1.mono (by omega),HP.To.end H (Aa SS) (Aa hb1),⟨hP.2.1.cap,hP.2.1.depth,hP.2.1.ent⟩,fun _=>⟨er,hf,hP,hQ⟩⟩
end
section
open Go Go.Proofs Go.Maps Go.RowKit FM
attribute [local go_sem] Ao Am Au Ah Ap Ai Ax Dn Dm Bq Aj Bp
theorem Zb7 {X:World} {base e s g n c q:Nat} {ys:List Value} {u:Value} (h:X.ownsRow base e s (.slice (some ⟨g,0,none⟩) n c) n ys) (hq:ys[q]? =some u):X.cell? ⟨g,q,none⟩=some u/\X.frozen? ⟨g,q,none⟩=false/\g<X.heap.size:=by
 have hlt:=(List.getElem?_eq_some_iff.1 hq).1
 rcases h.2 with ⟨h1,h0⟩|⟨g',cap,cur,h1,h2,h3,h4,h5,h6,h7⟩
 ·cases h1
 ·cases h1
  have hl:=h.1
  have h8:(cur.toList.take (n * s))[q]? =some u:=by rw[h7];exact hq
  rw[List.getElem?_take,if_pos (by omega)] at h8
  have e2:cur[q]? =some u:=by simpa using h8
  exact⟨by simp[World.cell?,h3,e2],by simp[World.frozen?,h3],(Array.getElem?_eq_some_iff.1 h3).1⟩
section
variable {ops : Array Oper} {rest : List Oper} {Q : Exit → Act → World → Prop} {w w0 : World} {a : Act} {o : Oper} {E : List Nat} {L : List Ob}
theorem stR {base e s n g c p:Nat} {ys:List Value} {v:Value} {x y:Operand} (i:Nat) (ty:TypeId) (hw:Region.wanted o (yielded ops a.tmps)=true) (ho:o.op= .store ty x y) (hx:a.eval x= .pointer (some ⟨g,p,none⟩)) (hy:a.eval y=v)
  (hv:v.cells.toList= [v]) (h1:v.oneCell'=true) (hi:(Tryz.prog.info? ty).map (·.size)=some 1) (hL:Sy w0 w E L) (hg:L[i]? =some (Ee base e s (.slice (some ⟨g,0,none⟩) n c) n ys)) (hp:p+1<=ys.length)
  (h: ∀X,Sy w0 X E (L.set i (Ee base e s (.slice (some ⟨g,0,none⟩) n c) n (Bs ys p [v])))->wpList Tryz.prog ops Q rest (a.put o.dst undef) X):wpList Tryz.prog ops Q (o::rest) a w:=by
 refine BigFrame.wpList_want hw fun K hK=> ?_
 have hP:=hK _ _ (h _ (hL.cell i (vs:= [v]) hg hp))
 have ht:w.there g p [v].length:=fun j hj=>by
  obtain rfl:j=0:=by simpa using hj
  have:=Zb7 (hL.get i hg) (List.getElem?_eq_getElem (show p+0<ys.length by omega))
  exact⟨by rw[this.1];rfl,this.2.1⟩
 unfold Oper.wp execOp
 simp only[ho,hx,hy,Instr.storeAt,Instr.sureAddr,Sem.run_bind,Sem.run_pure,Result.andThen_ok,Et w g p ty v [v] hv ht hi (by simpa using h1)]
 exact hP
end
theorem reads_fr {α:Type} {f:α->List Value} {k:Nat} {X Y:World} {E:List Nat} {g:Nat} {l:List α} (h:ReadsG f k Y (some ⟨g,0,none⟩) l) (hg:g ∉ E) (hF:Fr Y X E):ReadsG f k X (some ⟨g,0,none⟩) l:=fun j x hx=>by
 obtain⟨b,off,h1,h2,h3⟩:=h j x hx
 cases h1
 refine⟨g,0,rfl,Nat.lt_of_lt_of_le h2 hF.size,fun j v hv=> ?_⟩
 have e:=h3 j v hv
 have h1:=hF.block g h2 hg
 unfold World.cell? at e ⊢
 dsimp only at e ⊢
 rw[h1]
 exact e
def RowFrom (ys:List Value) (ds:List (KK×DD)) (i:Nat):Prop:=ys.length=(ds.length+1) * 20/\ ∀(j:Nat) (e:KK×DD),i<=j->ds[j]? =some e-> ∀t u,(prC e)[t]? =some u->ys[j * 20+t]? =some u
theorem Rz (e:KK×DD):(prC e).length=20:=rfl
theorem RowFrom.start (ds:List (KK×DD)) (e9:KK×DD):RowFrom (ds.flatMap prC++ [e9].flatMap prC) ds 0:=by
 refine⟨?_,fun j e _ hj t u hu=> ?_⟩
 ·rw[←List.flatMap_append,Gb prC 20 Rz]
  simp
 ·have hlt:=(List.getElem?_eq_some_iff.1 hj).1
  have he:=(List.getElem?_eq_some_iff.1 hj).2
  have ht:t<20:=(List.getElem?_eq_some_iff.1 hu).1
  have h1:=Po prC 20 Rz ds j t hlt ht
  rw[he,hu] at h1
  rw[List.getElem?_append_left (List.getElem?_eq_some_iff.1 h1).1]
  exact h1
theorem RowFrom.step {ys:List Value} {ds:List (KK×DD)} {i p:Nat} (v:Value) (h:RowFrom ys ds i) (hi:i<ds.length) (hp:p=i * 20+1):RowFrom (Bs ys p [v]) ds (i+1):=by
 have hl:p<ys.length:=by rw[h.1];omega
 have e:Bs ys p [v]=ys.set p v:=by
  unfold Bs
  rw[List.set_eq_take_append_cons_drop,if_pos hl]
  simp
 refine⟨by rw[e,List.length_set];exact h.1,fun j x hj hx t u hu=> ?_⟩
 rw[e,List.getElem?_set_ne (by omega)]
 exact h.2 j x (by omega) hx t u hu
theorem RowFrom.range {X:World} {base e g c:Nat} {ys:List Value} {ds:List (KK×DD)} {i j:Nat} {x:KK×DD} (hO:X.ownsRow base e 20 (.slice (some ⟨g,0,none⟩) (ds.length+1) c) (ds.length+1) ys) (h:RowFrom ys ds i) (hj:i<=j) (hx:ds[j]? =some x):X.rangeAt g (0+j * 20) (prC x):=fun t u hu=>by
 rw[Nat.zero_add]
 exact(Zb7 hO (h.2 j x hj hx t u hu)).1
def k9:KK:=⟨⟨#[]⟩, -9⟩
def e9:KK×DD:=(k9,Ak)
theorem ZbA:(Tryz.prog.info? 69).map (fun i=>(i.zero,i.size,i.bytes))=some (some (.agg (prC Oy).toArray),20,192):=by kernel_rfl
theorem ex_bk9 {o:Oper} {a:Act} {w:World} (ho:o.op= .build 48 #[(1, .const (.int .i64 (-9)))]):(execOp a.eval o).run Tryz.prog w= .ok (.value (.agg k9.cs.toArray)) w:=by
 have e:(Instr.build 48 #[(1, .int .i64 (-9))]).run Tryz.prog w= .ok (.agg k9.cs.toArray) w:=by kernel_rfl
 unfold execOp
 simp only[ho,List.map_toArray,List.map_cons,List.map_nil,show a.eval (.const (.int .i64 (-9)))= .int .i64 (-9) from rfl]
 simp[e]
theorem ex_be9 {o:Oper} {a:Act} {w:World} {x:Operand} (ho:o.op= .build 69 #[(0,x)]) (hx:a.eval x= .agg k9.cs.toArray):(execOp a.eval o).run Tryz.prog w= .ok (.value (.agg (prC e9).toArray)) w:=by
 have e:(Instr.build 69 #[(0, .agg k9.cs.toArray)]).run Tryz.prog w= .ok (.agg (prC e9).toArray) w:=by kernel_rfl
 unfold execOp
 simp only[ho,List.map_toArray,List.map_cons,List.map_nil,hx]
 simp[e]
theorem ZaQ (l:List (KK×DD)): ∀u∈l.flatMap prC,u.oneCell'=true:=by
 intro u hu
 obtain⟨v, -,h⟩:=List.mem_flatMap.1 hu
 exact Ry v u h
theorem own_rp {X:World} {base e:Nat} {A:Option Addr} {c:Nat} {l:List (KK×DD)} {v:KK×DD} (h:X.ownsRow base e 20 (.slice A (l.length+1) c) (l.length+1) (l.flatMap prC++ [v].flatMap prC)):ReadsP X A (l++ [v]):=Oc (f:=prC) Rz (by rw[List.flatMap_append];exact h) (by simp)
theorem own_rpA {X:World} {base e:Nat} {A:Option Addr} {c:Nat} {n:Nat} {ys:List Value} (h:X.ownsRow base e 20 (.slice A (n+1) c) (n+1) ys): ∃g,A=some ⟨g,0,none⟩/\n+1<=c:=by
 rcases h.2 with ⟨h1,h0⟩|⟨g,cap,cur,h1,h2,h3,h4,h5⟩
 ·omega
 ·cases h1
  exact⟨g,rfl,h4⟩
theorem ZeC {X:World} {base e g:Nat} {c:Nat} {l:List (KK×DD)} {v:KK×DD} (h:X.ownsRow base e 20 (.slice (some ⟨g,0,none⟩) (l.length+1) c) (l.length+1) (l.flatMap prC++ [v].flatMap prC)):X.rangeAt g (0+l.length * 20) (prC v):=by
 obtain⟨b,off,h1, -,h3⟩:=own_rp h l.length v (by simp)
 cases h1
 exact h3
theorem Zdq {w X Y:World} {h:HP} {L:List Ob} {base e g c i:Nat} {l:List (KK×DD)} {v:KK×DD} (S:Sy w X h.blocks (hpO h::L)) (hi:L[i]? =some (Ee base e 20 (.slice (some ⟨g,0,none⟩) (l.length+1) c) (l.length+1) (l.flatMap prC++ [v].flatMap prC))) (k:Fr X Y h.blocks):ReadsP Y (some ⟨g,0,none⟩) l:=by
 have hr:ReadsG prC 20 X (some ⟨g,0,none⟩) l:=ReadsG.left (m:= [v]) (own_rp (S.get (i+1) hi))
 exact reads_fr hr (fun hg=>S.apart (i:=0) (j:=i+1) rfl hi (by omega) g hg (by simp[Ee,Value.ownBlock])) k
