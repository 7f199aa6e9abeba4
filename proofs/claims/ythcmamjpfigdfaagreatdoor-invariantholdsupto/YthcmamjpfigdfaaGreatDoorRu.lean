import Derived.Test.YthcmamjpfigdfaaGreatDoorRt
import Derived.Test.YthcmamjpfigdfaaGreatDoorRs
import Derived.Test.YthcmamjpfigdfaaGreatDoorRows
import Derived.OpenShut
import Derived.ChangeArms
import Derived.ChangeSame
import Derived.Deep.Slices
import Derived.Laws.IdiomArrays
set_option linter.all false
namespace Go.Proofs.YthcmamjpfigdfaaGreatDoor
set_option maxRecDepth 100000
set_option maxHeartbeats 0
section
open Go Go.Proofs Go.Maps Go.RowKit FM Tryz
attribute [local go_sem] Al Ak Ar Ah Am Ai Au Dd Db Bi Aj Bh
structure AT where
 W:Int
 M:Int
 o:Int
 T:Int
 k:KK
 v:VV
 r:VV
 d:DD
 A:Option Addr
 c:Nat
 l:List VV
 p:VV
 n:Int
 DA:Option Addr
 Dc:Nat
 ds:List (KK×DD)
 x1:Value
 x2:Value
 x3:Value
 x4:Value
 x5:Value
 y1:Value
 y2:Value
 y3:Value
 y4:Value
 y5:Value
 y6:Value
 y7:Value
 y8:Value
 y9:Value
 y10:Value
 y11:Value
 y12:Value
def actC (t:AT):List Value:= [.int .i64 t.W]++Nm t.M t.o t.T t.k t.v t.r t.d (.slice t.A t.l.length t.c)++t.p.cs++ [.int .i64 t.n,t.x1,t.x2,t.x3,t.x4,t.x5, .slice t.DA t.ds.length t.Dc,t.y1,t.y2,t.y3,t.y4,t.y5,t.y6,t.y7,t.y8,t.y9,t.y10,t.y11,t.y12]
structure AT.Ok (t:AT):Prop where
 k:OkK t.k
 vx:t.v.x<2^64
 rx:t.r.x<2^64
 fd:FD t.d
 lz:t.l.length<=1000000
 lx: ∀v∈t.l,v.x<2^64
 la:t.A=none->t.l.length=0/\t.c=0
 px:t.p.x<2^64
 n1:t.n<=9223372036854775807
 da:t.DA=none->t.ds.length=0/\t.Dc=0
 df: ∀e∈t.ds,FD e.2
 dk: ∀e∈t.ds,OkK e.1
 one: ∀u∈actC t,u.oneCell'=true
def AT.Reads (t:AT) (X:World):Prop:=Kx X t.A t.l/\ReadsP X t.DA t.ds
def ActP (h:HP) (N:Nat) (t:AT) (w:World) (e:Ending) (w':World):Prop:= ∃(h1:HP) (n:AN),e= .returned (.agg (Di n).toArray)/\h1.Gd (max N t.ds.length+1)/\h.To h1 w w'/\(h1.cap=h.cap/\h1.depth=h.depth/\h1.ent=h.ent/\LtB h h1)/\(t.W=0-> ∃er,n.f=Gc er/\AskP h N h1 er/\(t.M=9->SetQ h t.r t.k t.v h1 n.y))
theorem En {o:Oper} {a:Act} {w:World} {x y:Operand} {n m:Int} (b:Bool) (ho:o.op= .binOp .eql 3 x y 3) (hx:a.eval x= .int .i64 n) (hc:a.eval y= .int .i64 m) (h:decide (n=m)=b):(execOp a.eval o).run prog w= .ok (.value (.bool b)) w:=by
 unfold execOp
 simp only[ho,hx,hc]
 subst h
 simp[go_sem,eqGuard]
 rfl
theorem act7_71 (h:HP) (N:Nat) (t:AT) (w:World) (H:h.Is w) (G:h.Gd N) (hN:N<=90000) (hT:Tabs w) (K:t.Ok) (hW:t.W=71) (hR: ∀X,Fr w X h.blocks->t.Reads X):Calls prog 12 #[.pointer (some ⟨h.b,0,none⟩), .agg (actC t).toArray] w (ActP h N t w):=by
 have SS:=Ab H.start
 have H71:decide (t.W=71)=true:=by rw[hW];rfl
 have H72:decide (t.W=72)=false:=by rw[hW];rfl
 have H0:decide (t.W=0)=false:=by rw[hW];rfl
 have HW:=Ab hW
 clear hW
 go_enter func12,ntmps12
 go_wp2_with (first|go_skip|((with_reducible show wpList ..);first|(refine zB 56 (actC t) rfl rfl rfl SS ?_;clear SS;intro Xa Ba SS;simp only[nn])|(refine zA 60 (Di Bq) rfl (show Hid (Sy _ _ _ [_,_]) from SS) ?_;clear SS;intro Xb Bb SS;simp only[nn])|(refine zA 60 (Di Bq) rfl (show Hid (Sy _ _ _ [_,_,_]) from SS) ?_;clear SS;intro Xc Bc SS;simp only[nn])|(refine z1 3 isAgg3 1 (by rfl) rfl rfl SS rfl rfl ?_;simp only[nn])|(refine zL (t.p.cs) 40 5 1 rwV szV rfl rfl SS rfl rfl rfl ?_;simp only[nn])|(refine rd rfl (En true rfl rfl rfl H71) ?_)))
 have HC:=make_h h t.p _ ((Aa SS).hp 0 rfl) (hT.fr (Aa SS).fr H.low) G.wf.ok.len
 simp only[Dg] at HC
 refine HC.mono ?_
 rintro _ Y1 (⟨rfl,hmk,T1⟩|⟨hmk,gv,q,rfl,a1,a2,a3,a4,a5,T1⟩)
 ·have hb1:=Ab T1.hb
  replace SS:=Ab ((Aa SS).heap 0 rfl T1)
  clear T1 HC
  go_wp2_with (first|go_skip|((with_reducible show wpList ..);((refine stS (vs:= [.int .i64 0]) 3 3 (by rfl) rfl rfl rfl rfl (by simp[Value.oneCell']) (by kernel_rfl) (Aa SS) rfl (by simp[Bt,VV.cs,KK.cs,DD.cs,zeroD,Aq,Di,Bq,Ep]) ?_);intro Xh Lh hfh hsh;replace SS:=Ab Lh;clear Lh hfh hsh;simp only[nn])))
  refine(Zq (Ax (orE [Eh h.l.length t.p,Df t.p,Ji h])) _ (.inr ⟨_,rfl⟩)).mono ?_
  rintro _ Yf ⟨rfl,hYf⟩
  replace SS:=Ab ((Aa SS).on hYf)
  clear hYf
  go_wp2_with (first|go_skip|((with_reducible show wpList ..);first|((refine stS (vs:=Ep (Gc (Ax (orE [Eh h.l.length t.p,Df t.p,Ji h])))) 3 58 (by rfl) rfl rfl rfl rfl (Nv _) (szF) (Aa SS) rfl (by simp[Bt,VV.cs,KK.cs,DD.cs,zeroD,Aq,Di,Bq,Ep]) ?_);intro Xj Lj hfj hsj;replace SS:=Ab Lj;clear Lj hfj hsj;simp only[nn])|(refine zL (Di {Bq with o:=0,f:=Gc (Ax (orE [Eh h.l.length t.p,Df t.p,Ji h]))}) 60 34 3 rwN szN rfl rfl SS rfl rfl rfl ?_;simp only[nn])|((refine stS (vs:=Di {Bq with o:=0,f:=Gc (Ax (orE [Eh h.l.length t.p,Df t.p,Ji h]))}) 2 60 (by rfl) rfl rfl rfl rfl (Nz _) szN (Aa SS) rfl (by simp[Bt,VV.cs,KK.cs,DD.cs,zeroD,Aq,Di,Bq,Ep]) ?_);intro Xz Lz hfz hsz;replace SS:=Ab Lz;clear Lz hfz hsz;simp only[nn])))
  refine Lt rwN szN rfl rfl rfl ((Aa SS).hold 2 rfl) rfl ?_
  exact⟨h,{Bq with o:=0,f:=Gc (Ax (orE [Eh h.l.length t.p,Df t.p,Ji h]))},rfl,G.mono (by omega),HP.To.end H (Aa SS) rfl,⟨rfl,rfl,rfl,LtB.refl _⟩,fun h0=>absurd ((Aa HW).symm.trans h0) (by decide)⟩
 ·have hb1:=Ab T1.hb
  replace SS:=Ab ((Aa SS).heap 0 rfl T1)
  clear T1 HC
  go_wp2_with (first|go_skip|((with_reducible show wpList ..);((refine stS (vs:= [.int .i64 ((h.l.length:Int)+1)]) 3 3 (by rfl) rfl rfl rfl rfl (by simp[Value.oneCell']) (by kernel_rfl) (Aa SS) rfl (by simp[Bt,VV.cs,KK.cs,DD.cs,zeroD,Aq,Di,Bq,Ep]) ?_);intro Xh Lh hfh hsh;replace SS:=Ab Lh;clear Lh hfh hsh;simp only[nn])))
  refine(Zq (.nilIface) _ (.inl rfl)).mono ?_
  rintro _ Yf ⟨rfl,hYf⟩
  replace SS:=Ab ((Aa SS).on hYf)
  clear hYf
  go_wp2_with (first|go_skip|((with_reducible show wpList ..);first|((refine stS (vs:=Ep (Gc (.nilIface))) 3 58 (by rfl) rfl rfl rfl rfl (Nv _) (szF) (Aa SS) rfl (by simp[Bt,VV.cs,KK.cs,DD.cs,zeroD,Aq,Di,Bq,Ep]) ?_);intro Xj Lj hfj hsj;replace SS:=Ab Lj;clear Lj hfj hsj;simp only[nn])|(refine zL (Di {Bq with o:=((h.l.length:Int)+1),f:=Gc (.nilIface)}) 60 34 3 rwN szN rfl rfl SS rfl rfl rfl ?_;simp only[nn])|((refine stS (vs:=Di {Bq with o:=((h.l.length:Int)+1),f:=Gc (.nilIface)}) 2 60 (by rfl) rfl rfl rfl rfl (Nz _) szN (Aa SS) rfl (by simp[Bt,VV.cs,KK.cs,DD.cs,zeroD,Aq,Di,Bq,Ep]) ?_);intro Xz Lz hfz hsz;replace SS:=Ab Lz;clear Lz hfz hsz;simp only[nn])))
  refine Lt rwN szN rfl rfl rfl ((Aa SS).hold 2 rfl) rfl ?_
  exact⟨h.more gv q,{Bq with o:=((h.l.length:Int)+1),f:=Gc (.nilIface)},rfl,(more_gd (gv:=gv) G hmk K.px a1 a2 a3 a4 a5).mono (by omega),HP.To.end H (Aa SS) (Aa hb1),⟨rfl,rfl,rfl,more_lt (by rw[a2];exact ZeI (Ef hmk (Eh h.l.length t.p) (by simp))) a4⟩,fun h0=>absurd ((Aa HW).symm.trans h0) (by decide)⟩
theorem act7_0 (h:HP) (N:Nat) (t:AT) (w:World) (H:h.Is w) (G:h.Gd N) (hN:N<=90000) (hT:Tabs w) (K:t.Ok) (hW:t.W=0) (hM:1<=t.M/\t.M<=11) (hR: ∀X,Fr w X h.blocks->t.Reads X):Calls prog 12 #[.pointer (some ⟨h.b,0,none⟩), .agg (actC t).toArray] w (ActP h N t w):=by
 have SS:=Ab H.start
 have H71:decide (t.W=71)=false:=by rw[hW];rfl
 have H72:decide (t.W=72)=false:=by rw[hW];rfl
 have H0:decide (t.W=0)=true:=by rw[hW];rfl
 have HW:=Ab hW
 clear hW
 go_enter func12,ntmps12
 go_wp2_with (first|go_skip|((with_reducible show wpList ..);first|(refine zB 56 (actC t) rfl rfl rfl SS ?_;clear SS;intro Xa Ba SS;simp only[nn])|(refine zA 60 (Di Bq) rfl (show Hid (Sy _ _ _ [_,_]) from SS) ?_;clear SS;intro Xb Bb SS;simp only[nn])|(refine zA 60 (Di Bq) rfl (show Hid (Sy _ _ _ [_,_,_]) from SS) ?_;clear SS;intro Xc Bc SS;simp only[nn])|(refine z1 3 isAgg3 1 (by rfl) rfl rfl SS rfl rfl ?_;simp only[nn])|(refine zL (Nm t.M t.o t.T t.k t.v t.r t.d (.slice t.A t.l.length t.c)) 46 34 1 rwA szA rfl rfl SS rfl rfl rfl ?_;simp only[nn])|(refine rd rfl (En false rfl rfl rfl H71) ?_)|(refine rd rfl (En false rfl rfl rfl H72) ?_)|(refine rd rfl (En true rfl rfl rfl H0) ?_)))
 have HC:=ask_h h t.M t.o t.T t.k t.v t.r t.d t.A t.c t.l N _ hM.1 hM.2 ((Aa SS).hp 0 rfl) G hN (hT.fr (Aa SS).fr H.low) K.k K.vx K.fd K.lz K.lx K.la (fun X hX=>(hR X ((Aa SS).fr.trans hX (fun b hb=> .inl hb))).1)
 refine HC.mono ?_
 rintro _ Y1 ⟨h1,n,er,rfl,hf,hP,hQ,T1⟩
 have hb1:=Ab T1.hb
 replace SS:=Ab ((Aa SS).heap 0 rfl T1)
 clear T1 HC
 go_wp2_with (first|go_skip|((with_reducible show wpList ..);((refine stS (vs:=Di n) 2 60 (by rfl) rfl rfl rfl rfl (Nz _) szN (Aa SS) rfl (by simp[Bt,VV.cs,KK.cs,DD.cs,zeroD,Aq,Di,Bq,Ep]) ?_);intro Xz Lz hfz hsz;replace SS:=Ab Lz;clear Lz hfz hsz;simp only[nn])))
 refine Lt rwN szN rfl rfl rfl ((Aa SS).hold 2 rfl) rfl ?_
 exact⟨h1,n,rfl,hP.1.mono (by omega),HP.To.end H (Aa SS) (Aa hb1),⟨hP.2.1.cap,hP.2.1.depth,hP.2.1.ent,hP.2.1.lt⟩,fun _=>⟨er,hf,hP,hQ⟩⟩
end
section
open Go Go.Proofs Go.Maps Go.RowKit FM
attribute [local go_sem] Al Ak Ar Ah Am Ai Au Dd Db Bi Aj Bh
section
variable {ops:Array Oper} {rest:List Oper} {Q:Exit->Act->World->Prop} {w w0:World} {a:Act} {o:Oper} {E:List Nat} {L:List Ob}
end
theorem reads_fr {α:Type} {f:α->List Value} {k:Nat} {X Y:World} {E:List Nat} {g:Nat} {l:List α} (h:ReadsG f k Y (some ⟨g,0,none⟩) l) (hg:g ∉ E) (hF:Fr Y X E):ReadsG f k X (some ⟨g,0,none⟩) l:=fun j x hx=>by
 obtain⟨b,off,h1,h2,h3⟩:=h j x hx
 cases h1
 refine⟨g,0,rfl,Nat.lt_of_lt_of_le h2 hF.size,fun j v hv=> ?_⟩
 have e:=h3 j v hv
 have h1:=hF.block g h2 hg
 unfold World.cell? at e ⊢
 dsimp only at e ⊢
 rw[h1]
 exact e
def k9:KK:=⟨⟨#[]⟩, -9⟩
def e9:KK×DD:=(k9,zeroD)
theorem actC_len (t:AT):(actC t).length=59:=rfl
theorem unTs:Tryz.prog.underlying 22=some (.slice (Tryz.prog.elem 22)):=by kernel_rfl
theorem idTs (w:World):(sizeOf (Tryz.prog.elem 22)).run Tryz.prog w= .ok 59 w:=by kernel_rfl
def Vx (c f d:Int) (v:Value):List Value:= [.int .i64 c, .int .i64 f, .int .i64 d,v]
theorem Sy.nilRow {w X:World} {E:List Nat} {L:List Ob} (h:Sy w X E L) (base e s:Nat):Sy w X E (L++ [Ec base e s (.slice none 0 0) 0 []]):=Sy.add h (Oh _ _ _ _ _ _) ⟨by simp, .inl ⟨rfl,rfl⟩⟩ (Below.refl _ _) (fun b hb=>by simp[Ec,Value.ownBlock] at hb)
theorem Sy.beside {w X Y:World} {E:List Nat} {L M:List Ob} (S:Sy w X E L) (T:Sy X Y [] M):Sy w Y E (L++M):=by
 have S2:=S.on T.fr.below
 refine⟨S2.fr,fun o ho=> ?_,fun o ho=> ?_,fun o ho b hb=> ?_, ?_⟩
 ·rcases List.mem_append.1 ho with h1|h1
  ·exact S2.ok o h1
  ·exact T.ok o h1
 ·rcases List.mem_append.1 ho with h1|h1
  ·exact S2.ho o h1
  ·exact T.ho o h1
 ·rcases List.mem_append.1 ho with h1|h1
  ·exact S2.lo o h1 b hb
  ·rcases T.lo o h1 b hb with h2|h2
   ·cases h2
   ·exact .inr (Nat.le_trans S.fr.size h2)
 ·rw[List.pairwise_append]
  refine⟨S2.dis,T.dis,fun a ha b hb x hx hxb=> ?_⟩
  have h1:=(S.ok a ha).lt (S.ho a ha) x hx
  rcases T.lo b hb x hxb with h2|h2
  ·cases h2
  ·omega
theorem new_gd {B:Nat} {c f d:Int} (h:Nk c f d=false) (hf:f<=9223372036854775807):(Oz B c f d).Gd 0:=by
 simp only[Nk,Bool.or_eq_false_iff,decide_eq_false_iff_not] at h
 obtain⟨h1,h2,h3,h4,h5⟩:=h
 exact⟨⟨⟨Nat.zero_le _,by show 0<=f;omega,hf,Int.le_refl _,by show 0<=d;omega,by show d<=_;omega⟩,fun j q hj=>(by cases hj)⟩,⟨fun _=>0,fun j i q hj=>(by cases hj)⟩,fun j q hj=>(by cases hj),by show c<=65536;omega,by show ((0:Nat):Int)<=c;omega⟩
theorem new_sy {w X Y:World} {L:List Ob} {B:Nat} {c f d:Int} (S:Sy w X [] L) (h:(Oz B c f d).Is Y) (hB:X.heap.size<=B) (k:Below X.heap.size X Y):Sy w Y [] (L++ [hpO (Oz B c f d)]):=S.add (Zeq _) h k (fun b hb=>by
 have e:b∈(Oz B c f d).blocks:=hb
 rw[Zel,List.mem_singleton] at e
 omega)
theorem abs_ok {h:HP} {N:Nat} {X:World} (H:h.Is X) (G:h.Gd N) (hN:N<=90000):h.abs.length<=1000000/\ ∀s∈h.abs,s.ps.length<=1000000/\s.p.x<2^64/\ ∀e∈s.ps,FD e.2:=by
 refine⟨?_,fun s hs=> ?_⟩
 ·have:=G.wf.ok.len
  unfold HP.abs
  rw[List.length_map]
  omega
 ·obtain⟨q,hq,rfl⟩:=List.mem_map.1 hs
  obtain⟨j,hj,rfl⟩:=List.getElem_of_mem hq
  have hj2:=List.getElem?_eq_getElem hj
  have h1:=G.few j _ hj2
  have h2:=Xm (H.ob hj2).2.1
  have h3:=G.wf.ob j _ hj2
  refine⟨?_,h3.px,fun e he=>(h3.ps e he).1⟩
  show (pr _).length<=_
  rw[Zeb]
  omega
end
section
open Go Go.Proofs Go.Maps Go.RowKit FM
structure MO where
 A:Option Addr
 n:Nat
 c:Nat
 l:List PO
 vs:List Value
def MO.v (m:MO):Value:= .slice m.A m.n m.c
def MO.row (m:MO):Ob:=Ec 0 85 8 m.v m.n (Pa m.l m.vs)
def MO.pso (m:MO):Ob:=psO 0 m.l m.vs
def Pv (ms:List MO):Ob:=⟨ms.flatMap (fun m=>m.row.bs++m.pso.bs),fun X=> ∀m∈ms,m.row.P X/\m.pso.P X⟩
theorem Zck (ms:List MO):(Pv ms).Ok:=by
 refine⟨fun h k m hm=>⟨?_, ?_⟩,fun k b hb=> ?_⟩
 ·exact(Oh _ _ _ _ _ _).on (fun b hb=>h b (List.mem_flatMap.2 ⟨m,hm,List.mem_append_left _ hb⟩)) (k m hm).1
 ·exact(Zcc _ _ _).on (fun b hb=>h b (List.mem_flatMap.2 ⟨m,hm,List.mem_append_right _ hb⟩)) (k m hm).2
 ·obtain⟨m,hm,hb⟩:=List.mem_flatMap.1 hb
  rcases List.mem_append.1 hb with h1|h1
  ·exact(Oh _ _ _ _ _ _).lt (k m hm).1 b h1
  ·exact(Zcc _ _ _).lt (k m hm).2 b h1
theorem psO_mono {base:Nat} {l:List PO} {vs:List Value} {X:World} (h:(psO base l vs).P X):(psO 0 l vs).P X:=⟨h.1,fun j s v h1 h2=>Np (h.2 j s v h1 h2) (Nat.zero_le _)⟩
theorem mom_one {w X:World} {E:List Nat} {L M:List Ob} {base:Nat} {A:Option Addr} {n c:Nat} {l:List PO} {vs:List Value} (S:Sy w X E (L++Ec base 85 8 (.slice A n c) n (Pa l vs)::psO base l vs::M)):Sy w X E (L++ [Pv [⟨A,n,c,l,vs⟩]]):=by
 have h1:(Ec base 85 8 (.slice A n c) n (Pa l vs)).P X:=S.ho _ (List.mem_append_right _ (List.mem_cons_self ..))
 have h2:(psO base l vs).P X:=S.ho _ (List.mem_append_right _ (List.mem_cons_of_mem _ (List.mem_cons_self ..)))
 refine S.join (Zck _) (fun m hm=> ?_) (fun x hx=> ?_)
 ·rw[List.mem_singleton.1 hm]
  exact⟨Np h1 (Nat.zero_le _),psO_mono h2⟩
 ·obtain⟨m,hm,hx⟩:=List.mem_flatMap.1 hx
  rw[List.mem_singleton.1 hm] at hx
  exact List.mem_append.1 hx
theorem mom_snoc {w X:World} {E:List Nat} {L M:List Ob} {ms:List MO} {m:MO} (S:Sy w X E (L++Pv ms::Pv [m]::M)):Sy w X E (L++ [Pv (ms++ [m])]):=by
 have h1:(Pv ms).P X:=S.ho _ (List.mem_append_right _ (List.mem_cons_self ..))
 have h2:(Pv [m]).P X:=S.ho _ (List.mem_append_right _ (List.mem_cons_of_mem _ (List.mem_cons_self ..)))
 refine S.join (Zck _) (fun q hq=> ?_) (fun x hx=> ?_)
 ·rcases List.mem_append.1 hq with h3|h3
  ·exact h1 q h3
  ·exact h2 q h3
 ·obtain⟨q,hq,hx⟩:=List.mem_flatMap.1 hx
  rcases List.mem_append.1 hq with h3|h3
  ·exact .inl (List.mem_flatMap.2 ⟨q,h3,hx⟩)
  ·exact .inr (List.mem_flatMap.2 ⟨q,h3,hx⟩)
structure MO.Ok (h:HP) (m:MO):Prop where
 n:m.l.length=m.n
 z:m.l.length<=1000000
 ok: ∀s∈m.l,ShOk s
 lt:LtH m.l h.abs
theorem ZbB {X:World} {ms:List MO} {h:HP} {m:MO} (S:(Pv ms).P X) (hm:m∈ms) (K:m.Ok h):Zbb X m.A m.l:=Zc3 (vs:=m.vs) (c:=m.c) K.n (S m hm).1 (S m hm).2
theorem sh_ok {h:HP} {N:Nat} {X:World} (H:h.Is X) (G:h.Gd N) (hN:N<=90000) (W:WhH h): ∀s∈h.abs,ShOk s:=fun s hs=>by
 obtain⟨h1,h2,h3⟩:=(abs_ok H G hN).2 s hs
 exact⟨⟨_,(W s hs).2⟩,h3,h2,h1⟩
theorem infL1:(Tryz.prog.info? 61).map (fun i=>(i.zero,i.size,i.bytes))=some (some (.slice none 0 0),1,24):=by kernel_rfl
theorem unL1:Tryz.prog.underlying 35=some (.slice (Tryz.prog.elem 35)):=by kernel_rfl
theorem idL1 (w:World):(sizeOf (Tryz.prog.elem 35)).run Tryz.prog w= .ok 1 w:=by kernel_rfl
section
variable {ops:Array Oper} {rest:List Oper} {Q:Exit->Act->World->Prop} {w w0:World} {a:Act} {o:Oper} {E:List Nat} {L:List Ob}
end
end
section
open Go Go.Proofs Go.Maps Go.RowKit FM
attribute [local go_sem] Al Ak Ar Ah Am Ai Au Dd Db Bi Aj Bh
theorem ex_neP {o:Oper} {a:Act} {w:World} {x:Operand} {B:Nat} (ho:o.op= .binOp .eql 30 x (.const (.pointer none)) 30) (hx:a.eval x= .pointer (some ⟨B,0,none⟩)):(execOp a.eval o).run Tryz.prog w= .ok (.value (.bool false)) w:=by
 unfold execOp
 simp only[ho,hx,show a.eval (.const (.pointer none))= .pointer none from rfl]
 simp[go_sem,eqGuard]
theorem Zr {o:Oper} {a:Act} {W:World} {x:Operand} {B p:Nat} {cs:List Value} {v:Value} (t:TypeId) (hna: ∀w,(isAgg t).run Tryz.prog w= .ok false w) (ho:o.op= .load t x) (hx:a.eval x= .pointer (some ⟨B,p,none⟩)) (hc:W.rangeAt B p cs) (hv:cs[0]? =some v):(execOp a.eval o).run Tryz.prog W= .ok (.value v) W:=ZcA t 0 hna ho hx hc hv
theorem Zex {o:Oper} {a:Act} {w:World} {x y:Operand} {n m:Int} (b:Bool) (ho:o.op= .binOp .gtr 3 x y 3) (hx:a.eval x= .int .i64 n) (hc:a.eval y= .int .i64 m) (h:decide (m<n)=b):(execOp a.eval o).run Tryz.prog w= .ok (.value (.bool b)) w:=by
 subst h
 unfold execOp
 simp only[ho,hx,hc]
 simp[go_sem,eqGuard]
theorem WhH.new (B:Nat) (c f d:Int):WhH (Oz B c f d):=fun q hq=>by cases hq
end
section
open Go Go.Proofs Go.Maps Go.RowKit FM Tryz
attribute [local go_sem] Al Ak Ar Ah Am Ai Au Dd Db Bi Aj Bh
theorem ZdV (w:World):(Instr.typeAssert (.iface 109 (.agg #[])) 153 221 true).run prog w= .ok (.tuple #[.nilIface, .bool false]) w:=run_typeAssert_lacksB underlying221 (by kernel_rfl) (by kernel_rfl) _ _ _
attribute [local go_sem] ZdV
theorem Za6 (h:HP) (o:Int) (w:World) (H:h.Is w) (hl:h.l.length<=65536):Calls prog 151 #[.pointer (some ⟨h.b,0,none⟩), .int .i64 o] w fun e w'=>e= .returned (.tuple #[.nilIface, .int .i64 8])/\w'=w:=by
 obtain⟨z,hz⟩: ∃z,Ri o h.l.length=z:=⟨_,rfl⟩
 have HA:=Zds h o w H
 rw[hz] at HA
 cases z
 ·go_enter func151,ntmps151
  go_wp2_with fail
  refine HA.mono ?_
  rintro _ _ ⟨rfl,rfl⟩
  go_wp2
  go_ret2
  exact⟨rfl,rfl⟩
 ·obtain⟨j,q,ho,hj⟩:=Mk hz
  have HT:=Kv h j q w H hj hl
  rw[←ho] at HT
  have HO:=Ab (H.ob hj).1
  clear ho
  go_enter func151,ntmps151
  go_wp2_with fail
  refine HA.mono ?_
  rintro _ _ ⟨rfl,rfl⟩
  go_wp2_with fail
  refine HT.mono ?_
  rintro _ _ ⟨rfl,rfl⟩
  go_wp2_with (first|go_skip|((with_reducible show wpList ..);(refine rd rfl (Ad 153 isAgg153 rfl rfl (Aa HO) rfl) ?_)))
  go_ret2
  exact⟨rfl,rfl⟩
theorem Za0 (h:HP) (o:Int) (w:World) (H:h.Is w) (hl:h.l.length<=65536):Calls prog 128 #[.pointer (some ⟨h.b,0,none⟩), .int .i64 o] w fun e w'=>e= .returned (.int .i64 8)/\w'=w:=by
 go_enter func128,ntmps128
 go_wp2_with fail
 refine(Za6 h o w H hl).mono ?_
 rintro _ _ ⟨rfl,rfl⟩
 go_wp2
 go_ret
 exact⟨rfl,rfl⟩
def shE (n:Nat):Int:=if 1024<n then 6 else 0
theorem Ze1 (A:Option Addr) (n c:Nat) (w:World):Calls prog 126 #[.slice A n c] w fun e w'=>e= .returned (.int .i64 (shE n))/\w'=w:=by
 unfold shE
 by_cases hn:1024<n
 ·have d1:decide ((1024:Int)<(n:Int))=true:=decide_eq_true (by omega)
  rw[if_pos hn]
  go_enter func126,ntmps126
  go_wp2_with (first|go_skip|((with_reducible show wpList ..);(refine rd rfl (Bp 44 40 underlying44 rfl rfl) ?_)))
  go_ret
  exact⟨rfl,rfl⟩
 ·have d1:decide ((1024:Int)<(n:Int))=false:=decide_eq_false (by omega)
  rw[if_neg hn]
  go_enter func126,ntmps126
  go_wp2_with (first|go_skip|((with_reducible show wpList ..);(refine rd rfl (Bp 44 40 underlying44 rfl rfl) ?_)))
  go_ret
  exact⟨rfl,rfl⟩
theorem Zfx {o:Oper} {a:Act} {w:World} {x0 x1 x2 x3 x4 x5:Operand} {e0 e1 e2 e3 e4 e5:Int} (ho:o.op= .buildSlice 159 6 #[(0,x0),(1,x1),(2,x2),(3,x3),(4,x4),(5,x5)]) (h0:a.eval x0= .int .i64 e0) (h1:a.eval x1= .int .i64 e1) (h2:a.eval x2= .int .i64 e2) (h3:a.eval x3= .int .i64 e3) (h4:a.eval x4= .int .i64 e4) (h5:a.eval x5= .int .i64 e5):(execOp a.eval o).run prog w= .ok (.value (.slice (some ⟨w.heap.size,0,none⟩) 6 6)) (w.alloc (Obj.cells (Mr [e0,e1,e2,e3,e4,e5]).toArray 31)):=by
 have e:(Instr.buildSlice 159 6 #[(0, .int .i64 e0),(1, .int .i64 e1),(2, .int .i64 e2),(3, .int .i64 e3),(4, .int .i64 e4),(5, .int .i64 e5)]).run prog w= .ok (.slice (some ⟨w.heap.size,0,none⟩) 6 6) (w.alloc (Obj.cells (Mr [e0,e1,e2,e3,e4,e5]).toArray 31)):=by kernel_rfl
 unfold execOp
 simp only[ho,List.map_toArray,List.map_cons,List.map_nil,h0,h1,h2,h3,h4,h5]
 simp[e]
theorem ZcI (h:HP) (o:Int) (v:VV) (A:Option Addr) (c:Nat) (l:List VV) (w:World) (H:h.Is w) (hl:h.l.length<=65536):Calls prog 127 #[.pointer (some ⟨h.b,0,none⟩), .int .i64 o,v.agg, .slice A l.length c] w fun e w'=>e= .returned (.tuple #[Aq.agg,Ax 8])/\h.To h w w':=by
 have SS:=Ab H.start
 rw[Dg]
 have hp1:=fun (X:World) (hX:h.Is X)=>ZbT h o X hX hl
 go_enter_defers func127,ntmps127
 go_wp2_with (first|go_skip|((with_reducible show wpList ..);first|(refine zB 40 (v.cs) rfl rfl rfl SS ?_;clear SS;intro Xa Ba SS;simp only[nn])|(refine zA 40 (Aq.cs) rfl SS ?_;clear SS;intro Xc Bc SS;simp only[nn])))
 refine(hp1 _ ((Aa SS).hp 0 rfl)).mono ?_
 rintro _ _ ⟨rfl,rfl⟩
 go_wp2_with (first|go_skip|((with_reducible show wpList ..);first|(refine rd rfl (Lo rfl) ?_)|(refine zS (Aq.cs) 2 40 rfl rfl rfl rfl (Gh _) szV SS rfl ?_;clear SS;intro Xz SS;simp only[nn])))
 refine Bl (Gx rwV szV rfl rfl rfl ((Aa SS).hold 2 rfl) rfl) rfl ?_
 exact⟨rfl,HP.To.end H (Aa SS) rfl⟩
theorem Vm (h:HP) (o t:Int) (A:Option Addr) (c:Nat) (l:List VV) (w:World) (H:h.Is w) (hl:h.l.length<=65536):Calls prog 129 #[.pointer (some ⟨h.b,0,none⟩), .int .i64 o, .slice A l.length c, .int .i64 t] w fun e w'=>e= .returned (.tuple #[.int .i64 0,Ax 8])/\w'=w:=by
 have hp1:=Za6 h o w H hl
 go_enter_defers func129,ntmps129
 go_wp2_with fail
 refine hp1.mono ?_
 rintro _ _ ⟨rfl,rfl⟩
 go_wp2
 refine Bl (results_tmp2 rfl _ _ _) rfl ?_
 exact⟨rfl,rfl⟩
theorem call_no (h:HP) (o:Int) (v:VV) (A:Option Addr) (c:Nat) (l:List VV) (w:World) (H:h.Is w) (hl:h.l.length<=65536) (hT:Tabs w) (hR: ∀X,Fr w X h.blocks->Kx X A l) (hz:l.length<=1000000):Calls prog 76 #[.pointer (some ⟨h.b,0,none⟩), .int .i64 o,v.agg, .slice A l.length c] w fun e w'=> ∃k:Int,e= .returned (.tuple #[Aq.agg,Ax k])/\h.To h w w':=by
 have SS:=Ab H.start
 rw[Dg]
 go_enter func76,ntmps76
 go_wp2_with (first|go_skip|((with_reducible show wpList ..);first|(refine zB 40 (v.cs) rfl rfl rfl SS ?_;clear SS;intro Xa Ba SS;simp only[nn])|(refine zA 40 (Aq.cs) rfl SS ?_;clear SS;intro Xc Bc SS;simp only[nn])))
 have hS1:Sy w _ h.blocks [hpO h,Av Ba v.cs,Av Bc Aq.cs]:=(Aa SS).drew
 clear SS
 refine Dx (fun a a' X=> ∃(v15 v21 v28:Value),a'=((((((((((((((((((((a.put (some 11) (.pointer (some ⟨h.b,0,none⟩))).put (some 12) (.int .i64 o)).put (some 13) (.int .i64 (thE o h.l.length))).put (some 14) (.agg (v.cs).toArray)).put (some 15) v15).put (some 16) (.int .i64 (Bm [v]))).put (some 17) (.slice A l.length c)).put (some 18) (.int .i64 (Bm l))).put (some 19) (.pointer (some ⟨h.b,0,none⟩))).put (some 20) (.agg (v.cs).toArray)).put (some 21) v21).put (some 22) (.int .i64 (Ay h.l.length [v]))).put (some 23) (.pointer (some ⟨h.b,0,none⟩))).put (some 24) (.slice A l.length c)).put (some 25) (.int .i64 (Ay h.l.length l))).put (some 26) (.slice A l.length c)).put (some 27) (.int .i64 (shE l.length))).put (some 28) v28).put (some 29) (.int .i64 (orE [thE o h.l.length,Bm [v],Bm l,Ay h.l.length [v],Ay h.l.length l,shE l.length]))).put (some 10) (.int .i64 (orE [thE o h.l.length,Bm [v],Bm l,Ay h.l.length [v],Ay h.l.length l,shE l.length])))/\Sy w X h.blocks [hpO h,Av Ba v.cs,Av Bc Aq.cs]) ?_ ?_
 ·have cu: ∀{X:World} {M:List Ob},Sy w X h.blocks ([hpO h,Av Ba v.cs,Av Bc Aq.cs]++M)->Sy w X h.blocks [hpO h,Av Ba v.cs,Av Bc Aq.cs]:=fun h=>Sy.left h
  refine wp_region_held_drew (P:=prog) (S:=fun X=>Sy w X h.blocks _) (by kernel_rfl) (hS1) (fun hS0=> ?_)
  refine gp 0 (some 11) (.pointer (some ⟨h.b,0,none⟩)) rfl rfl (hS1) ?_
  refine gp 1 (some 12) (.int .i64 o) rfl rfl (hS1) ?_
  refine gq 3 (some 14) (.agg (v.cs).toArray) rfl rfl (fun X hX=>Af (vs:=v.cs) 40 5 rwV szV rfl rfl (hX.hold 1 rfl) rfl rfl) (hS1) ?_
  refine gp 6 (some 17) (.slice A l.length c) rfl rfl (hS1) ?_
  refine gp 8 (some 19) (.pointer (some ⟨h.b,0,none⟩)) rfl rfl (hS1) ?_
  refine gq 9 (some 20) (.agg (v.cs).toArray) rfl rfl (fun X hX=>Af (vs:=v.cs) 40 5 rwV szV rfl rfl (hX.hold 1 rfl) rfl rfl) (hS1) ?_
  refine gp 12 (some 23) (.pointer (some ⟨h.b,0,none⟩)) rfl rfl (hS1) ?_
  refine gp 13 (some 24) (.slice A l.length c) rfl rfl (hS1) ?_
  refine gp 15 (some 26) (.slice A l.length c) rfl rfl (hS1) ?_
  have hq:=hS1
  repeat' first|((with_reducible show wpAnyH ..);(try simp only[nn]);first|refine gr (rs:= [2,4,10]) ?_ (by decide+kernel)|refine gr (rs:= [4,10]) ?_ (by decide+kernel)|refine gr (rs:= [5,10]) ?_ (by decide+kernel)|refine gr (rs:= [7,10]) ?_ (by decide+kernel)|refine gr (rs:= [10]) ?_ (by decide+kernel)|refine gr (rs:= [11]) ?_ (by decide+kernel)|refine gr (rs:= [14]) ?_ (by decide+kernel)|refine gr (rs:= [16]) ?_ (by decide+kernel)|refine gr (rs:= [17]) ?_ (by decide+kernel)|refine gr (rs:= [18]) ?_ (by decide+kernel)|refine gr (rs:= [7]) ?_ (by decide+kernel)|refine gr (rs:= [5]) ?_ (by decide+kernel)|refine gr (rs:= [4]) ?_ (by decide+kernel)|refine gr (rs:= [2,10]) ?_ (by decide+kernel)|refine gr (rs:= [2]) ?_ (by decide+kernel)|refine gr (rs:= [2,4]) ?_ (by decide+kernel)|(refine gp 19 (some 10) (.int .i64 (orE [thE o h.l.length,Bm [v],Bm l,Ay h.l.length [v],Ay h.l.length l,shE l.length])) rfl rfl (cu hq) ?_)|(refine dn ?_;(try simp only[nn]);exact pN ⟨_,_,_,rfl,(cu hq)⟩))|((with_reducible show AllReadyH _ _ _ _ _ _ _ _ _ (2::_));first|refine gcW 2 (some 13) rfl rfl (cu hq) (Gw h o _ (hq.hp 0 rfl)) ?_ ?_|refine gcW 2 (some 13) rfl rfl (hq) (Gw h o _ (hq.hp 0 rfl)) ?_ ?_)|((with_reducible show AllReadyH _ _ _ _ _ _ _ _ _ (4::_));refine Nl 4 (some 15) rfl rfl (Ox rfl rfl) hq (fun _ hZ=>(cu hZ)) (fun _ B4_ _ hq=> ?_) ?_)|((with_reducible show AllReadyH _ _ _ _ _ _ _ _ _ (5::_));first|refine gcB 5 (some 16) rfl rfl hq (Og (some ⟨B4_,0,none⟩) 1 [v] _ (hT.fr hq.fr H.low).1 (Dy (hq.hold 3 rfl)) (by simp)) (fun x=>(cu x)) (fun _ hq=> ?_) ?_|refine gcB 5 (some 16) rfl rfl hq (Og (some ⟨B4_,0,none⟩) 1 [v] _ (hT.fr hq.fr H.low).1 (Dy (hq.hold 4 rfl)) (by simp)) (fun x=>(cu x)) (fun _ hq=> ?_) ?_)|((with_reducible show AllReadyH _ _ _ _ _ _ _ _ _ (7::_));refine gcB 7 (some 18) rfl rfl hq (Og A c l _ (hT.fr hq.fr H.low).1 (hR _ hq.fr) hz) (fun x=>(cu x)) (fun _ hq=> ?_) ?_)|((with_reducible show AllReadyH _ _ _ _ _ _ _ _ _ (10::_));refine Nl 10 (some 21) rfl rfl (Ox rfl rfl) hq (fun _ hZ=>(cu hZ)) (fun _ B10_ _ hq=> ?_) ?_)|((with_reducible show AllReadyH _ _ _ _ _ _ _ _ _ (11::_));first|refine gcB 11 (some 22) rfl rfl hq (Lx h (some ⟨B10_,0,none⟩) 1 [v] _ (hq.hp 0 rfl) (Dy (hq.hold 3 rfl)) (by simp)) (fun x=>(cu x)) (fun _ hq=> ?_) ?_|refine gcB 11 (some 22) rfl rfl hq (Lx h (some ⟨B10_,0,none⟩) 1 [v] _ (hq.hp 0 rfl) (Dy (hq.hold 4 rfl)) (by simp)) (fun x=>(cu x)) (fun _ hq=> ?_) ?_)|((with_reducible show AllReadyH _ _ _ _ _ _ _ _ _ (14::_));refine gcB 14 (some 25) rfl rfl hq (Lx h A c l _ (hq.hp 0 rfl) (hR _ hq.fr) hz) (fun x=>(cu x)) (fun _ hq=> ?_) ?_)|((with_reducible show AllReadyH _ _ _ _ _ _ _ _ _ (16::_));refine gcW 16 (some 27) rfl rfl (cu hq) (Ze1 A l.length c _) ?_ ?_)|((with_reducible show AllReadyH _ _ _ _ _ _ _ _ _ (17::_));refine Nl 17 (some 28) rfl rfl (Zfx rfl rfl rfl rfl rfl rfl rfl) hq (fun _ hZ=>(cu hZ)) (fun _ B17_ _ hq=> ?_) ?_)|((with_reducible show AllReadyH _ _ _ _ _ _ _ _ _ (18::_));refine gcW 18 (some 29) rfl rfl (cu hq) (Mh B17_ 6 [thE o h.l.length,Bm [v],Bm l,Ay h.l.length [v],Ay h.l.length l,shE l.length] _ (hq.hold 5 rfl) (by simp)) ?_ ?_)|exact gn
 ·rintro a' X ⟨v15,v21,v28,rfl,hS9⟩
  simp only[nn]
  have SS:=Ab hS9
  clear hS9
  by_cases hc:orE [thE o h.l.length,Bm [v],Bm l,Ay h.l.length [v],Ay h.l.length l,shE l.length]=0
  ·go_wp2_with (first|go_skip|((with_reducible show wpList ..);first|(refine rd rfl (Lm rfl rfl rfl hc) ?_)|(refine zL (v.cs) 40 5 1 rwV szV rfl rfl SS rfl rfl rfl ?_;simp only[nn])))
   have HC:=ZcI h o v A c l _ ((Aa SS).hp 0 rfl) hl
   rw[Dg] at HC
   refine HC.mono ?_
   rintro _ Y9 ⟨rfl,T9⟩
   replace SS:=Ab ((Aa SS).heap 0 rfl T9)
   clear T9 HC
   rw[Dg]
   go_wp2_with (first|go_skip|((with_reducible show wpList ..);(refine zS (Aq.cs) 2 40 rfl rfl rfl rfl (Gh _) szV SS rfl ?_;clear SS;intro Xy SS;simp only[nn])))
   refine bodyPost_ret (Gx rwV szV rfl rfl rfl ((Aa SS).hold 2 rfl) rfl) rfl ?_
   exact⟨_,rfl,HP.To.end H (Aa SS) rfl⟩
  ·go_wp2_with (first|go_skip|((with_reducible show wpList ..);first|(refine rd rfl (Gy rfl rfl rfl hc) ?_)|(refine rd rfl (Lo rfl) ?_)|(refine zS (Aq.cs) 2 40 rfl rfl rfl rfl (Gh _) szV SS rfl ?_;clear SS;intro Xz SS;simp only[nn])))
   refine bodyPost_ret (Gx rwV szV rfl rfl rfl ((Aa SS).hold 2 rfl) rfl) rfl ?_
   exact⟨_,rfl,HP.To.end H (Aa SS) rfl⟩
theorem ZcL (h:HP) (o t:Int) (A:Option Addr) (c:Nat) (l:List VV) (w:World) (H:h.Is w) (hl:h.l.length<=65536) (hT:Tabs w) (hR: ∀X,Fr w X h.blocks->Kx X A l) (hz:l.length<=1000000):Calls prog 77 #[.pointer (some ⟨h.b,0,none⟩), .int .i64 o, .slice A l.length c, .int .i64 t] w fun e w'=> ∃k:Int,e= .returned (.tuple #[.int .i64 0,Ax k])/\h.To h w w':=by
 have SS:=Ab H.start
 go_enter func77,ntmps77
 go_wp2_with fail
 refine(Gw h o _ ((Aa SS).hp 0 rfl)).mono ?_
 rintro _ _ ⟨rfl,rfl⟩
 go_wp2_with fail
 refine(Gw h t _ ((Aa SS).hp 0 rfl)).mono ?_
 rintro _ _ ⟨rfl,rfl⟩
 go_wp2_with fail
 refine(Og A c l _ (hT.fr (Aa SS).fr H.low).1 (hR _ (Aa SS).fr) hz).mono ?_
 rintro _ Yb ⟨rfl,hYb⟩
 replace SS:=Ab ((Aa SS).on hYb)
 clear hYb
 go_wp2_with fail
 refine(Lx h A c l _ ((Aa SS).hp 0 rfl) (hR _ (Aa SS).fr) hz).mono ?_
 rintro _ Yb ⟨rfl,hYb⟩
 replace SS:=Ab ((Aa SS).on hYb)
 clear hYb
 go_wp2_with fail
 refine(Ze1 A l.length c _).mono ?_
 rintro _ _ ⟨rfl,rfl⟩
 go_wp2_with fail
 refine(Za0 h t _ ((Aa SS).hp 0 rfl) hl).mono ?_
 rintro _ _ ⟨rfl,rfl⟩
 go_wp2_with (first|go_skip|((with_reducible show wpList ..);((refine bsVn (cs:=Mr [thE o h.l.length,thE t h.l.length,Bm l,Ay h.l.length l,shE l.length,8]) (n:=6) (t:=31) (by rfl) (fun w=>Zfx rfl rfl rfl rfl rfl rfl rfl) (Nat.succ_pos _) (Aa SS) ?_);intro X6 B6 S6;replace SS:=Ab S6;clear S6;simp only[nn])))
 refine(Mh B6 6 [thE o h.l.length,thE t h.l.length,Bm l,Ay h.l.length l,shE l.length,8] _ ((Aa SS).hold 1 rfl) (by simp)).mono ?_
 rintro _ _ ⟨rfl,rfl⟩
 replace SS:=Ab (Sy.left (L:= [hpO h]) (M:= [_]) (Aa SS))
 by_cases hc:orE [thE o h.l.length,thE t h.l.length,Bm l,Ay h.l.length l,shE l.length,8]=0
 ·go_wp2_with (go_skip)
  refine(Vm h o t A c l _ ((Aa SS).hp 0 rfl) hl).mono ?_
  rintro _ _ ⟨rfl,rfl⟩
  go_wp2
  go_ret2
  exact⟨_,rfl,HP.To.end H (Aa SS) rfl⟩
 ·go_wp2_with (first|go_skip|((with_reducible show wpList ..);(refine rd rfl (Gy rfl rfl rfl hc) ?_)))
  go_ret2
  exact⟨_,rfl,HP.To.end H (Aa SS) rfl⟩
def AskO (h:HP) (w:World) (e:Ending) (w':World):Prop:= ∃(n:AN) (er:Value),e= .returned (.agg (Di n).toArray)/\n.f=Gc er/\(er= .nilIface∨ ∃k,er=Ax k)/\h.To h w w'
def AskW (h:HP) (M o T:Int) (k:KK) (v r:VV) (d:DD) (A:Option Addr) (c:Nat) (l:List VV) (w:World) (Ba Bb Bc:Nat) (g cg Bf:Nat) (s6:Value) (wq:World):Prop:=(s6= .nilIface∨ ∃k,s6=Ax k)/\Hid (Sy w wq h.blocks [hpO h,Av Ba (Nm M o T k v r d (.slice A l.length c)),Av Bb (Di Bq),Av Bc (Di Bq),Ec w.heap.size 40 5 (.slice (some ⟨g,0,none⟩) (l.length+1) cg) (l.length+1) (l.flatMap VV.cs++ [v7].flatMap VV.cs),Av Bf ([v7].flatMap VV.cs)])
theorem AskW.mk {h:HP} {M o T:Int} {k:KK} {v r:VV} {d:DD} {A:Option Addr} {c:Nat} {l:List VV} {w:World} {Ba Bb Bc g cg Bf:Nat} {s6:Value} {wq:World} (e:s6= .nilIface∨ ∃k,s6=Ax k) (S:Hid (Sy w wq h.blocks [hpO h,Av Ba (Nm M o T k v r d (.slice A l.length c)),Av Bb (Di Bq),Av Bc (Di Bq),Ec w.heap.size 40 5 (.slice (some ⟨g,0,none⟩) (l.length+1) cg) (l.length+1) (l.flatMap VV.cs++ [v7].flatMap VV.cs),Av Bf ([v7].flatMap VV.cs)])):AskW h M o T k v r d A c l w Ba Bb Bc g cg Bf s6 wq:=⟨e,S⟩
theorem oneJ (n:Int): ∀u∈([.int .i64 n]:List Value),u.oneCell'=true:=by simp[Value.oneCell']
theorem szJ:(prog.info? 3).map (·.size)=some 1:=by kernel_rfl
theorem Yq {w X Y:World} {h:HP} {L:List Ob} {base e g c i:Nat} {l:List VV} {v:VV} (S:Sy w X h.blocks (hpO h::L)) (hi:L[i]? =some (Ec base e 5 (.slice (some ⟨g,0,none⟩) (l.length+1) c) (l.length+1) (l.flatMap VV.cs++ [v].flatMap VV.cs))) (k:Fr X Y h.blocks):Kx Y (some ⟨g,0,none⟩) l:=by
 have hr:ReadsG VV.cs 5 X (some ⟨g,0,none⟩) l:=ReadsG.left (m:= [v]) (Zcd (S.get (i+1) hi))
 exact reads_fr hr (fun hg=>S.apart (i:=0) (j:=i+1) rfl hi (by omega) g hg (by simp[Ec,Value.ownBlock])) k
theorem ask_o (h:HP) (M o T:Int) (k:KK) (v r:VV) (d:DD) (A:Option Addr) (c:Nat) (l:List VV) (w:World) (hM:M<1∨11<M) (H:h.Is w) (hl:h.l.length<=65536) (hT:Tabs w) (hz:l.length<=1000000) (hlx: ∀v∈l,v.x<2^64) (hA:A=none->l.length=0/\c=0) (hR: ∀X,Fr w X h.blocks->Kx X A l):Calls prog 31 #[.pointer (some ⟨h.b,0,none⟩), .agg (Nm M o T k v r d (.slice A l.length c)).toArray] w fun e w'=>AskO h w e w':=by
 have SS:=Ab H.start
 have HR:=Ab hR
 clear hR
 go_enter func31,ntmps31
 go_upto_region 3 with (first|go_skip|((with_reducible show wpList ..);first|(refine zB 46 (Nm M o T k v r d (.slice A l.length c)) rfl rfl rfl SS ?_;clear SS;intro Xa Ba SS;simp only[nn])|(refine zA 60 (Di Bq) rfl (show Hid (Sy _ _ _ [_,_]) from SS) ?_;clear SS;intro Xb Bb SS;simp only[nn])|(refine zA 60 (Di Bq) rfl (show Hid (Sy _ _ _ [_,_,_]) from SS) ?_;clear SS;intro Xc Bc SS;simp only[nn])))
 go_cut [7] from 8 to 209 (AskA h M o T k v r d A c l w Ba Bb Bc)
 case first=>
  go_wp2_with (first|go_skip|((with_reducible show wpList ..);first|((refine emS (e:=40) (size:=5) w.heap.size rfl (fun w=>by kernel_rfl) (Aa SS) (Aa SS).fr.size ?_);intro Xd Bd Ld;replace SS:=Ab Ld;clear Ld;simp only[nn])|(refine rd rfl (Ad 44 isAgg44 rfl rfl ((Aa SS).hold 1 rfl) rfl) ?_)|((refine apA0 (news:=l.flatMap VV.cs) 4 rfl rfl rfl underlying44 Zp rfl (Aa SS) rfl hA (Qc VV.cs 5 (fun _=>rfl) l) (ReadsG.src (f:=VV.cs) (fun _=>rfl) (by decide) (Aa HR _ (Aa SS).fr)) (Re l) (Aa SS).fr.size ?_);intro Ae ce Xe Le;replace SS:=Ab Le;clear Le;simp only[nn])|(refine rd rfl (ex_bv7 rfl) ?_)|((refine bsV1 (v:=v7) rfl rfl (Aa SS) ?_);intro Xf Bf Lf;replace SS:=Ab Lf;clear Lf;simp only[nn])|((refine apS 4 5 rfl rfl rfl rfl underlying44 Zp rfl (by decide) (Aa SS) rfl rfl rfl (Re [v7]) (by omega) (by decide) (Aa SS).fr.size ?_);intro Ag cg Xg Lg;replace SS:=Ab Lg;clear Lg;simp only[nn])))
  obtain⟨g,rfl,hcg⟩:=Ze8 (show World.ownsRow _ _ _ 5 (.slice Ag (l.length+1) cg) (l.length+1) _ from (Aa SS).get 4 rfl)
  go_meet
  case rel=>exact AskA.mk g cg Bf rfl hcg SS
 case rest=>
  clear SS
  obtain⟨g,cg,Bf,hs7,hcg,SS⟩:=hcut
  subst hs7
  go_step
  go_step
  go_cut [6] from 8 to 209 (AskW h M o T k v r d A c l w Ba Bb Bc g cg Bf)
  case first=>
   by_cases h12:M=12
   ·as_aux_lemma=>
    subst h12
    go_wp2_with (first|go_skip|((with_reducible show wpList ..);(refine rd rfl (Ad 3 isAgg3 rfl rfl ((Aa SS).hold 1 rfl) rfl) ?_)))
    go_wp2_with fail
    have hS8:Sy w _ h.blocks [hpO h,Av Ba (Nm 12 o T k v r d (.slice A l.length c)),Av Bb (Di Bq),Av Bc (Di Bq),Ec w.heap.size 40 5 (.slice (some ⟨g,0,none⟩) (l.length+1) cg) (l.length+1) (l.flatMap VV.cs++ [v7].flatMap VV.cs),Av Bf ([v7].flatMap VV.cs)]:=(Aa SS).drew
    clear SS
    refine Dx (fun a a' X=> ∃(kt1:Int),a'=((((((((((((((((a.put (some 154) (.pointer (some ⟨h.b,0,none⟩))).put (some 155) (.pointer (some ⟨Ba,1,none⟩))).put (some 156) (.int .i64 o)).put (some 157) (.pointer (some ⟨Ba,5,none⟩))).put (some 158) (.agg (v.cs).toArray)).put (some 159) (.slice (some ⟨g,0,none⟩) (l.length+1) cg)).put (some 160) (.pointer (some ⟨Ba,33,none⟩))).put (some 161) (.slice A l.length c)).put (some 162) (.int .i64 (l.length:Nat))).put (some 163) (.slice (some ⟨g,0,none⟩) l.length cg)).put (some 164) (.tuple #[.agg Aq.cs.toArray,Ax kt1])).put (some 153) (.tuple #[.agg Aq.cs.toArray,Ax kt1])).put (some 165) (.agg Aq.cs.toArray)).put (some 166) (Ax kt1)).put (some 167) (.pointer (some ⟨Bc,0,none⟩))).put (some 6) (Ax kt1))/\Sy w X h.blocks [hpO h,Av Ba (Nm 12 o T k v r d (.slice A l.length c)),Av Bb (Di Bq),Av Bc (Di Bq),Ec w.heap.size 40 5 (.slice (some ⟨g,0,none⟩) (l.length+1) cg) (l.length+1) (l.flatMap VV.cs++ [v7].flatMap VV.cs),Av Bf ([v7].flatMap VV.cs)]) ?_ ?_
    ·refine wp_region_held_drew (P:=prog) (S:=fun X=>Sy w X h.blocks _) (by kernel_rfl) (hS8) (fun hS0=> ?_)
     refine gp 0 (some 154) (.pointer (some ⟨h.b,0,none⟩)) rfl rfl (hS8) ?_
     refine gp 1 (some 155) (.pointer (some ⟨Ba,1,none⟩)) rfl rfl (hS8) ?_
     refine gq 2 (some 156) (.int .i64 o) rfl rfl (fun X hX=>Ad 3 isAgg3 rfl rfl (hX.hold 1 rfl) rfl) (hS8) ?_
     refine gp 3 (some 157) (.pointer (some ⟨Ba,5,none⟩)) rfl rfl (hS8) ?_
     refine gq 4 (some 158) (.agg (v.cs).toArray) rfl rfl (fun X hX=>Af (vs:=v.cs) 40 5 rwV szV rfl rfl (hX.hold 1 rfl) rfl rfl) (hS8) ?_
     refine gp 5 (some 159) (.slice (some ⟨g,0,none⟩) (l.length+1) cg) rfl rfl (hS8) ?_
     refine gp 6 (some 160) (.pointer (some ⟨Ba,33,none⟩)) rfl rfl (hS8) ?_
     refine gq 7 (some 161) (.slice A l.length c) rfl rfl (fun X hX=>Ad 44 isAgg44 rfl rfl (hX.hold 1 rfl) rfl) (hS8) ?_
     refine gq 8 (some 162) (.int .i64 (l.length:Nat)) rfl rfl (fun X hX=>Bp 44 40 underlying44 rfl rfl) (hS8) ?_
     refine gq 9 (some 163) (.slice (some ⟨g,0,none⟩) l.length cg) rfl rfl (fun X hX=>Zcz rfl rfl rfl) (hS8) ?_
     refine gr (rs:= [10]) (gc 10 (some 164) rfl rfl (call_no h o v (some ⟨g,0,none⟩) cg l _ (hS8.hp 0 rfl) hl (hT.fr hS8.fr H.low) (fun X hX=>Yq (i:=3) hS8 rfl hX) hz) ?_ gn)
     rintro e Yt1 ⟨kt1,rfl,Tt1⟩
     have hqt1:=Sy.heap hS8 0 rfl Tt1
     clear Tt1
     refine⟨_,rfl,hqt1, ?_⟩
     refine gp 11 (some 153) (.tuple #[.agg Aq.cs.toArray,Ax kt1]) rfl rfl (hqt1) ?_
     refine gp 12 (some 165) (.agg Aq.cs.toArray) rfl rfl (hqt1) ?_
     refine gp 13 (some 166) (Ax kt1) rfl rfl (hqt1) ?_
     refine gp 14 (some 167) (.pointer (some ⟨Bc,0,none⟩)) rfl rfl (hqt1) ?_
     refine gr (rs:= [15]) (Xt (vs:=Aq.cs) (new:=Di Bq) 15 3 40 rfl rfl rfl rfl rfl rfl (Gh _) szV hqt1 rfl (by simp[Bt,VV.cs,KK.cs,DD.cs,zeroD,Aq,Di,Bq,Ep]) (by simp[Bt,VV.cs,KK.cs,DD.cs,zeroD,Aq,Di,Bq,Ep]) (fun _ hZ=>hZ) ?_ gn)
     intro Yt2 hqt2
     refine gp 16 (some 6) (Ax kt1) rfl rfl (hqt2) ?_
     refine dn ?_
     try simp only[nn]
     exact pN ⟨_,rfl,hqt2⟩
    rintro a' X ⟨kt1,rfl,hS9⟩
    simp only[nn]
    have SS:=Ab hS9
    clear hS9
    go_wp2_with fail
    go_meet
    case rel=>exact AskW.mk (Or.inr ⟨_,rfl⟩) SS
   ·by_cases h13:M=13
    ·as_aux_lemma=>
     subst h13
     go_wp2_with (first|go_skip|((with_reducible show wpList ..);(refine rd rfl (Ad 3 isAgg3 rfl rfl ((Aa SS).hold 1 rfl) rfl) ?_)))
     go_wp2_with fail
     have hS8:Sy w _ h.blocks [hpO h,Av Ba (Nm 13 o T k v r d (.slice A l.length c)),Av Bb (Di Bq),Av Bc (Di Bq),Ec w.heap.size 40 5 (.slice (some ⟨g,0,none⟩) (l.length+1) cg) (l.length+1) (l.flatMap VV.cs++ [v7].flatMap VV.cs),Av Bf ([v7].flatMap VV.cs)]:=(Aa SS).drew
     clear SS
     refine Dx (fun a a' X=> ∃(kt1:Int),a'=((((((((((((((((a.put (some 171) (.pointer (some ⟨h.b,0,none⟩))).put (some 172) (.pointer (some ⟨Ba,1,none⟩))).put (some 173) (.int .i64 o)).put (some 174) (.slice (some ⟨g,0,none⟩) (l.length+1) cg)).put (some 175) (.pointer (some ⟨Ba,33,none⟩))).put (some 176) (.slice A l.length c)).put (some 177) (.int .i64 (l.length:Nat))).put (some 178) (.slice (some ⟨g,0,none⟩) l.length cg)).put (some 179) (.pointer (some ⟨Ba,2,none⟩))).put (some 180) (.int .i64 T)).put (some 181) (.tuple #[.int .i64 0,Ax kt1])).put (some 170) (.tuple #[.int .i64 0,Ax kt1])).put (some 182) (.int .i64 0)).put (some 183) (Ax kt1)).put (some 184) (.pointer (some ⟨Bc,25,none⟩))).put (some 6) (Ax kt1))/\Sy w X h.blocks [hpO h,Av Ba (Nm 13 o T k v r d (.slice A l.length c)),Av Bb (Di Bq),Av Bc (Di Bq),Ec w.heap.size 40 5 (.slice (some ⟨g,0,none⟩) (l.length+1) cg) (l.length+1) (l.flatMap VV.cs++ [v7].flatMap VV.cs),Av Bf ([v7].flatMap VV.cs)]) ?_ ?_
     ·refine wp_region_held_drew (P:=prog) (S:=fun X=>Sy w X h.blocks _) (by kernel_rfl) (hS8) (fun hS0=> ?_)
      refine gp 0 (some 171) (.pointer (some ⟨h.b,0,none⟩)) rfl rfl (hS8) ?_
      refine gp 1 (some 172) (.pointer (some ⟨Ba,1,none⟩)) rfl rfl (hS8) ?_
      refine gq 2 (some 173) (.int .i64 o) rfl rfl (fun X hX=>Ad 3 isAgg3 rfl rfl (hX.hold 1 rfl) rfl) (hS8) ?_
      refine gp 3 (some 174) (.slice (some ⟨g,0,none⟩) (l.length+1) cg) rfl rfl (hS8) ?_
      refine gp 4 (some 175) (.pointer (some ⟨Ba,33,none⟩)) rfl rfl (hS8) ?_
      refine gq 5 (some 176) (.slice A l.length c) rfl rfl (fun X hX=>Ad 44 isAgg44 rfl rfl (hX.hold 1 rfl) rfl) (hS8) ?_
      refine gq 6 (some 177) (.int .i64 (l.length:Nat)) rfl rfl (fun X hX=>Bp 44 40 underlying44 rfl rfl) (hS8) ?_
      refine gq 7 (some 178) (.slice (some ⟨g,0,none⟩) l.length cg) rfl rfl (fun X hX=>Zcz rfl rfl rfl) (hS8) ?_
      refine gp 8 (some 179) (.pointer (some ⟨Ba,2,none⟩)) rfl rfl (hS8) ?_
      refine gq 9 (some 180) (.int .i64 T) rfl rfl (fun X hX=>Ad 3 isAgg3 rfl rfl (hX.hold 1 rfl) rfl) (hS8) ?_
      refine gr (rs:= [10]) (gc 10 (some 181) rfl rfl (ZcL h o T (some ⟨g,0,none⟩) cg l _ (hS8.hp 0 rfl) hl (hT.fr hS8.fr H.low) (fun X hX=>Yq (i:=3) hS8 rfl hX) hz) ?_ gn)
      rintro e Yt1 ⟨kt1,rfl,Tt1⟩
      have hqt1:=Sy.heap hS8 0 rfl Tt1
      clear Tt1
      refine⟨_,rfl,hqt1, ?_⟩
      refine gp 11 (some 170) (.tuple #[.int .i64 0,Ax kt1]) rfl rfl (hqt1) ?_
      refine gp 12 (some 182) (.int .i64 0) rfl rfl (hqt1) ?_
      refine gp 13 (some 183) (Ax kt1) rfl rfl (hqt1) ?_
      refine gp 14 (some 184) (.pointer (some ⟨Bc,25,none⟩)) rfl rfl (hqt1) ?_
      refine gr (rs:= [15]) (Xt (vs:= [.int .i64 0]) (new:=Di Bq) 15 3 3 rfl rfl rfl rfl rfl rfl (oneJ _) szJ hqt1 rfl (by simp[Bt,VV.cs,KK.cs,DD.cs,zeroD,Aq,Di,Bq,Ep]) (by simp[Bt,VV.cs,KK.cs,DD.cs,zeroD,Aq,Di,Bq,Ep]) (fun _ hZ=>hZ) ?_ gn)
      intro Yt2 hqt2
      refine gp 16 (some 6) (Ax kt1) rfl rfl (hqt2) ?_
      refine dn ?_
      try simp only[nn]
      exact pN ⟨_,rfl,hqt2⟩
     rintro a' X ⟨kt1,rfl,hS9⟩
     simp only[nn]
     have SS:=Ab hS9
     clear hS9
     go_wp2_with fail
     go_meet
     case rel=>exact AskW.mk (Or.inr ⟨_,rfl⟩) SS
    ·have e1:decide (M=1)=false:=decide_eq_false (by omega)
     have e2:decide (M=2)=false:=decide_eq_false (by omega)
     have e3:decide (M=3)=false:=decide_eq_false (by omega)
     have e4:decide (M=4)=false:=decide_eq_false (by omega)
     have e5:decide (M=5)=false:=decide_eq_false (by omega)
     have e6:decide (M=6)=false:=decide_eq_false (by omega)
     have e7:decide (M=7)=false:=decide_eq_false (by omega)
     have e8:decide (M=8)=false:=decide_eq_false (by omega)
     have e9:decide (M=9)=false:=decide_eq_false (by omega)
     have e10:decide (M=10)=false:=decide_eq_false (by omega)
     have e11:decide (M=11)=false:=decide_eq_false (by omega)
     have e12:decide (M=12)=false:=decide_eq_false (by omega)
     have e13:decide (M=13)=false:=decide_eq_false (by omega)
     go_wp2_with (first|go_skip|((with_reducible show wpList ..);first|(refine rd rfl (Ad 3 isAgg3 rfl rfl ((Aa SS).hold 1 rfl) rfl) ?_)|(refine rd rfl (En false rfl rfl rfl e1) ?_)|(refine rd rfl (En false rfl rfl rfl e2) ?_)|(refine rd rfl (En false rfl rfl rfl e3) ?_)|(refine rd rfl (En false rfl rfl rfl e4) ?_)|(refine rd rfl (En false rfl rfl rfl e5) ?_)|(refine rd rfl (En false rfl rfl rfl e6) ?_)|(refine rd rfl (En false rfl rfl rfl e7) ?_)|(refine rd rfl (En false rfl rfl rfl e8) ?_)|(refine rd rfl (En false rfl rfl rfl e9) ?_)|(refine rd rfl (En false rfl rfl rfl e10) ?_)|(refine rd rfl (En false rfl rfl rfl e11) ?_)|(refine rd rfl (En false rfl rfl rfl e12) ?_)|(refine rd rfl (En false rfl rfl rfl e13) ?_)))
     go_meet
     case rel=>exact AskW.mk (Or.inl rfl) SS
  case rest=>
   as_aux_lemma=>
   clear SS
   obtain⟨her,SS⟩:=hcut
   obtain⟨er,he7⟩: ∃er,er=u6:=⟨_,rfl⟩
   rw[←he7] at her
   rw[←he7]
   clear he7
   go_wp2_with fail
   refine(Zq er _ her).mono ?_
   rintro _ Yf ⟨rfl,hYf⟩
   replace SS:=Ab ((Aa SS).on hYf)
   clear hYf
   go_wp2_with (first|go_skip|((with_reducible show wpList ..);((refine stS (vs:=Ep (Gc er)) 3 58 (by rfl) rfl rfl rfl rfl (Nv _) szF (Aa SS) rfl (by simp[Bt,VV.cs,KK.cs,DD.cs,zeroD,Aq,Di,Bq,Ep]) ?_);intro Xj Lj hfj hsj;replace SS:=Ab Lj;clear Lj hfj hsj;simp only[nn])))
   have hS32:Sy w _ h.blocks [hpO h,Av Ba (Nm M o T k v r d (.slice A l.length c)),Av Bb (Di Bq),Av Bc (Di {Bq with f:=Gc er}),Ec w.heap.size 40 5 (.slice (some ⟨g,0,none⟩) (l.length+1) cg) (l.length+1) (l.flatMap VV.cs++ [v7].flatMap VV.cs),Av Bf ([v7].flatMap VV.cs)]:=(Aa SS).drew
   clear SS
   refine wp_region_held_drew (P:=prog) (S:=fun X=>Sy w X h.blocks _) (by kernel_rfl) (hS32) (fun hS0=> ?_)
   refine gp 0 (some 188) (.slice (some ⟨g,0,none⟩) (l.length+1) cg) rfl rfl (hS32) ?_
   refine gp 1 (some 189) (.pointer (some ⟨Ba,33,none⟩)) rfl rfl (hS32) ?_
   refine gq 2 (some 190) (.slice A l.length c) rfl rfl (fun X hX=>Ad 44 isAgg44 rfl rfl (hX.hold 1 rfl) rfl) (hS32) ?_
   refine gq 3 (some 191) (.int .i64 (l.length:Nat)) rfl rfl (fun X hX=>Bp 44 40 underlying44 rfl rfl) (hS32) ?_
   refine gq 4 (some 192) (.slice (some ⟨g,0,none⟩) l.length cg) rfl rfl (fun X hX=>Zcz rfl rfl rfl) (hS32) ?_
   refine gp 5 (some 193) (.pointer (some ⟨Ba,33,none⟩)) rfl rfl (hS32) ?_
   refine gq 6 (some 194) (.slice A l.length c) rfl rfl (fun X hX=>Ad 44 isAgg44 rfl rfl (hX.hold 1 rfl) rfl) (hS32) ?_
   refine gr (rs:= [7]) (gcB 7 (some 195) rfl rfl hS32 (ZaT l (some ⟨g,0,none⟩) A cg c _ hlx (ReadsG.left (f:=VV.cs) (Zcd (hS32.get 4 rfl))) (Aa HR _ hS32.fr)) id ?_ gn)
   intro Y1 hq1
   refine gp 8 (some 196) (.bool false) rfl rfl (hq1) ?_
   refine gp 9 (some 197) (.bool false) rfl rfl (hq1) ?_
   refine gp 10 (some 198) (.slice (some ⟨g,0,none⟩) (l.length+1) cg) rfl rfl (hq1) ?_
   refine gp 11 (some 199) (.pointer (some ⟨Ba,33,none⟩)) rfl rfl (hq1) ?_
   refine gq 12 (some 200) (.slice A l.length c) rfl rfl (fun X hX=>Ad 44 isAgg44 rfl rfl (hX.hold 1 rfl) rfl) (hq1) ?_
   refine gq 13 (some 201) (.int .i64 (l.length:Nat)) rfl rfl (fun X hX=>Bp 44 40 underlying44 rfl rfl) (hq1) ?_
   refine gq 14 (some 202) (.pointer (some ⟨g,0+l.length * 5,none⟩)) rfl rfl (fun X hX=>Bw 44 5 l.length Zy ZaF rfl rfl rfl (Nat.lt_succ_self _)) (hq1) ?_
   refine gp 15 (some 203) (.pointer (some ⟨g,0+l.length * 5+4,none⟩)) rfl rfl (hq1) ?_
   refine gq 16 (some 204) (.int .i64 7) rfl rfl (fun X hX=>ZcA 3 4 isAgg3 rfl rfl (Zda (hX.get 4 rfl)) rfl) (hq1) ?_
   refine gq 17 (some 205) (.bool false) rfl rfl (fun X hX=>Mm rfl rfl rfl rfl) (hq1) ?_
   refine gp 18 (some 206) (.bool false) rfl rfl (hq1) ?_
   refine dn ?_
   try simp only[nn]
   have SS:=Ab hq1
   go_wp2_with (first|go_skip|((with_reducible show wpList ..);first|(refine zL (Di {Bq with f:=Gc er}) 60 34 3 rwN szN rfl rfl SS rfl rfl rfl ?_;simp only[nn])|((refine stS (vs:=Di {Bq with f:=Gc er}) 2 60 (by rfl) rfl rfl rfl rfl (Nz _) szN (Aa SS) rfl (by simp[Bt,VV.cs,KK.cs,DD.cs,zeroD,Aq,Di,Bq,Ep]) ?_);intro Xz Lz hfz hsz;replace SS:=Ab Lz;clear Lz hfz hsz;simp only[nn])))
   refine Lt rwN szN rfl rfl rfl ((Aa SS).hold 2 rfl) rfl ?_
   exact⟨{Bq with f:=Gc er},er,rfl,rfl,her,HP.To.end H (Aa SS) rfl⟩
end
section
open Go Go.Proofs Go.Maps Go.RowKit FM
attribute [local go_sem] Al Ak Ar Ah Am Ai Au Dd Db Bi Aj Bh
def ActI (h:HP) (N:Nat) (w:World) (e:Ending) (w':World):Prop:= ∃(h1:HP) (n:AN),e= .returned (.agg (Di n).toArray)/\h1.Gd (N+1)/\h.To h1 w w'/\h1.cap=h.cap/\LtB h h1
theorem act7_o (h:HP) (N:Nat) (t:AT) (w:World) (H:h.Is w) (G:h.Gd N) (hN:N<=90000) (hT:Tabs w) (K:t.Ok) (hW:t.W=0) (hM:t.M<1∨11<t.M) (hR: ∀X,Fr w X h.blocks->t.Reads X):Calls Tryz.prog 12 #[.pointer (some ⟨h.b,0,none⟩), .agg (actC t).toArray] w (ActI h N w):=by
 have SS:=Ab H.start
 have H71:decide (t.W=71)=false:=by rw[hW];rfl
 have H72:decide (t.W=72)=false:=by rw[hW];rfl
 have H0:decide (t.W=0)=true:=by rw[hW];rfl
 clear hW
 go_enter Tryz.func12,Tryz.ntmps12
 go_wp2_with (first|go_skip|((with_reducible show wpList ..);first|(refine zB 56 (actC t) rfl rfl rfl SS ?_;clear SS;intro Xa Ba SS;simp only[nn])|(refine zA 60 (Di Bq) rfl (show Hid (Sy _ _ _ [_,_]) from SS) ?_;clear SS;intro Xb Bb SS;simp only[nn])|(refine zA 60 (Di Bq) rfl (show Hid (Sy _ _ _ [_,_,_]) from SS) ?_;clear SS;intro Xc Bc SS;simp only[nn])|(refine z1 3 Tryz.isAgg3 1 (by rfl) rfl rfl SS rfl rfl ?_;simp only[nn])|(refine zL (Nm t.M t.o t.T t.k t.v t.r t.d (.slice t.A t.l.length t.c)) 46 34 1 rwA szA rfl rfl SS rfl rfl rfl ?_;simp only[nn])|(refine rd rfl (En false rfl rfl rfl H71) ?_)|(refine rd rfl (En false rfl rfl rfl H72) ?_)|(refine rd rfl (En true rfl rfl rfl H0) ?_)))
 have HC:=ask_o h t.M t.o t.T t.k t.v t.r t.d t.A t.c t.l _ hM ((Aa SS).hp 0 rfl) G.wf.ok.len (hT.fr (Aa SS).fr H.low) K.lz K.lx K.la (fun X hX=>(hR X ((Aa SS).fr.trans hX (fun b hb=> .inl hb))).1)
 refine HC.mono ?_
 rintro _ Y1 ⟨n,er,rfl, -, -,T1⟩
 replace SS:=Ab ((Aa SS).heap 0 rfl T1)
 clear T1 HC
 go_wp2_with (first|go_skip|((with_reducible show wpList ..);((refine stS (vs:=Di n) 2 60 (by rfl) rfl rfl rfl rfl (Nz _) szN (Aa SS) rfl (by simp[Bt,VV.cs,KK.cs,DD.cs,zeroD,Aq,Di,Bq,Ep]) ?_);intro Xz Lz hfz hsz;replace SS:=Ab Lz;clear Lz hfz hsz;simp only[nn])))
 refine Lt rwN szN rfl rfl rfl ((Aa SS).hold 2 rfl) rfl ?_
 exact⟨h,n,rfl,G.mono (by omega),HP.To.end H (Aa SS) rfl,rfl,LtB.refl h⟩
theorem act7_i (h:HP) (N:Nat) (t:AT) (w:World) (H:h.Is w) (G:h.Gd N) (hN:N<=90000) (hT:Tabs w) (K:t.Ok) (hW:t.W=71∨t.W=0) (hz:t.ds.length<=N) (hR: ∀X,Fr w X h.blocks->t.Reads X):Calls Tryz.prog 12 #[.pointer (some ⟨h.b,0,none⟩), .agg (actC t).toArray] w (ActI h N w):=by
 by_cases hM:t.W=0/\(t.M<1∨11<t.M)
 ·exact act7_o h N t w H G hN hT K hM.1 hM.2 hR
 ·have HC:Calls Tryz.prog 12 #[.pointer (some ⟨h.b,0,none⟩), .agg (actC t).toArray] w (ActP h N t w):=by
   by_cases h7:t.W=71
   ·exact act7_71 h N t w H G hN hT K h7 hR
   ·exact act7_0 h N t w H G hN hT K (by omega) (by omega) hR
  refine HC.mono ?_
  rintro e w' ⟨h1,n,he,g1,T1,hc, -⟩
  rw[Nat.max_eq_left hz] at g1
  exact⟨h1,n,he,g1,T1,hc.1,hc.2.2.2⟩
end
section
open Go Go.Proofs Go.RowKit Go.WideShapes Go.ChangeShapes Tryz
theorem Jd:prog.cellsOf 3=1:=by kernel_rfl
theorem ZdK:prog.cellsOf 4=1:=by kernel_rfl
theorem Za4:prog.cellsOf 9=1:=by kernel_rfl
theorem ZgG:prog.cellsOf 38=1:=by kernel_rfl
theorem Yj:prog.cellsOf 41=1:=by kernel_rfl
theorem Jp:prog.cellsOf 40=5:=by kernel_rfl
theorem Yk:prog.cellsOf 37=2:=by kernel_rfl
theorem Yi:prog.cellsOf 43=18:=by kernel_rfl
theorem ZbO:prog.cellsOf 80=20:=by kernel_rfl
theorem ZbQ:prog.cellsOf 46=34:=by kernel_rfl
theorem ZbP:prog.cellsOf 56=59:=by kernel_rfl
theorem ZgH:prog.cellsOf 24=4:=by kernel_rfl
theorem ZgI:prog.cellsOf 22=1:=by kernel_rfl
theorem ZbR:prog.cellsOf 44=1:=by kernel_rfl
theorem ZgD:prog.cellsOf 49=1:=by kernel_rfl
theorem ZgF:prog.cellsOf 47=1:=by kernel_rfl
theorem ZgE:prog.cellsOf 48=1:=by kernel_rfl
theorem ZgC:prog.cellsOf 50=1:=by kernel_rfl
theorem ZgB:prog.cellsOf 51=1:=by kernel_rfl
theorem ZgA:prog.cellsOf 52=3:=by kernel_rfl
theorem Zgz:prog.cellsOf 53=1:=by kernel_rfl
theorem Zgy:prog.cellsOf 54=1:=by kernel_rfl
theorem Bo {H:Type}: ∀d:DataW H,1<=Rows.uptoBulk d:=by
 intro d
 cases d with
 |lit l=>cases l<;>simp[Rows.uptoBulk]
 |_=>simp[Rows.uptoBulk]
theorem Yr {H:Type} {d:DataW H}: ∀{l:List (DataW H)},d∈l->Rows.uptoBulk d<=Rows.uptoBulkAll l
 |a::l,h=>by
  rw[Rows.uptoBulkAll]
  rcases List.mem_cons.1 h with rfl|h
  ·omega
  ·have:=Yr h
   omega
theorem Ys {H:Type} {k:Nat}: ∀{l:List (DataW H)},(∀d∈l,k<=Rows.uptoBulk d)->k * l.length<=Rows.uptoBulkAll l
 | [],_=>by simp
 |a::l,h=>by
  rw[Rows.uptoBulkAll,List.length_cons,Nat.mul_succ]
  have h1:=h a (List.mem_cons_self ..)
  have h2:=Ys (fun d hd=>h d (List.mem_cons_of_mem a hd))
  omega
section
variable {H:Type} {enc:TypeId×Value->H} {P:Program} {W:World} {base:Nat} {sp:Nat->Bool} {held:Bool} {m:Nat} {c:Value} {x:DataW H×List MemPlace} {t:TypeId}
theorem ZbS (hu:P.underlying t=some .bool) (h:DataW.trod enc P W base sp held m t [c]=some x): ∃b,c= .bool b:=by
 cases m with
 |zero=>simp[DataW.trod] at h
 |succ m=>
  unfold DataW.trod at h
  rw[hu] at h
  split at h<;>simp_all
theorem ZeN (hu:P.underlying t=some (.float .f64)) (h:DataW.trod enc P W base sp held m t [c]=some x): ∃b,c= .float .f64 b/\b<2^64:=by
 cases m with
 |zero=>simp[DataW.trod] at h
 |succ m=>
  unfold DataW.trod at h
  rw[hu] at h
  split at h<;>simp_all
  rename_i e
  subst e
  have h1:=h.1.2
  unfold Lit.wf at h1
  exact of_decide_eq_true h1
theorem Qk (hu:P.underlying t=some .string) (h:DataW.trod enc P W base sp held m t [c]=some x): ∃s,c= .string s/\s.size<=maxLen:=by
 cases m with
 |zero=>simp[DataW.trod] at h
 |succ m=>
  unfold DataW.trod at h
  rw[hu] at h
  split at h<;>simp_all
theorem Ei (hu:P.underlying t=some (.int .i64)) (h:DataW.trod enc P W base sp held m t [c]=some x): ∃n,c= .int .i64 n/\(Lit.int .i64 n).wf=true:=by
 cases m with
 |zero=>simp[DataW.trod] at h
 |succ m=>
  unfold DataW.trod at h
  rw[hu] at h
  split at h<;>simp_all
theorem Jz {e:TypeId} (hu:P.underlying t=some (.slice e)) (h:DataW.trod enc P W base sp held m t [c]=some x):c.oneCell'=true:=by
 rcases Go.Deep.open_slice hu h with ⟨hcs, -⟩|⟨a,len,cap,m',k,D,Pl,hcs, -⟩
 ·obtain rfl:=List.singleton_inj.1 hcs;rfl
 ·obtain rfl:=List.singleton_inj.1 hcs;rfl
end
theorem Zfn {n:Int} (h:(Lit.int .i64 n).wf=true):n<=9223372036854775807:=by
 have h2:(decide (IntKind.i64.min<=n) && decide (n<=IntKind.i64.max))=true:=h
 rw[Bool.and_eq_true] at h2
 exact of_decide_eq_true h2.2
theorem ZcN {H:Type} {enc:TypeId×Value->H} {W:World} {sp:Nat->Bool} {held:Bool} {m:Nat} {x:DataW H×List MemPlace} {t:TypeId} {f0 f1 f2 f3 f4:Field} {cs:List Value} (hs:prog.underlying t=some (.struct #[f0,f1,f2,f3,f4])) (hC:prog.cellsOf t=5) (o0:f0.offset=0) (o1:f1.offset=1) (o2:f2.offset=2) (o3:f3.offset=3) (o4:f4.offset=4) (t0:f0.type=3) (t1:f1.type=4) (t2:f2.type=38) (t3:f3.type=9) (t4:f4.type=3) (h:DataW.trod enc prog W 0 sp held m t cs=some x):(∃u:VV,cs=u.cs/\u.x<2^64)/\6<=Rows.uptoBulk x.1:=by
 obtain⟨xs,n,_,hx,hl,hlen,hf⟩:=DataW.trod_struct hs h
 rw[hC] at hl
 have hlen2:xs.length=5:=hlen
 clear h hlen
 have h0:=hf 0 f0 rfl
 have h1:=hf 1 f1 rfl
 have h2:=hf 2 f2 rfl
 have h3:=hf 3 f3 rfl
 have h4:=hf 4 f4 rfl
 clear hf
 match xs,hlen2 with
 | [y0,y1,y2,y3,y4],_=>
  match cs,hl with
  |c0::c1::c2::c3::c4:: [],_=>
   rw[t0,o0,Jd] at h0
   rw[t1,o1,ZdK] at h1
   rw[t2,o2,ZgG] at h2
   rw[t3,o3,Za4] at h3
   rw[t4,o4,Jd] at h4
   replace h0:DataW.trod enc prog W 0 sp held n 3 (c0:: [])=some y0:=h0
   replace h1:DataW.trod enc prog W 0 sp held n 4 (c1:: [])=some y1:=h1
   replace h2:DataW.trod enc prog W 0 sp held n 38 (c2:: [])=some y2:=h2
   replace h3:DataW.trod enc prog W 0 sp held n 9 (c3:: [])=some y3:=h3
   replace h4:DataW.trod enc prog W 0 sp held n 3 (c4:: [])=some y4:=h4
   subst hx
   have hbk:Rows.uptoBulk (H:=H) (.agg [y0.1,y1.1,y2.1,y3.1,y4.1])=Rows.uptoBulk y0.1+Rows.uptoBulk y1.1+Rows.uptoBulk y2.1+Rows.uptoBulk y3.1+Rows.uptoBulk y4.1+1:=by simp only[Rows.uptoBulk,Rows.uptoBulkAll];omega
   have p0:=Bo y0.1
   have p1:=Bo y1.1
   have p2:=Bo y2.1
   have p3:=Bo y3.1
   have p4:=Bo y4.1
   simp only[List.map_cons,List.map_nil]
   rw[hbk]
   obtain⟨k,rfl, -⟩:=Ei underlying3 h0
   obtain⟨b,rfl⟩:=ZbS underlying4 h1
   obtain⟨f,rfl,wf⟩:=ZeN underlying38 h2
   obtain⟨s,rfl, -⟩:=Qk underlying9 h3
   obtain⟨i,rfl, -⟩:=Ei underlying3 h4
   exact⟨⟨⟨k,b,f,s,i⟩,rfl,wf⟩,by omega⟩
theorem Gv {H:Type} {enc:TypeId×Value->H} {W:World} {sp:Nat->Bool} {held:Bool} {m:Nat} {x:DataW H×List MemPlace} {cs:List Value} (h:DataW.trod enc prog W 0 sp held m 40 cs=some x):(∃u:VV,cs=u.cs/\u.x<2^64)/\6<=Rows.uptoBulk x.1:=ZcN underlying40 Jp rfl rfl rfl rfl rfl rfl rfl rfl rfl rfl h
theorem ZeK {H:Type} {enc:TypeId×Value->H} {W:World} {sp:Nat->Bool} {held:Bool} {m:Nat} {x:DataW H×List MemPlace} {t:TypeId} {f0 f1:Field} {cs:List Value} (hs:prog.underlying t=some (.struct #[f0,f1])) (hC:prog.cellsOf t=2) (o0:f0.offset=0) (o1:f1.offset=1) (t0:f0.type=9) (t1:f1.type=3) (h:DataW.trod enc prog W 0 sp held m t cs=some x):(∃u:KK,cs=u.cs/\OkK u)/\3<=Rows.uptoBulk x.1:=by
 obtain⟨xs,n,_,hx,hl,hlen,hf⟩:=DataW.trod_struct hs h
 rw[hC] at hl
 have hlen2:xs.length=2:=hlen
 clear h hlen
 have h0:=hf 0 f0 rfl
 have h1:=hf 1 f1 rfl
 clear hf
 match xs,hlen2 with
 | [y0,y1],_=>
  match cs,hl with
  |c0::c1:: [],_=>
   rw[t0,o0,Za4] at h0
   rw[t1,o1,Jd] at h1
   replace h0:DataW.trod enc prog W 0 sp held n 9 (c0:: [])=some y0:=h0
   replace h1:DataW.trod enc prog W 0 sp held n 3 (c1:: [])=some y1:=h1
   subst hx
   have hbk:Rows.uptoBulk (H:=H) (.agg [y0.1,y1.1])=Rows.uptoBulk y0.1+Rows.uptoBulk y1.1+1:=by simp only[Rows.uptoBulk,Rows.uptoBulkAll];omega
   have p0:=Bo y0.1
   have p1:=Bo y1.1
   simp only[List.map_cons,List.map_nil]
   rw[hbk]
   obtain⟨s,rfl,hs1⟩:=Qk underlying9 h0
   obtain⟨n,rfl,hn1⟩:=Ei underlying3 h1
   exact⟨⟨⟨s,n⟩,rfl,hs1,hn1⟩,by omega⟩
theorem ZbN {H:Type} {enc:TypeId×Value->H} {W:World} {sp:Nat->Bool} {held:Bool} {m:Nat} {x:DataW H×List MemPlace} {cs:List Value} (h:DataW.trod enc prog W 0 sp held m 37 cs=some x):(∃u:KK,cs=u.cs/\OkK u)/\3<=Rows.uptoBulk x.1:=ZeK underlying37 Yk rfl rfl rfl rfl h
theorem ZdJ {H:Type} {enc:TypeId×Value->H} {W:World} {sp:Nat->Bool} {held:Bool} {m:Nat} {x:DataW H×List MemPlace} {t:TypeId} {f0 f1 f2 f3 f4 f5:Field} {cs:List Value} (hs:prog.underlying t=some (.struct #[f0,f1,f2,f3,f4,f5])) (hC:prog.cellsOf t=18) (o0:f0.offset=0) (o1:f1.offset=5) (o2:f2.offset=10) (o3:f3.offset=15) (o4:f4.offset=16) (o5:f5.offset=17) (t0:f0.type=40) (t1:f1.type=40) (t2:f2.type=40) (t3:f3.type=41) (t4:f4.type=41) (t5:f5.type=41) (h:DataW.trod enc prog W 0 sp held m t cs=some x):(∃u:DD,cs=u.cs/\FD u)/\22<=Rows.uptoBulk x.1:=by
 obtain⟨xs,n,_,hx,hl,hlen,hf⟩:=DataW.trod_struct hs h
 rw[hC] at hl
 have hlen2:xs.length=6:=hlen
 clear h hlen
 have h0:=hf 0 f0 rfl
 have h1:=hf 1 f1 rfl
 have h2:=hf 2 f2 rfl
 have h3:=hf 3 f3 rfl
 have h4:=hf 4 f4 rfl
 have h5:=hf 5 f5 rfl
 clear hf
 match xs,hlen2 with
 | [y0,y1,y2,y3,y4,y5],_=>
  match cs,hl with
  |c0::c1::c2::c3::c4::c5::c6::c7::c8::c9::c10::c11::c12::c13::c14::c15::c16::c17:: [],_=>
   rw[t0,o0,Jp] at h0
   rw[t1,o1,Jp] at h1
   rw[t2,o2,Jp] at h2
   rw[t3,o3,Yj] at h3
   rw[t4,o4,Yj] at h4
   rw[t5,o5,Yj] at h5
   replace h0:DataW.trod enc prog W 0 sp held n 40 (c0::c1::c2::c3::c4:: [])=some y0:=h0
   replace h1:DataW.trod enc prog W 0 sp held n 40 (c5::c6::c7::c8::c9:: [])=some y1:=h1
   replace h2:DataW.trod enc prog W 0 sp held n 40 (c10::c11::c12::c13::c14:: [])=some y2:=h2
   replace h3:DataW.trod enc prog W 0 sp held n 41 (c15:: [])=some y3:=h3
   replace h4:DataW.trod enc prog W 0 sp held n 41 (c16:: [])=some y4:=h4
   replace h5:DataW.trod enc prog W 0 sp held n 41 (c17:: [])=some y5:=h5
   subst hx
   have hbk:Rows.uptoBulk (H:=H) (.agg [y0.1,y1.1,y2.1,y3.1,y4.1,y5.1])=Rows.uptoBulk y0.1+Rows.uptoBulk y1.1+Rows.uptoBulk y2.1+Rows.uptoBulk y3.1+Rows.uptoBulk y4.1+Rows.uptoBulk y5.1+1:=by simp only[Rows.uptoBulk,Rows.uptoBulkAll];omega
   have p0:=Bo y0.1
   have p1:=Bo y1.1
   have p2:=Bo y2.1
   have p3:=Bo y3.1
   have p4:=Bo y4.1
   have p5:=Bo y5.1
   simp only[List.map_cons,List.map_nil]
   rw[hbk]
   obtain⟨⟨v,q0,x0⟩,bb0⟩:=Gv h0
   simp only[VV.cs,List.cons.injEq] at q0
   obtain⟨rfl,rfl,rfl,rfl,rfl, -⟩:=q0
   obtain⟨⟨g,q1,x1⟩,bb1⟩:=Gv h1
   simp only[VV.cs,List.cons.injEq] at q1
   obtain⟨rfl,rfl,rfl,rfl,rfl, -⟩:=q1
   obtain⟨⟨s,q2,x2⟩,bb2⟩:=Gv h2
   simp only[VV.cs,List.cons.injEq] at q2
   obtain⟨rfl,rfl,rfl,rfl,rfl, -⟩:=q2
   obtain⟨a,rfl, -⟩:=Ei underlying41 h3
   obtain⟨e,rfl, -⟩:=Ei underlying41 h4
   obtain⟨c,rfl, -⟩:=Ei underlying41 h5
   exact⟨⟨⟨v,g,s,a,e,c⟩,rfl,x0,x1,x2⟩,by omega⟩
theorem Za3 {H:Type} {enc:TypeId×Value->H} {W:World} {sp:Nat->Bool} {held:Bool} {m:Nat} {x:DataW H×List MemPlace} {cs:List Value} (h:DataW.trod enc prog W 0 sp held m 43 cs=some x):(∃u:DD,cs=u.cs/\FD u)/\22<=Rows.uptoBulk x.1:=ZdJ underlying43 Yi rfl rfl rfl rfl rfl rfl rfl rfl rfl rfl rfl rfl h
theorem ZdI {H:Type} {enc:TypeId×Value->H} {W:World} {sp:Nat->Bool} {held:Bool} {m:Nat} {x:DataW H×List MemPlace} {t:TypeId} {f0 f1:Field} {cs:List Value} (hs:prog.underlying t=some (.struct #[f0,f1])) (hC:prog.cellsOf t=20) (o0:f0.offset=0) (o1:f1.offset=2) (t0:f0.type=37) (t1:f1.type=43) (h:DataW.trod enc prog W 0 sp held m t cs=some x):(∃u:KK×DD,(FD u.2/\OkK u.1)/\cs=prC u)/\26<=Rows.uptoBulk x.1:=by
 obtain⟨xs,n,_,hx,hl,hlen,hf⟩:=DataW.trod_struct hs h
 rw[hC] at hl
 have hlen2:xs.length=2:=hlen
 clear h hlen
 have h0:=hf 0 f0 rfl
 have h1:=hf 1 f1 rfl
 clear hf
 match xs,hlen2 with
 | [y0,y1],_=>
  match cs,hl with
  |c0::c1::c2::c3::c4::c5::c6::c7::c8::c9::c10::c11::c12::c13::c14::c15::c16::c17::c18::c19:: [],_=>
   rw[t0,o0,Yk] at h0
   rw[t1,o1,Yi] at h1
   replace h0:DataW.trod enc prog W 0 sp held n 37 (c0::c1:: [])=some y0:=h0
   replace h1:DataW.trod enc prog W 0 sp held n 43 (c2::c3::c4::c5::c6::c7::c8::c9::c10::c11::c12::c13::c14::c15::c16::c17::c18::c19:: [])=some y1:=h1
   subst hx
   have hbk:Rows.uptoBulk (H:=H) (.agg [y0.1,y1.1])=Rows.uptoBulk y0.1+Rows.uptoBulk y1.1+1:=by simp only[Rows.uptoBulk,Rows.uptoBulkAll];omega
   have p0:=Bo y0.1
   have p1:=Bo y1.1
   simp only[List.map_cons,List.map_nil]
   rw[hbk]
   obtain⟨⟨k,q0,k1⟩,bb0⟩:=ZbN h0
   obtain⟨⟨d,q1,d1⟩,bb1⟩:=Za3 h1
   refine⟨⟨(k,d),⟨d1,k1⟩, ?_⟩,by omega⟩
   show [c0,c1,c2,c3,c4,c5,c6,c7,c8,c9,c10,c11,c12,c13,c14,c15,c16,c17,c18,c19]=k.cs++d.cs
   rw[←q0,←q1]
   rfl
theorem ZeJ {H:Type} {enc:TypeId×Value->H} {W:World} {sp:Nat->Bool} {held:Bool} {m:Nat} {x:DataW H×List MemPlace} {cs:List Value} (h:DataW.trod enc prog W 0 sp held m 80 cs=some x):(∃u:KK×DD,(FD u.2/\OkK u.1)/\cs=prC u)/\26<=Rows.uptoBulk x.1:=ZdI underlying80 ZbO rfl rfl rfl rfl h
theorem Zbz (b o i:Nat):(Addr.add ⟨b,o,none⟩ i)=⟨b,o+i,none⟩:=by
 unfold Addr.add
 by_cases h:i=0
 ·subst h;simp
 ·simp[h]
theorem ZfW {w:World} {b o:Nat} {sp:Option Nat} {v:Value} (h:w.cell? ⟨b,o,sp⟩=some v):sp=none/\b<w.heap.size:=by
 constructor
 ·cases sp with
  |none=>rfl
  |some s=>
   simp only[World.cell?] at h
   split at h<;>simp at h
 ·rcases Nat.lt_or_ge b w.heap.size with h'|h'
  ·exact h'
  ·simp[World.cell?,Array.getElem?_eq_none h'] at h
theorem rows_of {α:Type} {f:α->List Value} {k:Nat} (hk: ∀a,(f a).length=k) (h0:0<k) {Pr:α->Prop} {W:World} {a:Addr} {n:Nat} (each: ∀i,i<n-> ∃u:α,Pr u/\W.cells? 0 (a.add (i * k)) k=some (f u)):
  ∃l:List α,l.length=n/\ ∀(j:Nat) (u:α),l[j]? =some u->Pr u/\ ∃b off,a=⟨b,off,none⟩/\b<W.heap.size/\W.rangeAt b (off+j * k) (f u):=by
 have mk: ∀q,q<=n-> ∃l:List α,l.length=q/\ ∀(i:Nat) (u:α),l[i]? =some u->Pr u/\W.cells? 0 (a.add (i * k)) k=some (f u):=by
  intro q
  induction q with
  |zero=>exact fun _=>⟨[],rfl,fun i u hu=>by simp at hu⟩
  |succ q ih=>
   intro hq
   obtain⟨l,hl,hl2⟩:=ih (by omega)
   obtain⟨u,hu2⟩:=each q (by omega)
   refine⟨l++ [u],by simp[hl],fun i u' hu'=> ?_⟩
   rcases Nat.lt_or_ge i l.length with h1|h1
   ·rw[List.getElem?_append_left h1] at hu'
    exact hl2 i u' hu'
   ·rw[List.getElem?_append_right h1] at hu'
    have h3:=(List.getElem?_eq_some_iff.1 hu').1
    have h4:i=q:=by simp at h3;omega
    subst h4
    rw[hl,Nat.sub_self] at hu'
    obtain rfl:u=u':=by simpa using hu'
    exact hu2
 obtain⟨l,hll,hlc⟩:=mk n (Nat.le_refl _)
 refine⟨l,hll,fun j u hu=>⟨(hlc j u hu).1, ?_⟩⟩
 have h1:=(World.cells?_some (hlc j u hu).2).2.2
 obtain⟨b,off,sp⟩:=a
 have hl0:0<l.length:=Nat.lt_of_le_of_lt (Nat.zero_le _) (List.getElem?_eq_some_iff.1 hu).1
 have h00:=(World.cells?_some (hlc 0 l[0] (List.getElem?_eq_getElem hl0)).2).2.2 0 h0
 have e0:(Addr.add (Addr.add ⟨b,off,sp⟩ (0 * k)) 0)=⟨b,off,sp⟩:=by simp[Addr.add]
 have hlen:0<(f l[0]).length:=by rw[hk];exact h0
 rw[e0,List.getElem?_eq_getElem hlen] at h00
 obtain⟨rfl,hb⟩:=ZfW h00
 refine⟨b,off,rfl,hb,fun t v hv=> ?_⟩
 have ht:t<k:=by
  have:=(List.getElem?_eq_some_iff.1 hv).1
  rwa [hk] at this
 have h2:=h1 t ht
 rw[Zbz,Zbz] at h2
 rw[h2]
 exact hv
theorem Zei {H:Type} {enc:TypeId×Value->H} {W:World} {sp:Nat->Bool} {held:Bool} {m:Nat} {x:DataW H×List MemPlace} {α:Type} {f:α->List Value} {k kb B:Nat} (hk: ∀a,(f a).length=k)  {Pr:α->Prop} {t e:TypeId} (ht:prog.underlying t=some (.slice e)) (hce:prog.cellsOf e=k)
  (each: ∀(n:Nat) (cs:List Value) (y:DataW H×List MemPlace),DataW.trod enc prog W 0 sp held n e cs=some y->Rows.uptoBulk y.1<=B->(∃u:α,Pr u/\cs=f u)/\kb<=Rows.uptoBulk y.1)
  {c:Value} (h:DataW.trod enc prog W 0 sp held m t [c]=some x)  (h0:0<k:=by omega) (hB:Rows.uptoBulk x.1<=B:=by omega):
  ∃(A:Option Addr) (cap:Nat) (l:List α),c= .slice A l.length cap/\(A=none->l.length=0/\cap=0)/\ReadsG f k W A l/\(∀u∈l,Pr u)/\kb * l.length<=Rows.uptoBulk x.1:=by
 rcases Go.Deep.open_slice ht h with ⟨hcs,hx⟩|⟨a,len,cap,m',k',D,Pl,hcs, -,hl,hm,hme,hx,hel⟩
 ·obtain rfl:=List.singleton_inj.1 hcs
  exact⟨none,0, [],rfl,fun _=>⟨rfl,rfl⟩,fun j u hj=>by simp at hj,fun u hu=>by simp at hu,by simp⟩
 ·obtain rfl:=List.singleton_inj.1 hcs
  subst hx
  have hlm:len<=m':=by rw[hme];split<;>omega
  have hbs:Rows.uptoBulkAll ((List.range len).map D)+1<=Rows.uptoBulk (H:=H) (.slice ((List.range len).map D) ((List.range (m' - len)).map fun j=>D (len+j))):=by
   rw[Rows.uptoBulk]
   omega
  have hB2:Rows.uptoBulk (H:=H) (.slice ((List.range len).map D) ((List.range (m' - len)).map fun j=>D (len+j)))<=B:=hB
  have hbi: ∀i,i<len->Rows.uptoBulk (D i)<=B:=fun i hi=>by
   have:=Yr (List.mem_map_of_mem (f:=D) (List.mem_range.2 hi))
   omega
  rw[hce] at hel
  have each': ∀i,i<len-> ∃u:α,Pr u/\W.cells? 0 (a.add (i * k)) k=some (f u):=fun i hi=>by
   obtain⟨cs',h1,h2⟩:=hel i (by omega)
   obtain⟨⟨u,hu,rfl⟩, -⟩:=each _ _ _ h2 (hbi i hi)
   exact⟨u,hu,h1⟩
  obtain⟨l,hll,hl2⟩:=rows_of hk h0 each'
  refine⟨some a,cap,l,by rw[hll],(fun h=>by cases h),fun j u hj=> ?_,fun u hu=> ?_, ?_⟩
  ·obtain⟨-,b,off,rfl,hb,hr⟩:=hl2 j u hj
   exact⟨b,off,rfl,hb,hr⟩
  ·obtain⟨j,hj⟩:=List.getElem?_of_mem hu
   exact(hl2 j u hj).1
  ·have h9:kb * ((List.range len).map D).length<=Rows.uptoBulkAll ((List.range len).map D):=Ys (fun d hd=>by
    obtain⟨i,hi,rfl⟩:=List.mem_map.1 hd
    obtain⟨cs', -,h2⟩:=hel i (by have:=List.mem_range.1 hi;omega)
    exact(each _ _ _ h2 (hbi i (List.mem_range.1 hi))).2)
   rw[List.length_map,List.length_range] at h9
   rw[hll]
   show kb * len<=Rows.uptoBulk (H:=H) (.slice _ _)
   omega
structure AKR where
 M:Int
 o:Int
 T:Int
 k:KK
 v:VV
 r:VV
 d:DD
 A:Option Addr
 c:Nat
 l:List VV
def AKR.cs (a:AKR):List Value:=Nm a.M a.o a.T a.k a.v a.r a.d (.slice a.A a.l.length a.c)
def AKR.Ok (a:AKR) (W:World):Prop:=OkK a.k/\a.v.x<2^64/\a.r.x<2^64/\FD a.d/\a.l.length<=1000000/\(∀v∈a.l,v.x<2^64)/\(a.A=none->a.l.length=0/\a.c=0)/\Kx W a.A a.l
theorem ZeL {H:Type} {enc:TypeId×Value->H} {W:World} {sp:Nat->Bool} {held:Bool} {m:Nat} {x:DataW H×List MemPlace} {t:TypeId} {f0 f1 f2 f3 f4 f5 f6 f7:Field} {cs:List Value} (hs:prog.underlying t=some (.struct #[f0,f1,f2,f3,f4,f5,f6,f7])) (hC:prog.cellsOf t=34) (o0:f0.offset=0) (o1:f1.offset=1) (o2:f2.offset=2) (o3:f3.offset=3) (o4:f4.offset=5) (o5:f5.offset=10) (o6:f6.offset=15) (o7:f7.offset=33) (t0:f0.type=3) (t1:f1.type=3) (t2:f2.type=3) (t3:f3.type=37) (t4:f4.type=40) (t5:f5.type=40) (t6:f6.type=43) (t7:f7.type=44) (hB:Rows.uptoBulk x.1<=1048576) (h:DataW.trod enc prog W 0 sp held m t cs=some x): ∃u:AKR,cs=u.cs/\u.Ok W:=by
 obtain⟨xs,n,_,hx,hl,hlen,hf⟩:=DataW.trod_struct hs h
 rw[hC] at hl
 have hlen2:xs.length=8:=hlen
 clear h hlen
 have h0:=hf 0 f0 rfl
 have h1:=hf 1 f1 rfl
 have h2:=hf 2 f2 rfl
 have h3:=hf 3 f3 rfl
 have h4:=hf 4 f4 rfl
 have h5:=hf 5 f5 rfl
 have h6:=hf 6 f6 rfl
 have h7:=hf 7 f7 rfl
 clear hf
 match xs,hlen2 with
 | [y0,y1,y2,y3,y4,y5,y6,y7],_=>
  match cs,hl with
  |c0::c1::c2::c3::c4::c5::c6::c7::c8::c9::c10::c11::c12::c13::c14::c15::c16::c17::c18::c19::c20::c21::c22::c23::c24::c25::c26::c27::c28::c29::c30::c31::c32::c33:: [],_=>
   rw[t0,o0,Jd] at h0
   rw[t1,o1,Jd] at h1
   rw[t2,o2,Jd] at h2
   rw[t3,o3,Yk] at h3
   rw[t4,o4,Jp] at h4
   rw[t5,o5,Jp] at h5
   rw[t6,o6,Yi] at h6
   rw[t7,o7,ZbR] at h7
   replace h0:DataW.trod enc prog W 0 sp held n 3 (c0:: [])=some y0:=h0
   replace h1:DataW.trod enc prog W 0 sp held n 3 (c1:: [])=some y1:=h1
   replace h2:DataW.trod enc prog W 0 sp held n 3 (c2:: [])=some y2:=h2
   replace h3:DataW.trod enc prog W 0 sp held n 37 (c3::c4:: [])=some y3:=h3
   replace h4:DataW.trod enc prog W 0 sp held n 40 (c5::c6::c7::c8::c9:: [])=some y4:=h4
   replace h5:DataW.trod enc prog W 0 sp held n 40 (c10::c11::c12::c13::c14:: [])=some y5:=h5
   replace h6:DataW.trod enc prog W 0 sp held n 43 (c15::c16::c17::c18::c19::c20::c21::c22::c23::c24::c25::c26::c27::c28::c29::c30::c31::c32:: [])=some y6:=h6
   replace h7:DataW.trod enc prog W 0 sp held n 44 (c33:: [])=some y7:=h7
   subst hx
   have hbk:Rows.uptoBulk (H:=H) (.agg [y0.1,y1.1,y2.1,y3.1,y4.1,y5.1,y6.1,y7.1])=Rows.uptoBulk y0.1+Rows.uptoBulk y1.1+Rows.uptoBulk y2.1+Rows.uptoBulk y3.1+Rows.uptoBulk y4.1+Rows.uptoBulk y5.1+Rows.uptoBulk y6.1+Rows.uptoBulk y7.1+1:=by simp only[Rows.uptoBulk,Rows.uptoBulkAll];omega
   have p0:=Bo y0.1
   have p1:=Bo y1.1
   have p2:=Bo y2.1
   have p3:=Bo y3.1
   have p4:=Bo y4.1
   have p5:=Bo y5.1
   have p6:=Bo y6.1
   have p7:=Bo y7.1
   simp only[List.map_cons,List.map_nil] at hB
   rw[hbk] at hB
   obtain⟨M,rfl, -⟩:=Ei underlying3 h0
   obtain⟨o,rfl, -⟩:=Ei underlying3 h1
   obtain⟨T,rfl, -⟩:=Ei underlying3 h2
   obtain⟨⟨k,q3,k1⟩, -⟩:=ZbN h3
   obtain⟨⟨v,q4,x4⟩, -⟩:=Gv h4
   obtain⟨⟨r,q5,x5⟩, -⟩:=Gv h5
   obtain⟨⟨d,q6,d1⟩, -⟩:=Za3 h6
   obtain⟨A,c,l,rfl,hA,hR,hp,hn⟩:=Zei (f:=VV.cs) (k:=5) (kb:=6) (Pr:=fun v:VV=>v.x<2^64) (B:=1048576) (fun _=>rfl) underlying44 Jp (fun n cs y h hb=>by obtain⟨⟨u,e,hx⟩,h6⟩:=Gv h;exact⟨⟨u,hx,e⟩,h6⟩) h7
   refine⟨⟨M,o,T,k,v,r,d,A,c,l⟩, ?_,k1,x4,x5,d1,by show l.length<=1000000;omega,hp,hA,hR⟩
   show _= [Value.int .i64 M, .int .i64 o, .int .i64 T]++k.cs++v.cs++r.cs++d.cs++ [_]
   rw[←q3,←q4,←q5,←q6]
   rfl
theorem Zgw {H:Type} {enc:TypeId×Value->H} {W:World} {sp:Nat->Bool} {held:Bool} {m:Nat} {x:DataW H×List MemPlace} {cs:List Value} (hB:Rows.uptoBulk x.1<=1048576) (h:DataW.trod enc prog W 0 sp held m 46 cs=some x): ∃u:AKR,cs=u.cs/\u.Ok W:=ZeL underlying46 ZbQ rfl rfl rfl rfl rfl rfl rfl rfl rfl rfl rfl rfl rfl rfl rfl rfl hB h
theorem ZeM {H:Type} {enc:TypeId×Value->H} {W:World} {sp:Nat->Bool} {held:Bool} {m:Nat} {x:DataW H×List MemPlace} {t:TypeId} {f0 f1 f2 f3 f4 f5 f6 f7 f8 f9 f10 f11 f12 f13 f14 f15:Field} {cs:List Value} (hs:prog.underlying t=some (.struct #[f0,f1,f2,f3,f4,f5,f6,f7,f8,f9,f10,f11,f12,f13,f14,f15])) (hC:prog.cellsOf t=59) (o0:f0.offset=0) (o1:f1.offset=1) (o2:f2.offset=35) (o3:f3.offset=40) (o4:f4.offset=41) (o5:f5.offset=42) (o6:f6.offset=43) (o7:f7.offset=44) (o8:f8.offset=45) (o9:f9.offset=46) (o10:f10.offset=47) (o11:f11.offset=48) (o12:f12.offset=49) (o13:f13.offset=54) (o14:f14.offset=57) (o15:f15.offset=58) (t0:f0.type=3) (t1:f1.type=46) (t2:f2.type=40) (t3:f3.type=3) (t4:f4.type=47) (t5:f5.type=4) (t6:f6.type=44) (t7:f7.type=48) (t8:f8.type=9) (t9:f9.type=49) (t10:f10.type=50) (t11:f11.type=51) (t12:f12.type=40) (t13:f13.type=52) (t14:f14.type=53) (t15:f15.type=54) (hB:Rows.uptoBulk x.1<=1048576) (h:DataW.trod enc prog W 0 sp held m t cs=some x):(∃u:AT,(u.Ok/\u.ds.length<=43800/\u.Reads W)/\cs=actC u)/\17<=Rows.uptoBulk x.1:=by
 obtain⟨xs,n,_,hx,hl,hlen,hf⟩:=DataW.trod_struct hs h
 rw[hC] at hl
 have hlen2:xs.length=16:=hlen
 clear h hlen
 have h0:=hf 0 f0 rfl
 have h1:=hf 1 f1 rfl
 have h2:=hf 2 f2 rfl
 have h3:=hf 3 f3 rfl
 have h4:=hf 4 f4 rfl
 have h5:=hf 5 f5 rfl
 have h6:=hf 6 f6 rfl
 have h7:=hf 7 f7 rfl
 have h8:=hf 8 f8 rfl
 have h9:=hf 9 f9 rfl
 have h10:=hf 10 f10 rfl
 have h11:=hf 11 f11 rfl
 have h12:=hf 12 f12 rfl
 have h13:=hf 13 f13 rfl
 have h14:=hf 14 f14 rfl
 have h15:=hf 15 f15 rfl
 clear hf
 match xs,hlen2 with
 | [y0,y1,y2,y3,y4,y5,y6,y7,y8,y9,y10,y11,y12,y13,y14,y15],_=>
  match cs,hl with
  |c0::c1::c2::c3::c4::c5::c6::c7::c8::c9::c10::c11::c12::c13::c14::c15::c16::c17::c18::c19::c20::c21::c22::c23::c24::c25::c26::c27::c28::c29::c30::c31::c32::c33::c34::c35::c36::c37::c38::c39::c40::c41::c42::c43::c44::c45::c46::c47::c48::c49::c50::c51::c52::c53::c54::c55::c56::c57::c58:: [],_=>
   rw[t0,o0,Jd] at h0
   rw[t1,o1,ZbQ] at h1
   rw[t2,o2,Jp] at h2
   rw[t3,o3,Jd] at h3
   rw[t4,o4,ZgF] at h4
   rw[t5,o5,ZdK] at h5
   rw[t6,o6,ZbR] at h6
   rw[t7,o7,ZgE] at h7
   rw[t8,o8,Za4] at h8
   rw[t9,o9,ZgD] at h9
   rw[t10,o10,ZgC] at h10
   rw[t11,o11,ZgB] at h11
   rw[t12,o12,Jp] at h12
   rw[t13,o13,ZgA] at h13
   rw[t14,o14,Zgz] at h14
   rw[t15,o15,Zgy] at h15
   replace h0:DataW.trod enc prog W 0 sp held n 3 (c0:: [])=some y0:=h0
   replace h1:DataW.trod enc prog W 0 sp held n 46 (c1::c2::c3::c4::c5::c6::c7::c8::c9::c10::c11::c12::c13::c14::c15::c16::c17::c18::c19::c20::c21::c22::c23::c24::c25::c26::c27::c28::c29::c30::c31::c32::c33::c34:: [])=some y1:=h1
   replace h2:DataW.trod enc prog W 0 sp held n 40 (c35::c36::c37::c38::c39:: [])=some y2:=h2
   replace h3:DataW.trod enc prog W 0 sp held n 3 (c40:: [])=some y3:=h3
   replace h4:DataW.trod enc prog W 0 sp held n 47 (c41:: [])=some y4:=h4
   replace h5:DataW.trod enc prog W 0 sp held n 4 (c42:: [])=some y5:=h5
   replace h6:DataW.trod enc prog W 0 sp held n 44 (c43:: [])=some y6:=h6
   replace h7:DataW.trod enc prog W 0 sp held n 48 (c44:: [])=some y7:=h7
   replace h8:DataW.trod enc prog W 0 sp held n 9 (c45:: [])=some y8:=h8
   replace h9:DataW.trod enc prog W 0 sp held n 49 (c46:: [])=some y9:=h9
   replace h10:DataW.trod enc prog W 0 sp held n 50 (c47:: [])=some y10:=h10
   replace h11:DataW.trod enc prog W 0 sp held n 51 (c48:: [])=some y11:=h11
   replace h12:DataW.trod enc prog W 0 sp held n 40 (c49::c50::c51::c52::c53:: [])=some y12:=h12
   replace h13:DataW.trod enc prog W 0 sp held n 52 (c54::c55::c56:: [])=some y13:=h13
   replace h14:DataW.trod enc prog W 0 sp held n 53 (c57:: [])=some y14:=h14
   replace h15:DataW.trod enc prog W 0 sp held n 54 (c58:: [])=some y15:=h15
   subst hx
   have hbk:Rows.uptoBulk (H:=H) (.agg [y0.1,y1.1,y2.1,y3.1,y4.1,y5.1,y6.1,y7.1,y8.1,y9.1,y10.1,y11.1,y12.1,y13.1,y14.1,y15.1])=Rows.uptoBulk y0.1+Rows.uptoBulk y1.1+Rows.uptoBulk y2.1+Rows.uptoBulk y3.1+Rows.uptoBulk y4.1+Rows.uptoBulk y5.1+Rows.uptoBulk y6.1+Rows.uptoBulk y7.1+Rows.uptoBulk y8.1+Rows.uptoBulk y9.1+Rows.uptoBulk y10.1+Rows.uptoBulk y11.1+Rows.uptoBulk y12.1+Rows.uptoBulk y13.1+Rows.uptoBulk y14.1+Rows.uptoBulk y15.1+1:=by simp only[Rows.uptoBulk,Rows.uptoBulkAll];omega
   have p0:=Bo y0.1
   have p1:=Bo y1.1
   have p2:=Bo y2.1
   have p3:=Bo y3.1
   have p4:=Bo y4.1
   have p5:=Bo y5.1
   have p6:=Bo y6.1
   have p7:=Bo y7.1
   have p8:=Bo y8.1
   have p9:=Bo y9.1
   have p10:=Bo y10.1
   have p11:=Bo y11.1
   have p12:=Bo y12.1
   have p13:=Bo y13.1
   have p14:=Bo y14.1
   have p15:=Bo y15.1
   simp only[List.map_cons,List.map_nil] at hB ⊢
   rw[hbk] at hB ⊢
   obtain⟨W0,rfl, -⟩:=Ei underlying3 h0
   obtain⟨a,q1,ak⟩:=Zgw (by omega) h1
   obtain⟨⟨p,q2,x2⟩, -⟩:=Gv h2
   obtain⟨nn,rfl,wn⟩:=Ei underlying3 h3
   have z41:=Jz underlying47 h4
   obtain⟨b5,rfl⟩:=ZbS underlying4 h5
   have z43:=Jz underlying44 h6
   have z44:=Jz underlying48 h7
   obtain⟨s8,rfl, -⟩:=Qk underlying9 h8
   obtain⟨DA,Dc,ds,rfl,hDA,hDR,hDp,hDn⟩:=Zei (f:=prC) (k:=20) (kb:=26) (Pr:=fun u:KK×DD=>FD u.2/\OkK u.1) (B:=1048576) (fun _=>rfl) underlying49 ZbO (fun n cs y h hb=>ZeJ h) h9
   have z47:=Jz underlying50 h10
   have z48:=Jz underlying51 h11
   obtain⟨⟨v12,q12,x12⟩, -⟩:=Gv h12
   obtain⟨w0,w1,w2,n9, -,k0,k1,k2⟩:=trod_array3 underlying52 Jd h13
   obtain⟨m0,rfl, -⟩:=Ei underlying3 k0
   obtain⟨m1,rfl, -⟩:=Ei underlying3 k1
   obtain⟨m2,rfl, -⟩:=Ei underlying3 k2
   have z57:=Jz underlying53 h14
   have z58:=Jz underlying54 h15
   simp only[VV.cs,List.cons.injEq] at q12
   obtain⟨rfl,rfl,rfl,rfl,rfl, -⟩:=q12
   obtain⟨t,ht⟩: ∃t:AT,t=⟨W0,a.M,a.o,a.T,a.k,a.v,a.r,a.d,a.A,a.c,a.l,p,nn,DA,Dc,ds,c41, .bool b5,c43,c44, .string s8,c47,c48, .int .i64 v12.k, .bool v12.b, .float .f64 v12.x, .string v12.s, .int .i64 v12.i, .int .i64 m0, .int .i64 m1, .int .i64 m2,c57,c58⟩:=⟨_,rfl⟩
   refine⟨⟨t, ?_, ?_⟩,by omega⟩
   ·subst ht
    obtain⟨a1,a2,a3,a4,a5,a6,a7,a8⟩:=ak
    refine⟨⟨a1,a2,a3,a4,a5,a6,a7,x2,Zfn wn,hDA,fun e he=>(hDp e he).1,fun e he=>(hDp e he).2, ?_⟩,by show ds.length<=43800;omega,a8,hDR⟩
    intro u hu
    simp only[actC,Nm,VV.cs,KK.cs,DD.cs,List.cons_append,List.nil_append,List.mem_cons,List.not_mem_nil,or_false] at hu
    rcases hu with rfl|rfl|rfl|rfl|rfl|rfl|rfl|rfl|rfl|rfl|rfl|rfl|rfl|rfl|rfl|rfl|rfl|rfl|rfl|rfl|rfl|rfl|rfl|rfl|rfl|rfl|rfl|rfl|rfl|rfl|rfl|rfl|rfl|rfl|rfl|rfl|rfl|rfl|rfl|rfl|rfl|rfl|rfl|rfl|rfl|rfl|rfl|rfl|rfl|rfl|rfl|rfl|rfl|rfl|rfl|rfl|rfl|rfl|rfl<;>first|rfl|assumption
   ·rw[ht]
    show _= [Value.int .i64 W0]++a.cs++p.cs++ [_,_,_,_,_,_,_,_,_,_,_,_,_,_,_,_,_,_,_]
    rw[←q1,←q2]
    rfl
theorem Zgx {H:Type} {enc:TypeId×Value->H} {W:World} {sp:Nat->Bool} {held:Bool} {m:Nat} {x:DataW H×List MemPlace} {cs:List Value} (hB:Rows.uptoBulk x.1<=1048576) (h:DataW.trod enc prog W 0 sp held m 56 cs=some x):(∃u:AT,(u.Ok/\u.ds.length<=43800/\u.Reads W)/\cs=actC u)/\17<=Rows.uptoBulk x.1:=ZeM underlying56 ZbP rfl rfl rfl rfl rfl rfl rfl rfl rfl rfl rfl rfl rfl rfl rfl rfl rfl rfl rfl rfl rfl rfl rfl rfl rfl rfl rfl rfl rfl rfl rfl rfl hB h
theorem ZcM {H:Type} {enc:TypeId×Value->H} {W:World} {sp:Nat->Bool} {held:Bool} {m:Nat} {x:DataW H×List MemPlace} {t:TypeId} {f0 f1 f2 f3:Field} {cs:List Value} (hs:prog.underlying t=some (.struct #[f0,f1,f2,f3])) (hC:prog.cellsOf t=4) (o0:f0.offset=0) (o1:f1.offset=1) (o2:f2.offset=2) (o3:f3.offset=3) (t0:f0.type=3) (t1:f1.type=3) (t2:f2.type=3) (t3:f3.type=22) (hB:Rows.uptoBulk x.1<=1048576) (h:DataW.trod enc prog W 0 sp held m t cs=some x): ∃(c f d:Int) (A:Option Addr) (cp:Nat) (ts:List AT),cs=Vx c f d (.slice A ts.length cp)/\f<=9223372036854775807/\ts.length<=1000000/\ReadsG actC 59 W A ts/\ ∀u∈ts,u.Ok/\u.ds.length<=43800/\u.Reads W:=by
 obtain⟨xs,n,_,hx,hl,hlen,hf⟩:=DataW.trod_struct hs h
 rw[hC] at hl
 have hlen2:xs.length=4:=hlen
 clear h hlen
 have h0:=hf 0 f0 rfl
 have h1:=hf 1 f1 rfl
 have h2:=hf 2 f2 rfl
 have h3:=hf 3 f3 rfl
 clear hf
 match xs,hlen2 with
 | [y0,y1,y2,y3],_=>
  match cs,hl with
  |c0::c1::c2::c3:: [],_=>
   rw[t0,o0,Jd] at h0
   rw[t1,o1,Jd] at h1
   rw[t2,o2,Jd] at h2
   rw[t3,o3,ZgI] at h3
   replace h0:DataW.trod enc prog W 0 sp held n 3 (c0:: [])=some y0:=h0
   replace h1:DataW.trod enc prog W 0 sp held n 3 (c1:: [])=some y1:=h1
   replace h2:DataW.trod enc prog W 0 sp held n 3 (c2:: [])=some y2:=h2
   replace h3:DataW.trod enc prog W 0 sp held n 22 (c3:: [])=some y3:=h3
   subst hx
   have hbk:Rows.uptoBulk (H:=H) (.agg [y0.1,y1.1,y2.1,y3.1])=Rows.uptoBulk y0.1+Rows.uptoBulk y1.1+Rows.uptoBulk y2.1+Rows.uptoBulk y3.1+1:=by simp only[Rows.uptoBulk,Rows.uptoBulkAll];omega
   have p0:=Bo y0.1
   have p1:=Bo y1.1
   have p2:=Bo y2.1
   have p3:=Bo y3.1
   simp only[List.map_cons,List.map_nil] at hB
   rw[hbk] at hB
   obtain⟨c,rfl, -⟩:=Ei underlying3 h0
   obtain⟨f,rfl,wf⟩:=Ei underlying3 h1
   obtain⟨d,rfl, -⟩:=Ei underlying3 h2
   obtain⟨A,cp,ts,rfl,hA,hR,hp,hn⟩:=Zei (f:=actC) (k:=59) (kb:=17) (Pr:=fun u:AT=>u.Ok/\u.ds.length<=43800/\u.Reads W) (B:=1048576) actC_len underlying22 ZbP (fun n cs y h hb=>Zgx hb h) h3
   exact⟨c,f,d,A,cp,ts,rfl,Zfn wf,by omega,hR,hp⟩
theorem ZdH {H:Type} {enc:TypeId×Value->H} {W:World} {sp:Nat->Bool} {held:Bool} {m:Nat} {x:DataW H×List MemPlace} {cs:List Value} (hB:Rows.uptoBulk x.1<=1048576) (h:DataW.trod enc prog W 0 sp held m 24 cs=some x): ∃(c f d:Int) (A:Option Addr) (cp:Nat) (ts:List AT),cs=Vx c f d (.slice A ts.length cp)/\f<=9223372036854775807/\ts.length<=1000000/\ReadsG actC 59 W A ts/\ ∀u∈ts,u.Ok/\u.ds.length<=43800/\u.Reads W:=ZcM underlying24 ZgH rfl rfl rfl rfl rfl rfl rfl rfl hB h
