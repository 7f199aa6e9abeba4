import Derived.Test.YtfnohipnenkhoaaGreatDoorRt
set_option linter.all false
namespace Go.Proofs.YtfnohipnenkhoaaGreatDoor
set_option maxRecDepth 100000
set_option maxHeartbeats 0
section
open Go Go.Proofs Go.Maps Go.RowKit FM Tryz
attribute [local go_sem] Am Al Ar Ah Ao Ai Aw Do Dn Bq Aj Bo
theorem ZeP {X:World} {base e g:Nat} {c:Nat} {l:List (KK×DD)} {v:KK×DD} (h:X.ownsRow base e 20 (.slice (some ⟨g,0,none⟩) (l.length+1) c) (l.length+1) (l.flatMap prC++ [v].flatMap prC)):X.rangeAt g (l.length * 20) (prC v):=by
 have:=ZeQ h
 rwa [Nat.zero_add] at this
theorem Rp {o:Oper} {a:Act} {w:World} {x y:Operand} {n m:Int} (b:Bool) (ho:o.op= .binOp .neq 3 x y 3) (hx:a.eval x= .int .i64 n) (hc:a.eval y= .int .i64 m) (h:decide (n=m)=b):(execOp a.eval o).run prog w= .ok (.value (.bool (!b))) w:=by
 unfold execOp
 simp only[ho,hx,hc]
 subst h
 by_cases h:n=m<;>simp[go_sem,eqGuard,h]
theorem ex_bans {o:Oper} {a:Act} {w:World} {x y:Operand} {c k:Int} (ho:o.op= .build 45 #[(4,x),(6,y)]) (hx:a.eval x= .int .i64 c) (hy:a.eval y= .agg (Dq k).toArray):(execOp a.eval o).run prog w= .ok (.value (.agg (Bl {Ay with o:=c,f:=k}).toArray)) w:=by
 have e:(Instr.build 45 #[(4, .int .i64 c),(6, .agg (Dq k).toArray)]).run prog w= .ok (.agg (Bl {Ay with o:=c,f:=k}).toArray) w:=by kernel_rfl
 unfold execOp
 simp only[ho,List.map_toArray,List.map_cons,List.map_nil,hx,hy]
 simp[e]
def AT.Known (t:AT):Prop:=t.W=71∨t.W=72∨t.W=91∨(t.W=0/\1<=t.M/\t.M<=11)
theorem act7_h (h:HP) (N:Nat) (t:AT) (w:World) (H:h.Is w) (G:h.Gd N) (hN:N<=90000) (hT:Tabs w) (K:t.Ok) (hK:t.Known) (hW:t.W≠91) (hR: ∀X,Fr w X h.blocks->t.Reads X):Calls prog 23 #[.pointer (some ⟨h.b,0,none⟩), .agg (actC t).toArray] w (ZdS h N t w):=by
 rcases hK with h1|h1|h1|⟨h1,hM⟩
 ·exact act7_71 h N t w H G hN hT K h1 hR
 ·exact act7_72 h N t w H G hN hT K h1 hR
 ·exact absurd h1 hW
 ·exact act7_0 h N t w H G hN hT K h1 hM hR
theorem act9_7 (h:HP) (N:Nat) (t:AT) (w:World) (H:h.Is w) (G:h.Gd N) (hN:N<=90000) (hT:Tabs w) (K:t.Ok) (hK:t.Known) (hW:t.W≠91) (hR: ∀X,Fr w X h.blocks->t.Reads X):Calls prog 10 #[.pointer (some ⟨h.b,0,none⟩), .agg (actC t).toArray] w (ZdS h N t w):=by
 have SS:=Ab H.start
 have H91:decide (t.W=91)=false:=decide_eq_false hW
 go_enter func10,ntmps10
 go_wp2_with (first|go_skip|((with_reducible show wpList ..);first|(refine zB 59 (actC t) (by rfl) rfl rfl rfl SS ?_;clear SS;intro Xa Ba SS;simp only[nn])|(refine zA 45 (Bl Ay) (by rfl) rfl SS ?_;clear SS;intro Xb Bb SS;simp only[nn])|(refine z1 3 isAgg3 1 (by rfl) rfl rfl SS rfl rfl ?_;simp only[nn])|(refine zL (actC t) 59 59 1 rwT szT (by rfl) rfl rfl SS rfl rfl rfl ?_;simp only[nn])|(refine rd rfl (Rp false rfl rfl rfl H91) ?_)))
 have HC:=act7_h h N t _ ((Aa SS).hp 0 rfl) G hN (hT.fr (Aa SS).fr H.low) K hK hW (fun X hX=>hR X ((Aa SS).fr.trans hX (fun b hb=> .inl hb)))
 refine HC.mono ?_
 rintro _ Y1 ⟨h1,n,rfl,g1,T1,hc,hq⟩
 have hb1:=Ab T1.hb
 replace SS:=Ab ((Aa SS).heap 0 rfl T1)
 clear T1 HC
 go_wp2_with (first|go_skip|((with_reducible show wpList ..);first|((refine stS (vs:=Bl n) 2 45 (by rfl) rfl rfl rfl rfl (Ed _) szN (Aa SS) rfl (by simp[Bw,VV.cs,KK.cs,DD.cs,Ak,Av,Bl,Ay,Dq]) ?_);intro Xz Lz hfz hsz;replace SS:=Ab Lz;clear Lz hfz hsz;simp only[nn])))
 refine Jf rwN szN rfl rfl rfl ((Aa SS).hold 2 rfl) rfl ?_
 exact⟨h1,n,rfl,g1,HP.To.end H (Aa SS) (Aa hb1),hc,hq⟩
theorem fault2_h (er:Value) (w:World) (h:er= .nilIface∨ ∃k,er=Bs k):Calls prog 25 #[er] w fun e w'=>e= .returned (.agg (Dq (Bx er)).toArray)/\Below w.heap.size w w':=by
 have SS:=Ab (Sy.nil w [])
 go_enter func25,ntmps25
 go_wp2_with (first|go_skip|((with_reducible show wpList ..);first|(refine zA 43 (Dq 0) (by rfl) rfl SS ?_;clear SS;intro Xa Ba SS;simp only[nn])))
 refine(Jq er _ h).mono ?_
 rintro _ Yf ⟨rfl,hYf⟩
 replace SS:=Ab ((Aa SS).on hYf)
 clear hYf
 go_wp2_with (first|go_skip|((with_reducible show wpList ..);first|((refine stS (vs:=Dq (Bx er)) 0 43 (by rfl) rfl rfl rfl rfl (Gf _) szF (Aa SS) rfl (by simp[Bw,Dq,VV.cs]) ?_);intro Xb Lb hfb hsb;replace SS:=Ab Lb;clear Lb hfb hsb;simp only[nn])))
 refine Jf rwF szF rfl rfl rfl ((Aa SS).hold 0 rfl) rfl ?_
 exact⟨rfl,(Aa SS).fr.below⟩
theorem act9_91 (h:HP) (N:Nat) (t:AT) (w:World) (H:h.Is w) (G:h.Gd N) (hN:N<=90000) (hT:Tabs w) (K:t.Ok) (hW:t.W=91) (hz:t.ds.length<=1000000) (hR: ∀X,Fr w X h.blocks->t.Reads X):Calls prog 10 #[.pointer (some ⟨h.b,0,none⟩), .agg (actC t).toArray] w (ZdS h N t w):=by
 have SS:=Ab H.start
 have HR:=Ab hR
 clear hR
 have H91:decide (t.W=91)=true:=decide_eq_true hW
 clear hW
 go_enter func10,ntmps10
 go_wp2_with (first|go_skip|((with_reducible show wpList ..);first|(refine zB 59 (actC t) (by rfl) rfl rfl rfl SS ?_;clear SS;intro Xa Ba SS;simp only[nn])|(refine zA 45 (Bl Ay) (by rfl) rfl SS ?_;clear SS;intro Xb Bb SS;simp only[nn])|(refine z1 3 isAgg3 1 (by rfl) rfl rfl SS rfl rfl ?_;simp only[nn])|(refine rd rfl (Rp true rfl rfl rfl H91) ?_)|((refine emS (e:=69) (size:=20) w.heap.size (by rfl) rfl (fun w=>by kernel_rfl) (Aa SS) (Aa SS).fr.size ?_);intro Xd Bd Ld;replace SS:=Ab Ld;clear Ld;simp only[nn])|(refine z1 52 isAgg52 1 (by rfl) rfl rfl SS rfl rfl ?_;simp only[nn])|((refine Yy (news:=t.ds.flatMap prC) 3 (by rfl) rfl rfl rfl underlying52 ZbL rfl (by decide) (Aa SS) rfl K.da (Ge prC 20 Ul t.ds) (ReadsG.src (f:=prC) Ul (by decide) (Aa HR _ (Aa SS).fr).2) (Za1 t.ds) (by omega) (by decide) (Aa SS).fr.size ?_);intro Ae ce Xe Le;replace SS:=Ab Le;clear Le;simp only[nn])|(refine rd rfl (ex_bk9 rfl) ?_)|(refine rd rfl (ex_be9 rfl rfl) ?_)|((refine bsS (cs:= [e9].flatMap prC) (by rfl) rfl rfl underlying52 ZbL (by decide) rfl rfl (by decide) (Aa SS) ?_);intro Xf Bf hEf Lf hbf;replace SS:=Ab Lf;clear Lf hbf hEf;simp only[nn])|((refine apS 3 4 rfl rfl rfl rfl underlying52 ZbL rfl (by decide) (Aa SS) rfl rfl rfl (Za1 [e9]) (by omega) (by decide) (Aa SS).fr.size ?_);intro Ag cg Xg Lg;replace SS:=Ab Lg;clear Lg;simp only[nn])))
 obtain⟨g,rfl,hcg⟩:=own_rpA (show World.ownsRow _ _ _ 20 (.slice Ag (t.ds.length+1) cg) (t.ds.length+1) _ from (Aa SS).get 3 rfl)
 have hS4:Sy w _ h.blocks [Aq Ba (actC t),Aq Bb (Bl Ay),Eg w.heap.size 69 20 (.slice (some ⟨g,0,none⟩) (t.ds.length+1) cg) (t.ds.length+1) (t.ds.flatMap prC++ [e9].flatMap prC),Aq Bf ([e9].flatMap prC),hpO h]:=(Sy.back (L:= [Aq Ba (actC t),Aq Bb (Bl Ay),Eg w.heap.size 69 20 (.slice (some ⟨g,0,none⟩) (t.ds.length+1) cg) (t.ds.length+1) (t.ds.flatMap prC++ [e9].flatMap prC),Aq Bf ([e9].flatMap prC)]) (o:=hpO h) (Aa SS)).drew
 clear SS
 have cu: ∀{X:World} {M:List Ob},Sy w X h.blocks ([Aq Ba (actC t),Aq Bb (Bl Ay),Eg w.heap.size 69 20 (.slice (some ⟨g,0,none⟩) (t.ds.length+1) cg) (t.ds.length+1) (t.ds.flatMap prC++ [e9].flatMap prC),Aq Bf ([e9].flatMap prC)]++M)->Sy w X h.blocks [Aq Ba (actC t),Aq Bb (Bl Ay),Eg w.heap.size 69 20 (.slice (some ⟨g,0,none⟩) (t.ds.length+1) cg) (t.ds.length+1) (t.ds.flatMap prC++ [e9].flatMap prC),Aq Bf ([e9].flatMap prC)]:=fun h=>Sy.left h
 refine wp_region_held_drew (P:=prog) (S:=fun X=>Sy w X h.blocks [Aq Ba (actC t),Aq Bb (Bl Ay),Eg w.heap.size 69 20 (.slice (some ⟨g,0,none⟩) (t.ds.length+1) cg) (t.ds.length+1) (t.ds.flatMap prC++ [e9].flatMap prC),Aq Bf ([e9].flatMap prC)]) (by kernel_rfl) (cu hS4) (fun hS0=> ?_)
 refine gp 0 (some 24) (.pointer (some ⟨h.b,0,none⟩)) rfl rfl (cu hS4) ?_
 refine gp 1 (some 25) (.pointer (some ⟨Ba,35,none⟩)) rfl rfl (cu hS4) ?_
 refine gq 2 (some 26) (.agg (t.p.cs).toArray) rfl rfl (fun X hX=>Af (vs:=t.p.cs) 36 5 rwV szV rfl rfl (hX.hold 0 rfl) rfl rfl) (cu hS4) ?_
 refine gp 3 (some 27) (.slice (some ⟨g,0,none⟩) (t.ds.length+1) cg) rfl rfl (cu hS4) ?_
 refine gp 4 (some 28) (.pointer (some ⟨Ba,46,none⟩)) rfl rfl (cu hS4) ?_
 refine gq 5 (some 29) (.slice t.DA t.ds.length t.Dc) rfl rfl (fun X hX=>Ad 52 isAgg52 rfl rfl (hX.hold 0 rfl) rfl) (cu hS4) ?_
 refine gq 6 (some 30) (.int .i64 (t.ds.length:Nat)) rfl rfl (fun X hX=>Bi 52 69 underlying52 rfl rfl) (cu hS4) ?_
 refine gq 7 (some 31) (.slice (some ⟨g,0,none⟩) t.ds.length cg) rfl rfl (fun X hX=>ex_slP rfl rfl rfl (by omega)) (cu hS4) ?_
 refine gr (rs:= [8]) (gc 8 (some 32) rfl rfl (ordNew_h h t.p (some ⟨g,0,none⟩) cg t.ds N _ (hS4.hp 4 rfl) G (hT.fr hS4.fr H.low) K.px K.df K.dk (fun X hX=>ZdF (i:=2) (Sy.front (L:= [Aq Ba (actC t),Aq Bb (Bl Ay),Eg w.heap.size 69 20 (.slice (some ⟨g,0,none⟩) (t.ds.length+1) cg) (t.ds.length+1) (t.ds.flatMap prC++ [e9].flatMap prC),Aq Bf ([e9].flatMap prC)]) hS4) rfl hX) hz) ?_ gn)
 rintro e Yt1 ⟨h1,cc,er,rfl,hEr,g1,T1,k1,k2,k3, -⟩
 have hb1:=Ab T1.hb
 have hqt1:=Sy.heap hS4 4 rfl T1
 clear T1
 refine⟨_,rfl,cu hqt1, ?_⟩
 refine gp 9 (some 23) (.tuple #[.int .i64 cc,er]) rfl rfl (cu hqt1) ?_
 refine gp 10 (some 33) (.int .i64 cc) rfl rfl (cu hqt1) ?_
 refine gp 11 (some 34) (er) rfl rfl (cu hqt1) ?_
 refine gp 12 (some 6) (.int .i64 cc) rfl rfl (cu hqt1) ?_
 refine gp 13 (some 7) (er) rfl rfl (cu hqt1) ?_
 refine wpAnyH_done (by kernel_rfl) ?_ _
 try simp only[nn]
 have SS:=Ab (Sy.front (L:= [Aq Ba (actC t),Aq Bb (Bl Ay),Eg w.heap.size 69 20 (.slice (some ⟨g,0,none⟩) (t.ds.length+1) cg) (t.ds.length+1) (t.ds.flatMap prC++ [e9].flatMap prC),Aq Bf ([e9].flatMap prC)]) (o:=hpO h1) hqt1)
 go_wp2_with (first|go_skip|((with_reducible show wpList ..);first|(refine z1 52 isAgg52 1 (by rfl) rfl rfl SS rfl rfl ?_;simp only[nn])|(refine rd rfl (Bi 52 69 underlying52 rfl rfl) ?_)|(refine rd rfl (Az 52 20 t.ds.length Oz Pa rfl rfl rfl (Nat.lt_succ_self _)) ?_)|(refine rd rfl (Jr 3 1 isAgg3 rfl rfl (ZeP ((Aa SS).get 3 rfl)) rfl) ?_)|(refine rd rfl (Eh rfl rfl rfl rfl) ?_)))
 go_loopg [8] t.ds.length (fun gm s8 wr=> ∃(i:Nat) (ys:List Value),s8= .int .i64 (i:Nat)/\i<=t.ds.length/\t.ds.length - i<=gm/\Hid (RowFrom ys t.ds i)/\Hid (Sy w wr h.blocks [hpO h1,Aq Ba (actC t),Aq Bb (Bl Ay),Eg w.heap.size 69 20 (.slice (some ⟨g,0,none⟩) (t.ds.length+1) cg) (t.ds.length+1) ys,Aq Bf ([e9].flatMap prC)]))
 case atStart=>exact⟨0,_,rfl,by omega,by omega,Ab (RowFrom.start t.ds e9),SS⟩
 case round=>
  clear SS
  obtain⟨i,ys,rfl,hil,hgm,HF,SS⟩:=hrel
  by_cases hlt:i<t.ds.length
  ·have dlt:decide ((i:Int)<(t.ds.length:Int))=true:=decide_eq_true (by omega)
   have hw1:IntKind.i64.wrap ((i:Int)+1)=(i:Int)+1:=by rw[IntKind.wrap_i64];omega
   obtain⟨x,hx⟩: ∃x,t.ds[i]? =some x:=⟨_,List.getElem?_eq_getElem hlt⟩
   have eqc: ∀w,Calls prog 16 #[x.2.agg,x.2.agg] w fun e w'=>e= .returned (.bool true)/\Below w.heap.size w w':=fun w=>by
    have hfx:=K.df x (List.mem_of_getElem? hx)
    have:=ZbW x.2 x.2 w
    rw[Zav] at this
    exact this
   obtain⟨b,off,hDA, -, -⟩:=(Aa HR w (Fr.refl _ _)).2 i x hx
   have HD:=Ab hDA
   clear hDA
   have HG1: ∀X,Sy w X h.blocks [hpO h1,Aq Ba (actC t),Aq Bb (Bl Ay),Eg w.heap.size 69 20 (.slice (some ⟨g,0,none⟩) (t.ds.length+1) cg) (t.ds.length+1) ys,Aq Bf ([e9].flatMap prC)]->X.rangeAt g (0+i * 20) (x.1.cs++x.2.cs):=fun X hX=>RowFrom.range (hX.get 3 rfl) (Aa HF) (Nat.le_refl _) hx
   have HG2: ∀X,Sy w X h.blocks [hpO h1,Aq Ba (actC t),Aq Bb (Bl Ay),Eg w.heap.size 69 20 (.slice (some ⟨g,0,none⟩) (t.ds.length+1) cg) (t.ds.length+1) ys,Aq Bf ([e9].flatMap prC)]->X.rangeAt b (off+i * 20) (x.1.cs++x.2.cs):=fun X hX=>by
    obtain⟨b2,o2,h1, -,h3⟩:=(Aa HR X hX.fr).2 i x hx
    rw[Aa HD] at h1
    cases h1
    exact h3
   go_wp2_with (first|go_skip|((with_reducible show wpList ..);first|(refine z1 52 isAgg52 1 (by rfl) rfl rfl SS rfl rfl ?_;simp only[nn])|(refine rd rfl (Bi 52 69 underlying52 rfl rfl) ?_)))
   have hS10:Sy w _ h.blocks [hpO h1,Aq Ba (actC t),Aq Bb (Bl Ay),Eg w.heap.size 69 20 (.slice (some ⟨g,0,none⟩) (t.ds.length+1) cg) (t.ds.length+1) ys,Aq Bf ([e9].flatMap prC)]:=(Aa SS).drew
   clear SS
   refine wp_region_held_drew (P:=prog) (S:=fun X=>Sy w X h.blocks _) (by kernel_rfl) (hS10) (fun hS0=> ?_)
   refine gp 0 (some 53) (.slice (some ⟨g,0,none⟩) (t.ds.length+1) cg) rfl rfl (hS10) ?_
   refine gp 1 (some 54) (.int .i64 (i:Nat)) rfl rfl (hS10) ?_
   refine gq 2 (some 55) (.pointer (some ⟨g,0+i * 20,none⟩)) rfl rfl (fun X hX=>Az 52 20 i Oz Pa rfl rfl rfl (by omega)) (hS10) ?_
   refine gp 3 (some 56) (.pointer (some ⟨g,0+i * 20,none⟩)) rfl rfl (hS10) ?_
   refine gq 4 (some 57) (.agg x.1.cs.toArray) rfl rfl (fun X hX=>By (vs:=x.1.cs) 48 2 rwK szK rfl rfl (Lw (HG1 X hX)) rfl) (hS10) ?_
   refine gp 5 (some 58) (.pointer (some ⟨Ba,46,none⟩)) rfl rfl (hS10) ?_
   refine gq 6 (some 59) (.slice (some ⟨b,off,none⟩) t.ds.length t.Dc) rfl rfl (fun X hX=>Ad (v:= .slice (some ⟨b,off,none⟩) t.ds.length t.Dc) 52 isAgg52 rfl rfl (hX.hold 1 rfl) (by rw[←Aa HD];rfl)) (hS10) ?_
   refine gp 7 (some 60) (.int .i64 (i:Nat)) rfl rfl (hS10) ?_
   refine gq 8 (some 61) (.pointer (some ⟨b,off+i * 20,none⟩)) rfl rfl (fun X hX=>Az 52 20 i Oz Pa rfl rfl rfl (by omega)) (hS10) ?_
   refine gp 9 (some 62) (.pointer (some ⟨b,off+i * 20,none⟩)) rfl rfl (hS10) ?_
   refine gq 10 (some 63) (.agg x.1.cs.toArray) rfl rfl (fun X hX=>By (vs:=x.1.cs) 48 2 rwK szK rfl rfl (Lw (HG2 X hX)) rfl) (hS10) ?_
   refine gq 11 (some 64) (.bool false) rfl rfl (fun X hX=>ex_kne rfl rfl rfl) (hS10) ?_
   refine gp 12 (some 65) (.bool false) rfl rfl (hS10) ?_
   refine gp 13 (some 66) (.slice (some ⟨g,0,none⟩) (t.ds.length+1) cg) rfl rfl (hS10) ?_
   refine gp 14 (some 67) (.int .i64 (i:Nat)) rfl rfl (hS10) ?_
   refine gq 15 (some 68) (.pointer (some ⟨g,0+i * 20,none⟩)) rfl rfl (fun X hX=>Az 52 20 i Oz Pa rfl rfl rfl (by omega)) (hS10) ?_
   refine gp 16 (some 69) (.pointer (some ⟨g,0+i * 20+2,none⟩)) rfl rfl (hS10) ?_
   refine gq 17 (some 70) (.agg x.2.cs.toArray) rfl rfl (fun X hX=>By (vs:=x.2.cs) 39 18 rwD szD rfl rfl (Mc (HG1 X hX)) rfl) (hS10) ?_
   refine gp 18 (some 71) (.pointer (some ⟨Ba,46,none⟩)) rfl rfl (hS10) ?_
   refine gq 19 (some 72) (.slice (some ⟨b,off,none⟩) t.ds.length t.Dc) rfl rfl (fun X hX=>Ad (v:= .slice (some ⟨b,off,none⟩) t.ds.length t.Dc) 52 isAgg52 rfl rfl (hX.hold 1 rfl) (by rw[←Aa HD];rfl)) (hS10) ?_
   refine gp 20 (some 73) (.int .i64 (i:Nat)) rfl rfl (hS10) ?_
   refine gq 21 (some 74) (.pointer (some ⟨b,off+i * 20,none⟩)) rfl rfl (fun X hX=>Az 52 20 i Oz Pa rfl rfl rfl (by omega)) (hS10) ?_
   refine gp 22 (some 75) (.pointer (some ⟨b,off+i * 20+2,none⟩)) rfl rfl (hS10) ?_
   refine gq 23 (some 76) (.agg x.2.cs.toArray) rfl rfl (fun X hX=>By (vs:=x.2.cs) 39 18 rwD szD rfl rfl (Mc (HG2 X hX)) rfl) (hS10) ?_
   refine gr (rs:= [24]) (gcB 24 (some 77) rfl rfl hS10 (eqc _) id ?_ gn)
   intro Yu1 hqu1
   refine gp 25 (some 78) (.bool false) rfl rfl (hqu1) ?_
   refine gp 26 (some 79) (.bool false) rfl rfl (hqu1) ?_
   refine wpAnyH_done (by kernel_rfl) ?_ _
   try simp only[nn]
   have SS:=Ab hqu1
   go_wp2_with (first|go_skip|((with_reducible show wpList ..);first|(refine rd rfl (Az 52 20 i Oz Pa rfl rfl rfl (by omega)) ?_)|((refine stR 3 3 (by rfl) rfl rfl rfl rfl rfl (by kernel_rfl) (Aa SS) rfl (by rw[(Aa HF).1];omega) ?_);intro Xr Lr;replace SS:=Ab Lr;clear Lr;simp only[nn])))
   go_roundg (t.ds.length - (i+1))
   case measure=>omega
   case rel=>exact⟨i+1,_,by go_num,by omega,by omega,Ab ((Aa HF).step _ hlt (by omega)),SS⟩
  ·obtain rfl:i=t.ds.length:=by omega
   go_wp2_with (first|go_skip|((with_reducible show wpList ..);first|(refine z1 52 isAgg52 1 (by rfl) rfl rfl SS rfl rfl ?_;simp only[nn])|(refine rd rfl (Bi 52 69 underlying52 rfl rfl) ?_)))
   refine(fault2_h er _ hEr).mono ?_
   rintro _ Yf ⟨rfl,hYf⟩
   replace SS:=Ab ((Aa SS).on hYf)
   clear hYf
   go_wp2_with (first|go_skip|((with_reducible show wpList ..);first|(refine rd rfl (ex_bans rfl rfl rfl) ?_)|((refine stS (vs:=Bl {Ay with o:=cc,f:=Bx er}) 2 45 (by rfl) rfl rfl rfl rfl (Ed _) szN (Aa SS) rfl (by simp[Bw,VV.cs,KK.cs,DD.cs,Ak,Av,Bl,Ay,Dq]) ?_);intro Xz Lz hfz hsz;replace SS:=Ab Lz;clear Lz hfz hsz;simp only[nn])))
   refine Jf rwN szN rfl rfl rfl ((Aa SS).hold 2 rfl) rfl ?_
   exact⟨h1,{Ay with o:=cc,f:=Bx er},rfl,g1.mono (by omega),HP.To.end H (Aa SS) (Aa hb1),⟨k1,k2,k3⟩,fun h0=>by have:=of_decide_eq_true H91;rw[this] at h0;cases h0⟩
