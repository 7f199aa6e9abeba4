import Derived.Test.YthjnflilfjcgiaaGreatFmtRo
set_option linter.all false
namespace Go.Proofs.YthjnflilfjcgiaaGreatFmt
set_option maxRecDepth 100000
set_option maxHeartbeats 0
section
open Go Go.Proofs Go.Maps Go.RowKit FM Tryz
attribute [local go_sem] Ad Ag Ak Df Bi Ae Bg
theorem ta_no (v:Value) (w:World):(Instr.typeAssert (.iface 141 v) 30 25 true).run prog w= .ok (.tuple #[.int .i64 0, .bool false]) w:=by
 simp[Instr.typeAssert,run_underlying underlying25,Tryz.zeroValue25]
theorem ta_yes (v:Value) (w:World):(Instr.typeAssert (.iface 141 v) 30 141 true).run prog w= .ok (.tuple #[v, .bool true]) w:=by
 simp[Instr.typeAssert,run_underlying underlying141]
attribute [local go_sem] ta_no ta_yes
def Mv (n:Int):List Value:= .int .i64 0:: .int .i64 n::Be.cs
theorem oneF (n:Int): ∀u∈Mv n,u.oneCell'=true:=by simp[Mv,Be,VV.cs,Value.oneCell']
theorem Sy.one {w:World} {B:Nat} {cs:List Value} (h:Holds w B cs) (hc:0<cs.length):Sy w w [B] [Am B cs]:=⟨Fr.refl _ _,fun o ho=>by rw[List.mem_singleton.1 ho];exact Dr _ _,fun o ho=>by rw[List.mem_singleton.1 ho];exact⟨h,hc⟩,fun o ho b hb=>by rw[List.mem_singleton.1 ho] at hb;exact .inl hb,by simp⟩
theorem ex_ranF {o:Oper} {a:Act} {w:World} {x y:Operand} (ho:o.op= .build 68 #[(1,x),(2,y)]) (hx:a.eval x= .int .i64 3) (hy:a.eval y= .agg Be.cs.toArray):(execOp a.eval o).run prog w= .ok (.value (.agg (Mv 3).toArray)) w:=by
 have e:(Instr.build 68 #[(1, .int .i64 3),(2, .agg Be.cs.toArray)]).run prog w= .ok (.agg (Mv 3).toArray) w:=by kernel_rfl
 unfold execOp
 simp only[ho,List.map_toArray,List.map_cons,List.map_nil,hx,hy]
 simp[e]
theorem Ds (w:World):Calls prog 24 #[] w fun e w'=>e= .returned (.agg (Mv 3).toArray)/\Below w.heap.size w w':=by
 have SS:=Ab (Sy.nil w [])
 go_enter func24,ntmps24
 go_wp2_with (first|go_skip|((with_reducible show wpList ..);first|(refine zA 68 (Mv 0) (by rfl) rfl SS ?_;clear SS;intro Xa Ba SS;simp only[nn])|(refine zS (hp:=(by decide)) (Mv 3) 0 68 (by rfl) rfl rfl rfl rfl (oneF _) szF SS rfl ?_;clear SS;intro Xz SS;simp only[nn])))
 refine Ra rwF szF rfl rfl rfl ((Aa SS).hold 0 rfl) rfl ?_
 exact⟨rfl,(Aa SS).fr.below⟩
theorem fault_r (B:Nat) (w:World) (H:Holds w B Em):Calls prog 52 #[Re B] w fun e w'=>e= .returned (.agg (Mv 3).toArray)/\Sy w w' [B] [Am B Em]:=by
 have SS:=Ab (Sy.one H (by decide))
 clear H
 unfold Re
 go_enter func52,ntmps52
 go_wp2_with (first|go_skip|((with_reducible show wpList ..);first|(refine zA 68 (Mv 0) (by rfl) rfl SS ?_;clear SS;intro Xa Ba SS;simp only[nn])))
 have hS1:Sy w _ [B] [Am B Em,Am Ba (Mv 0)]:=(Aa SS).drew
 clear SS
 have cu: ∀{X:World} {M:List Ob},Sy w X [B] ([Am B Em]++M)->Sy w X [B] [Am B Em]:=fun h=>Sy.left h
 refine wp_region_held_drew (P:=prog) (S:=fun X=>Sy w X [B] [Am B Em]) (by kernel_rfl) (cu hS1) (fun hS0=> ?_)
 refine gp 0 (some 19) (.pointer (some ⟨B,0,none⟩)) rfl rfl (cu hS1) ?_
 refine gp 1 (some 20) (.pointer (some ⟨B,0,none⟩)) rfl rfl (cu hS1) ?_
 refine gp 2 (some 21) (.pointer (some ⟨B,0,none⟩)) rfl rfl (cu hS1) ?_
 refine gq 3 (some 22) (.int .i64 3) rfl rfl (fun X hX=>Ai 3 isAgg3 rfl rfl (hX.hold 0 rfl) rfl) (cu hS1) ?_
 refine gp 4 (some 23) (.pointer (some ⟨B,0,none⟩)) rfl rfl (cu hS1) ?_
 refine gp 5 (some 24) (.pointer (some ⟨B,0,none⟩)) rfl rfl (cu hS1) ?_
 refine gp 6 (some 25) (.pointer (some ⟨B,1,none⟩)) rfl rfl (cu hS1) ?_
 refine gq 7 (some 26) (.agg Be.cs.toArray) rfl rfl (fun X hX=>Aj (vs:=Be.cs) 35 5 rwV szV rfl rfl (hX.hold 0 rfl) rfl rfl) (cu hS1) ?_
 refine gq 8 (some 27) (.agg (Mv 3).toArray) rfl rfl (fun X hX=>ex_ranF rfl rfl rfl) (cu hS1) ?_
 refine gr (rs:= [9]) (Lv (vs:=Mv 3) (new:=Mv 3) 9 1 68 rfl rfl (by kernel_rfl) rfl rfl rfl rfl (oneF _) szF hS1 rfl (by simp[Dp,VV.cs,KK.cs,DD.cs,OB.cs,hcs,Ap,Be,Mv]) (by simp[Dp,VV.cs,KK.cs,DD.cs,OB.cs,hcs,Ap,Be,Mv]) (fun _ hZ=>cu hZ) ?_ gn)
 intro Yt1 hqt1
 refine wpAnyH_done (by kernel_rfl) ?_ _
 try simp only[nn]
 have SS:=Ab hqt1
 go_wp2
 refine Ra rwF szF rfl rfl rfl ((Aa SS).hold 1 rfl) rfl ?_
 exact⟨rfl,Sy.left (L:= [Am B Em]) (M:= [_]) (Aa SS)⟩
theorem Eb (B:Nat) (w:World) (H:Holds w B Em):Calls prog 23 #[Re B] w fun e w'=>e= .returned (.agg (Mv 3).toArray)/\Sy w w' [B] [Am B Em]:=by
 have SS:=Ab (Sy.one H (by decide))
 clear H
 go_enter func23,ntmps23
 go_wp2_with (first|go_skip|((with_reducible show wpList ..);first|(refine zA 68 (Mv 0) (by rfl) rfl SS ?_;clear SS;intro Xa Ba SS;simp only[nn])))
 refine(fault_r B _ ((Aa SS).hold 0 rfl)).mono ?_
 rintro _ Y1 ⟨rfl,S1⟩
 replace SS:=Ab ((Aa SS).set 0 rfl (Dr B Em) (S1.get 0 rfl) S1.fr (fun b hb=> .inl hb))
 clear S1
 go_wp2_with (first|go_skip|((with_reducible show wpList ..);first|(refine zS (hp:=(by decide)) (Mv 3) 1 68 (by rfl) rfl rfl rfl rfl (oneF _) szF SS rfl ?_;clear SS;intro Xz SS;simp only[nn])))
 refine Ra rwF szF rfl rfl rfl ((Aa SS).hold 1 rfl) rfl ?_
 exact⟨rfl,Sy.left (L:= [Am B Em]) (M:= [_]) (Aa SS)⟩
theorem Zc2 {T:TT} {W:World} (h:T.Is W):T.live.length<=T.last:=by
 have h1:T.live.length<=T.rows.length:=List.length_filter_le _ _
 have h2:=h.rise
 have h3:=h.num
 clear h
 have key: ∀(l:List RR) (m:Nat),l.Pairwise (fun a b=>a.n<b.n)->(∀r∈l,m<r.n/\r.n<=T.last)->l.length+m<=T.last∨l= []:=by
  intro l
  induction l with
  |nil=>exact fun m _ _=> .inr rfl
  |cons a l ih=>
   intro m hp hn
   left
   rw[List.pairwise_cons] at hp
   rcases ih a.n hp.2 (fun r hr=>⟨hp.1 r hr,(hn r (List.mem_cons_of_mem _ hr)).2⟩) with h|h
   ·have:=(hn a (List.mem_cons_self ..)).1
    simp only[List.length_cons]
    omega
   ·subst h
    have:=hn a (List.mem_cons_self ..)
    simp only[List.length_cons,List.length_nil]
    omega
 rcases key T.rows 0 h2 (fun r hr=>⟨(h3 r hr).1,(h3 r hr).2⟩) with h|h
 ·omega
 ·rw[h] at h1
  simp at h1
  rw[h1]
  exact Nat.zero_le _

def shC (s:PO) (v:Value):List Value:= [.int .i64 s.c]++s.p.cs++ [.bool s.x,v]
theorem Gu (s:PO) (A:Option Addr) (n c:Nat): ∀u∈shC s (.slice A n c),u.oneCell'=true:=by simp[shC,VV.cs,Value.oneCell']
def Dw:PO:=⟨0,Be,false, []⟩
theorem ex_bsh {o:Oper} {a:Act} {w:World} {x0 x1 x2 x3:Operand} (s:PO) (v:Value) (A:Option Addr) (n c:Nat) (hv:v= .slice A n c) (ho:o.op= .build 63 #[(0,x0),(1,x1),(2,x2),(3,x3)]) (h0:a.eval x0= .int .i64 s.c) (h1:a.eval x1= .agg s.p.cs.toArray) (h2:a.eval x2= .bool s.x) (h3:a.eval x3=v):(execOp a.eval o).run prog w= .ok (.value (.agg (shC s v).toArray)) w:=by
 subst hv
 have e:(Instr.build 63 #[(0, .int .i64 s.c),(1, .agg s.p.cs.toArray),(2, .bool s.x),(3, .slice A n c)]).run prog w= .ok (.agg (shC s (.slice A n c)).toArray) w:=by kernel_rfl
 unfold execOp
 simp only[ho,List.map_toArray,List.map_cons,List.map_nil,h0,h1,h2,h3]
 simp[e]
theorem pr_len (T:TT):(pr T).length=T.live.length:=List.length_map _
theorem Sy.addRow {w X Y:World} {E:List Nat} {L:List Ob} {base e s n:Nat} {v:Value} {xs:List Value} (S:Sy w X E L) (hO:Y.ownsRow X.heap.size e s v n xs) (k:Below X.heap.size X Y) (hb:base<=X.heap.size):Sy w Y E (L++ [Ls base e s v n xs]):=S.add (Rq _ _ _ _ _ _) (Uj hO hb) k (fun b hb'=>(World.ownsRow.lt hO b (by simpa [Ls] using hb')).1)
theorem shape_h (h:HP) (j:Nat) (q:OB) (w:World) (H:h.Is w) (hj:h.l[j]? =some q) (hlast:q.T.last<100000):Calls prog 50 #[.pointer (some ⟨q.b,0,none⟩)] w fun e w'=> ∃A c,e= .returned (.agg (shC q.po (.slice A q.po.ps.length c)).toArray)/\w'.ownsRow w.heap.size 106 20 (.slice A q.po.ps.length c) q.po.ps.length (Ms q.po.ps)/\Below w.heap.size w w':=by
 have hlive:q.T.live.length<=800000:=by have:=Zc2 (H.ob hj).2.1;omega
 have SS:=Ab (Sy.nil w [])
 go_enter func50,ntmps50
 go_wp2_with (first|go_skip|((with_reducible show wpList ..);first|(refine zA 63 (shC Dw (.slice none 0 0)) (by rfl) rfl SS ?_;clear SS;intro Xa Ba SS;simp only[nn])))
 have hS:Sy w _ [] [Am Ba (shC Dw (.slice none 0 0))]:=(Aa SS).drew
 clear SS
 have cu: ∀{X:World} {M:List Ob},Sy w X [] ([]++M)->Sy w X [] []:=fun h=>Sy.left h
 refine wp_region_held_drew (P:=prog) (S:=fun X=>Sy w X [] []) (by kernel_rfl) (cu hS) (fun hS0=> ?_)
 refine gp 0 (some 3) (.pointer (some ⟨q.b,0,none⟩)) rfl rfl (cu hS) ?_
 refine gp 1 (some 4) (.pointer (some ⟨q.b,0,none⟩)) rfl rfl (cu hS) ?_
 refine gp 2 (some 5) (.pointer (some ⟨q.b,0,none⟩)) rfl rfl (cu hS) ?_
 refine gq 3 (some 6) (.int .i64 q.c) rfl rfl (fun X hX=>Ai 3 isAgg3 rfl rfl ((H.on hX.fr.below).ob hj).1 rfl) (cu hS) ?_
 refine gp 4 (some 7) (.pointer (some ⟨q.b,0,none⟩)) rfl rfl (cu hS) ?_
 refine gp 5 (some 8) (.pointer (some ⟨q.b,0,none⟩)) rfl rfl (cu hS) ?_
 refine gp 6 (some 9) (.pointer (some ⟨q.b,1,none⟩)) rfl rfl (cu hS) ?_
 refine gq 7 (some 10) (.agg q.p.cs.toArray) rfl rfl (fun X hX=>Aj (vs:=q.p.cs) 35 5 rwV szV rfl rfl ((H.on hX.fr.below).ob hj).1 rfl rfl) (cu hS) ?_
 refine gp 8 (some 11) (.pointer (some ⟨q.b,0,none⟩)) rfl rfl (cu hS) ?_
 refine gp 9 (some 12) (.pointer (some ⟨q.b,0,none⟩)) rfl rfl (cu hS) ?_
 refine gp 10 (some 13) (.pointer (some ⟨q.b,6,none⟩)) rfl rfl (cu hS) ?_
 refine gq 11 (some 14) (.bool q.x) rfl rfl (fun X hX=>Ai 4 isAgg4 rfl rfl ((H.on hX.fr.below).ob hj).1 rfl) (cu hS) ?_
 refine gp 12 (some 15) (.pointer (some ⟨q.b,0,none⟩)) rfl rfl (cu hS) ?_
 refine gp 13 (some 16) (.pointer (some ⟨q.b,0,none⟩)) rfl rfl (cu hS) ?_
 refine gp 14 (some 17) (.pointer (some ⟨q.b,7,none⟩)) rfl rfl (cu hS) ?_
 refine gq 15 (some 18) (.pointer (some ⟨q.T.t,0,none⟩)) rfl rfl (fun X hX=>Ai 135 isAgg135 rfl rfl ((H.on hX.fr.below).ob hj).1 rfl) (cu hS) ?_
 refine gr (rs:= [16]) (gc 16 (some 19) rfl rfl (props27 q.T _ ((H.on hS.fr.below).ob hj).2.1 (by omega) hlive) ?_ gn)
 rintro e Y1 ⟨v,rfl,hO1,hY1⟩
 obtain⟨A,c,rfl⟩:=Jo hO1
 have hq1:=Sy.addRow hS hO1 hY1 hS.fr.size
 refine⟨_,rfl,cu hq1, ?_⟩
 refine gq 17 (some 20) (.agg (shC q.po (.slice A q.T.live.length c)).toArray) rfl rfl (fun X hX=>ex_bsh q.po _ A _ c rfl rfl rfl rfl rfl rfl) (cu hq1) ?_
 refine gr (rs:= [18]) (Lv (vs:=shC q.po (.slice A q.T.live.length c)) (new:=shC q.po (.slice A q.T.live.length c)) 18 0 63 rfl rfl (by kernel_rfl) rfl rfl rfl rfl (Gu _ _ _ _) szS hq1 rfl (by simp[Dp,shC,Dw,VV.cs,KK.cs,DD.cs,OB.cs,hcs,Ap,Be]) (by simp[Dp,shC,Dw,VV.cs,KK.cs,DD.cs,OB.cs,hcs,Ap,Be]) (fun _ hZ=>cu hZ) ?_ gn)
 intro Y2 hq2
 refine wpAnyH_done (by kernel_rfl) ?_ _
 try simp only[nn]
 have SS:=Ab hq2
 go_wp2
 refine Ra rwS szS rfl rfl rfl ((Aa SS).hold 0 rfl) rfl ?_
 refine⟨A,c,by rw[show q.po.ps.length=q.T.live.length from pr_len _], ?_,(Aa SS).fr.below⟩
 show World.ownsRow _ _ _ _ (.slice A (pr q.T).length c) (pr q.T).length _
 rw[pr_len]
 exact(Aa SS).get 1 rfl
theorem Gk (h:HP) (j:Nat) (q:OB) (w:World) (H:h.Is w) (hl:h.l.length<=65536) (hj:h.l[j]? =some q) (hlast:q.T.last<100000):Calls prog 21 #[.pointer (some ⟨h.b,0,none⟩), .int .i64 ((j:Int)+1)] w fun e w'=> ∃A c,e= .returned (.tuple #[.agg (shC q.po (.slice A q.po.ps.length c)).toArray, .int .i64 0])/\w'.ownsRow w.heap.size 106 20 (.slice A q.po.ps.length c) q.po.ps.length (Ms q.po.ps)/\Below w.heap.size w w':=by
 have hth:=Xu hj
 have SS:=Ab (Sy.nil w [])
 go_enter func21,ntmps21
 go_wp2_with (first|go_skip|((with_reducible show wpList ..);first|(refine zA 63 (shC Dw (.slice none 0 0)) (by rfl) rfl SS ?_;clear SS;intro Xa Ba SS;simp only[nn])))
 refine(Pf h _ _ (H.on (Aa SS).fr.below)).mono ?_
 rintro _ _ ⟨rfl,rfl⟩
 rw[hth]
 go_wp2_with fail
 refine(Qu h j q _ (H.on (Aa SS).fr.below) hj hl).mono ?_
 rintro _ _ ⟨rfl,rfl⟩
 go_wp2_with fail
 refine(shape_h h j q _ (H.on (Aa SS).fr.below) hj hlast).mono ?_
 rintro _ Y ⟨A,c,rfl,hO,hb⟩
 replace SS:=Ab ((Aa SS).addRow hO hb (base:=w.heap.size) (Aa SS).fr.size)
 clear hO hb
 go_wp2_with (first|go_skip|((with_reducible show wpList ..);first|(refine zS (hp:=(by simp[shC,Dw,VV.cs])) (shC q.po (.slice A q.po.ps.length c)) 0 63 (by rfl) rfl rfl rfl rfl (Gu _ _ _ _) szS SS rfl ?_;clear SS;intro Xz SS;simp only[nn])))
 refine bodyPost_ret (res_ct rwS szS rfl rfl rfl ((Aa SS).hold 0 rfl) rfl) rfl ?_
 exact⟨A,c,rfl,(Aa SS).get 1 rfl,(Aa SS).fr.below⟩
