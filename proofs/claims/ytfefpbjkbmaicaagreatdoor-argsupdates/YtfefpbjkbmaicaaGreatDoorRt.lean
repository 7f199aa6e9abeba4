import Derived.Test.YtfefpbjkbmaicaaGreatDoorRp
set_option linter.all false
namespace Go.Proofs.YtfefpbjkbmaicaaGreatDoor
set_option maxRecDepth 100000
set_option maxHeartbeats 0
section
open Go Go.Proofs Go.Maps Go.RowKit FM Tryz
attribute [local go_sem] Av Ap Dv Du De Au Ao Az Dd Gu Gt
noncomputable def PM.follow (p:PM) (n:Nat) (a:PA) (d:DD):PM:=if Qo d=true∨d.w=1 then (if d.v.k=0 then p else p.val n ⟨a.n,d.v,a.t⟩).loose a.t else (if d.v.k=0 then p else p.val n ⟨a.n,d.v,a.t⟩)
theorem Sy.cellP {w0 w:World} {E:List Nat} {L:List Ob} {g c n j pp q:Nat} {l:List PA} {x0 x':PA} {vs:List Value} {V:Value} (hL:Sy w0 w E L) (i:Nat) (hV:V= .slice (some ⟨g,0,none⟩) n c) (hg:L[i]? =some (Ew 0 89 7 V n (l.flatMap PA.cs))) (hn:l.length=n) (hr:l[j]? =some x0) (hp:pp+vs.length<=7) (he:Dq x0.cs pp vs=x'.cs) (hq:q=0+j * 7+pp):Sy w0 (w.setCells g q vs) E (L.set i (Ew 0 89 7 V n ((l.set j x').flatMap PA.cs)))/\w.there g q vs.length:=by
 subst hV hq
 have hj:=(List.getElem?_eq_some_iff.1 hr).1
 have hlen:0+j * 7+pp+vs.length<=(l.flatMap PA.cs).length:=by
  rw[Nd PA.cs 7 Rs]
  have h2:(j+1) * 7<=l.length * 7:=Nat.mul_le_mul_right 7 hj
  rw[Nat.add_mul] at h2
  omega
 have hC:=hL.cell i hg (p:=0+j * 7+pp) (vs:=vs) hlen
 rw[Zan PA.cs 7 Rs hr hp he] at hC
 exact⟨hC,Vl (hL.get i hg) hlen⟩
theorem ex_stR {o:Oper} {a:Act} {w:World} {ty g q:Nat} {vs:List Value} {v:Value} {x y:Operand} (ho:o.op= .store ty x y) (hx:a.eval x= .pointer (some ⟨g,q,none⟩)) (hy:a.eval y=v) (hv:v.cells.toList=vs) (h1: ∀u∈vs,u.oneCell'=true) (hi:(prog.info? ty).map (·.size)=some vs.length) (hth:w.there g q vs.length):(execOp a.eval o).run prog w= .ok .skip (w.setCells g q vs):=by
 unfold execOp
 simp only[ho,hx,hy,Instr.storeAt,Instr.sureAddr,Sem.run_bind,Sem.run_pure,Result.andThen_ok,Ei w g q ty v vs hv hth hi h1]
theorem Sy.cellX {w0 w:World} {E:List Nat} {L:List Ob} {g c n j pp q:Nat} {l:List PA} {x0 x':PA} {vs:List Value} {V:Value} (hL:Sy w0 w E L) (i:Nat) (hV:V= .slice (some ⟨g,0,none⟩) n c) (hg:L[i]? =some (Ew 0 89 7 V n (l.flatMap PA.cs))) (hn:l.length=n) (hr:l[j]? =some x0) (hp:pp+vs.length<=7) (he:Dq x0.cs pp vs=x'.cs) (hq:q=0+j * 7+pp): ∃X,Sy w0 X E (L.set i (Ew 0 89 7 V n ((l.set j x').flatMap PA.cs)))/\ ∀{o:Oper} {a:Act} {ty:TypeId} {v:Value} {x y:Operand},o.op= .store ty x y->a.eval x= .pointer (some ⟨g,q,none⟩)->a.eval y=v->v.cells.toList=vs->(∀u∈vs,u.oneCell'=true)->(prog.info? ty).map (·.size)=some vs.length->(execOp a.eval o).run prog w= .ok .skip X:=by
 obtain⟨h1,h2⟩:=hL.cellP i hV hg hn hr hp he hq
 exact⟨_,h1,fun ho hx hy hv h3 hi=>ex_stR ho hx hy hv h3 hi h2⟩
theorem Ge {o:Oper} {a:Act} {w:World} {x y:Operand} {n m:Int} {r:Bool} (ho:o.op= .binOp .eql 27 x y 27) (hx:a.eval x= .int .i64 n) (hc:a.eval y= .int .i64 m) (h:decide (n=m)=r):(execOp a.eval o).run prog w= .ok (.value (.bool r)) w:=by
 unfold execOp
 simp only[ho,hx,hc]
 subst h
 by_cases e:n=m<;>simp[go_sem,eqGuard,e]
theorem follow_h (p:PM) (n:Nat) (a:PA) (d:DD) (w:World) (H:p.Is w) (hj:p.l[n]? =some a) (ht:a.t<=1000000):Calls prog 176 #[.pointer (some ⟨p.b,0,none⟩), .int .i64 (n:Nat),d.agg] w fun e w'=>e= .returned (.tuple #[])/\p.To (p.follow n a d) w w':=by
 obtain⟨g,c0,hlv⟩:=H.at hj
 have hjl:=(List.getElem?_eq_some_iff.1 hj).1
 have HLV:=Ac hlv
 clear hlv
 obtain⟨q,hq⟩: ∃q,q=0+n * 7:=⟨_,rfl⟩
 have HQ:=Ac hq
 clear hq
 by_cases hk0:d.v.k=0
 ·cases hac:Qo d
  ·cases hw1:decide (d.w=1)
   ·have SS:Hid (Sy w w p.blocks [Al p.b (pcs p),Ew 0 89 7 p.lv p.l.length (p.l.flatMap PA.cs),Gd KS p.pb p.pn p.pF,Gd KI p.tb p.tn p.tF]):=Ac H.sy
    rw[Em]
    go_enter func176,ntmps176
    go_wp2_with (first|go_skip|((with_reducible show wpList ..);first|(refine zB 29 (d.cs) (by rfl) rfl rfl rfl SS ?_;clear SS;intro Xa Ba SS;simp only[nn])|(refine rd rfl (Aj 3 isAgg3 rfl rfl ((Aa SS).hold 4 rfl) rfl) ?_)|(refine rd rfl (Ex rfl rfl rfl hk0) ?_)|(refine zL (d.cs) 29 18 4 rwD szD (by rfl) rfl rfl SS rfl rfl rfl ?_;simp only[nn])))
    have HAC:=Jt d
    simp only[Em] at HAC
    refine(HAC _).mono ?_
    clear HAC
    rintro _ Y1 ⟨rfl,hb1⟩
    replace SS:=Ac ((Aa SS).on hb1)
    clear hb1
    rw[hac]
    go_wp2_with (first|go_skip|((with_reducible show wpList ..);first|(refine rd rfl (Aj 27 isAgg27 rfl rfl ((Aa SS).hold 4 rfl) rfl) ?_)|(refine rd rfl (Ge rfl rfl rfl hw1) ?_)))
    refine bodyPost_end (results_none rfl _ _ _) rfl ?_
    refine⟨rfl, ?_⟩
    rw[show p.follow n a d=p by unfold PM.follow;rw[if_neg (by simp[hac];simpa using hw1),if_pos hk0]]
    exact PM.To.end (M:= [_]) (Aa SS) rfl
   ·have SS:Hid (Sy w w p.blocks [Al p.b (pcs p),Ew 0 89 7 p.lv p.l.length (p.l.flatMap PA.cs),Gd KS p.pb p.pn p.pF,Gd KI p.tb p.tn p.tF]):=Ac H.sy
    rw[Em]
    go_enter func176,ntmps176
    go_wp2_with (first|go_skip|((with_reducible show wpList ..);first|(refine zB 29 (d.cs) (by rfl) rfl rfl rfl SS ?_;clear SS;intro Xa Ba SS;simp only[nn])|(refine rd rfl (Aj 3 isAgg3 rfl rfl ((Aa SS).hold 4 rfl) rfl) ?_)|(refine rd rfl (Ex rfl rfl rfl hk0) ?_)|(refine zL (d.cs) 29 18 4 rwD szD (by rfl) rfl rfl SS rfl rfl rfl ?_;simp only[nn])))
    have HAC:=Jt d
    simp only[Em] at HAC
    refine(HAC _).mono ?_
    clear HAC
    rintro _ Y1 ⟨rfl,hb1⟩
    replace SS:=Ac ((Aa SS).on hb1)
    clear hb1
    rw[hac]
    go_wp2_with (first|go_skip|((with_reducible show wpList ..);first|(refine rd rfl (Aj 27 isAgg27 rfl rfl ((Aa SS).hold 4 rfl) rfl) ?_)|(refine rd rfl (Ge rfl rfl rfl hw1) ?_)))
    have A1:p.To (p) w _:=PM.To.end (M:= [_]) (Aa SS) rfl
    refine(Mx (p) n a _ A1.is hj ht).mono ?_
    rintro _ Y3 ⟨rfl,A3⟩
    have A4:=Ac (A1.trans A3)
    clear A1 A3 SS
    go_wp2
    refine bodyPost_end (results_none rfl _ _ _) rfl ?_
    refine⟨rfl, ?_⟩
    rw[show p.follow n a d=(p).loose a.t by unfold PM.follow;rw[if_pos (by exact .inr (by simpa using hw1)),if_pos hk0]]
    exact Aa A4
  ·have SS:Hid (Sy w w p.blocks [Al p.b (pcs p),Ew 0 89 7 p.lv p.l.length (p.l.flatMap PA.cs),Gd KS p.pb p.pn p.pF,Gd KI p.tb p.tn p.tF]):=Ac H.sy
   rw[Em]
   go_enter func176,ntmps176
   go_wp2_with (first|go_skip|((with_reducible show wpList ..);first|(refine zB 29 (d.cs) (by rfl) rfl rfl rfl SS ?_;clear SS;intro Xa Ba SS;simp only[nn])|(refine rd rfl (Aj 3 isAgg3 rfl rfl ((Aa SS).hold 4 rfl) rfl) ?_)|(refine rd rfl (Ex rfl rfl rfl hk0) ?_)|(refine zL (d.cs) 29 18 4 rwD szD (by rfl) rfl rfl SS rfl rfl rfl ?_;simp only[nn])))
   have HAC:=Jt d
   simp only[Em] at HAC
   refine(HAC _).mono ?_
   clear HAC
   rintro _ Y1 ⟨rfl,hb1⟩
   replace SS:=Ac ((Aa SS).on hb1)
   clear hb1
   rw[hac]
   go_wp2_with fail
   have A1:p.To (p) w _:=PM.To.end (M:= [_]) (Aa SS) rfl
   refine(Mx (p) n a _ A1.is hj ht).mono ?_
   rintro _ Y3 ⟨rfl,A3⟩
   have A4:=Ac (A1.trans A3)
   clear A1 A3 SS
   go_wp2
   refine bodyPost_end (results_none rfl _ _ _) rfl ?_
   refine⟨rfl, ?_⟩
   rw[show p.follow n a d=(p).loose a.t by unfold PM.follow;rw[if_pos (by exact .inl hac),if_pos hk0]]
   exact Aa A4
 ·cases hac:Qo d
  ·cases hw1:decide (d.w=1)
   ·have SS:Hid (Sy w w p.blocks [Al p.b (pcs p),Ew 0 89 7 p.lv p.l.length (p.l.flatMap PA.cs),Gd KS p.pb p.pn p.pF,Gd KI p.tb p.tn p.tF]):=Ac H.sy
    rw[Em]
    go_enter func176,ntmps176
    go_wp2_with (first|go_skip|((with_reducible show wpList ..);first|(refine zB 29 (d.cs) (by rfl) rfl rfl rfl SS ?_;clear SS;intro Xa Ba SS;simp only[nn])|(refine rd rfl (Aj 3 isAgg3 rfl rfl ((Aa SS).hold 4 rfl) rfl) ?_)|(refine rd rfl (Jb rfl rfl rfl hk0) ?_)))
    have hS:Sy w _ p.blocks [Al p.b (pcs p),Ew 0 89 7 p.lv p.l.length (p.l.flatMap PA.cs),Gd KS p.pb p.pn p.pF,Gd KI p.tb p.tn p.tF,Al Ba d.cs]:=(Aa SS).drew
    clear SS
    refine wp_region_held_drew (P:=prog) (S:=fun X=>Holds X p.b (pcs p)/\Holds X Ba d.cs) (by kernel_rfl) (⟨hS.hold 0 rfl,hS.hold 4 rfl⟩) (fun hS0=> ?_)
    refine gp 0 (some 10) (.pointer (some ⟨p.b,0,none⟩)) rfl rfl (⟨hS.hold 0 rfl,hS.hold 4 rfl⟩) ?_
    refine gp 1 (some 11) (.pointer (some ⟨p.b,0,none⟩)) rfl rfl (⟨hS.hold 0 rfl,hS.hold 4 rfl⟩) ?_
    refine gp 2 (some 12) (.pointer (some ⟨p.b,0,none⟩)) rfl rfl (⟨hS.hold 0 rfl,hS.hold 4 rfl⟩) ?_
    refine gq 3 (some 13) (p.lv) rfl rfl (fun X hX=>Aj 82 isAgg82 rfl rfl hX.1 rfl) (⟨hS.hold 0 rfl,hS.hold 4 rfl⟩) ?_
    refine gp 4 (some 14) (.int .i64 (n:Nat)) rfl rfl (⟨hS.hold 0 rfl,hS.hold 4 rfl⟩) ?_
    refine gp 5 (some 15) (.pointer (some ⟨Ba,0,none⟩)) rfl rfl (⟨hS.hold 0 rfl,hS.hold 4 rfl⟩) ?_
    refine gq 6 (some 16) (.agg d.v.cs.toArray) rfl rfl (fun X hX=>Ax (vs:=d.v.cs) 26 5 rwV szV rfl rfl hX.2 rfl rfl) (⟨hS.hold 0 rfl,hS.hold 4 rfl⟩) ?_
    refine gq 7 (some 17) (.pointer (some ⟨g,q,none⟩)) rfl rfl (fun X hX=>Km q n rfl rfl (Aa HLV) rfl hjl (Aa HQ)) (⟨hS.hold 0 rfl,hS.hold 4 rfl⟩) ?_
    refine gp 8 (some 18) (.pointer (some ⟨g,q+1,none⟩)) rfl rfl (⟨hS.hold 0 rfl,hS.hold 4 rfl⟩) ?_
    obtain⟨X8,hq9,hth9⟩:=Sy.cellX (x':=⟨a.n,d.v,a.t⟩) (vs:=d.v.cs) (pp:=1) (q:=q+1) hS 1 (Aa HLV) rfl rfl hj (by simp[VV.cs]) (by simp[Dq,PA.cs,VV.cs]) (by rw[Aa HQ])
    refine gr (rs:= [9]) (Nb 9 none rfl rfl (by kernel_rfl) (hth9 rfl rfl rfl rfl (Eb _) szV) ⟨hq9.hold 0 rfl,hq9.hold 4 rfl⟩ ?_ gn)
    simp only[nn]
    refine wpAnyH_done (by kernel_rfl) ?_ _
    try simp only[nn]
    have SS:=Ac hq9
    clear hq9 hth9
    go_wp2_with (first|go_skip|((with_reducible show wpList ..);first|(refine zL (d.cs) 29 18 4 rwD szD (by rfl) rfl rfl SS rfl rfl rfl ?_;simp only[nn])))
    have HAC:=Jt d
    simp only[Em] at HAC
    refine(HAC _).mono ?_
    clear HAC
    rintro _ Y1 ⟨rfl,hb1⟩
    replace SS:=Ac ((Aa SS).on hb1)
    clear hb1
    rw[hac]
    go_wp2_with (first|go_skip|((with_reducible show wpList ..);first|(refine rd rfl (Aj 27 isAgg27 rfl rfl ((Aa SS).hold 4 rfl) rfl) ?_)|(refine rd rfl (Ge rfl rfl rfl hw1) ?_)))
    refine bodyPost_end (results_none rfl _ _ _) rfl ?_
    refine⟨rfl, ?_⟩
    rw[show p.follow n a d=p.val n ⟨a.n,d.v,a.t⟩ by unfold PM.follow;rw[if_neg (by simp[hac];simpa using hw1),if_neg hk0]]
    exact Ox (M:= [_]) (Aa SS)
   ·have SS:Hid (Sy w w p.blocks [Al p.b (pcs p),Ew 0 89 7 p.lv p.l.length (p.l.flatMap PA.cs),Gd KS p.pb p.pn p.pF,Gd KI p.tb p.tn p.tF]):=Ac H.sy
    rw[Em]
    go_enter func176,ntmps176
    go_wp2_with (first|go_skip|((with_reducible show wpList ..);first|(refine zB 29 (d.cs) (by rfl) rfl rfl rfl SS ?_;clear SS;intro Xa Ba SS;simp only[nn])|(refine rd rfl (Aj 3 isAgg3 rfl rfl ((Aa SS).hold 4 rfl) rfl) ?_)|(refine rd rfl (Jb rfl rfl rfl hk0) ?_)))
    have hS:Sy w _ p.blocks [Al p.b (pcs p),Ew 0 89 7 p.lv p.l.length (p.l.flatMap PA.cs),Gd KS p.pb p.pn p.pF,Gd KI p.tb p.tn p.tF,Al Ba d.cs]:=(Aa SS).drew
    clear SS
    refine wp_region_held_drew (P:=prog) (S:=fun X=>Holds X p.b (pcs p)/\Holds X Ba d.cs) (by kernel_rfl) (⟨hS.hold 0 rfl,hS.hold 4 rfl⟩) (fun hS0=> ?_)
    refine gp 0 (some 10) (.pointer (some ⟨p.b,0,none⟩)) rfl rfl (⟨hS.hold 0 rfl,hS.hold 4 rfl⟩) ?_
    refine gp 1 (some 11) (.pointer (some ⟨p.b,0,none⟩)) rfl rfl (⟨hS.hold 0 rfl,hS.hold 4 rfl⟩) ?_
    refine gp 2 (some 12) (.pointer (some ⟨p.b,0,none⟩)) rfl rfl (⟨hS.hold 0 rfl,hS.hold 4 rfl⟩) ?_
    refine gq 3 (some 13) (p.lv) rfl rfl (fun X hX=>Aj 82 isAgg82 rfl rfl hX.1 rfl) (⟨hS.hold 0 rfl,hS.hold 4 rfl⟩) ?_
    refine gp 4 (some 14) (.int .i64 (n:Nat)) rfl rfl (⟨hS.hold 0 rfl,hS.hold 4 rfl⟩) ?_
    refine gp 5 (some 15) (.pointer (some ⟨Ba,0,none⟩)) rfl rfl (⟨hS.hold 0 rfl,hS.hold 4 rfl⟩) ?_
    refine gq 6 (some 16) (.agg d.v.cs.toArray) rfl rfl (fun X hX=>Ax (vs:=d.v.cs) 26 5 rwV szV rfl rfl hX.2 rfl rfl) (⟨hS.hold 0 rfl,hS.hold 4 rfl⟩) ?_
    refine gq 7 (some 17) (.pointer (some ⟨g,q,none⟩)) rfl rfl (fun X hX=>Km q n rfl rfl (Aa HLV) rfl hjl (Aa HQ)) (⟨hS.hold 0 rfl,hS.hold 4 rfl⟩) ?_
    refine gp 8 (some 18) (.pointer (some ⟨g,q+1,none⟩)) rfl rfl (⟨hS.hold 0 rfl,hS.hold 4 rfl⟩) ?_
    obtain⟨X8,hq9,hth9⟩:=Sy.cellX (x':=⟨a.n,d.v,a.t⟩) (vs:=d.v.cs) (pp:=1) (q:=q+1) hS 1 (Aa HLV) rfl rfl hj (by simp[VV.cs]) (by simp[Dq,PA.cs,VV.cs]) (by rw[Aa HQ])
    refine gr (rs:= [9]) (Nb 9 none rfl rfl (by kernel_rfl) (hth9 rfl rfl rfl rfl (Eb _) szV) ⟨hq9.hold 0 rfl,hq9.hold 4 rfl⟩ ?_ gn)
    simp only[nn]
    refine wpAnyH_done (by kernel_rfl) ?_ _
    try simp only[nn]
    have SS:=Ac hq9
    clear hq9 hth9
    go_wp2_with (first|go_skip|((with_reducible show wpList ..);first|(refine zL (d.cs) 29 18 4 rwD szD (by rfl) rfl rfl SS rfl rfl rfl ?_;simp only[nn])))
    have HAC:=Jt d
    simp only[Em] at HAC
    refine(HAC _).mono ?_
    clear HAC
    rintro _ Y1 ⟨rfl,hb1⟩
    replace SS:=Ac ((Aa SS).on hb1)
    clear hb1
    rw[hac]
    go_wp2_with (first|go_skip|((with_reducible show wpList ..);first|(refine rd rfl (Aj 27 isAgg27 rfl rfl ((Aa SS).hold 4 rfl) rfl) ?_)|(refine rd rfl (Ge rfl rfl rfl hw1) ?_)))
    have A1:p.To (p.val n ⟨a.n,d.v,a.t⟩) w _:=Ox (M:= [_]) (Aa SS)
    refine(Mx (p.val n ⟨a.n,d.v,a.t⟩) n ⟨a.n,d.v,a.t⟩ _ A1.is (List.getElem?_set_self hjl) ht).mono ?_
    rintro _ Y3 ⟨rfl,A3⟩
    have A4:=Ac (A1.trans A3)
    clear A1 A3 SS
    go_wp2
    refine bodyPost_end (results_none rfl _ _ _) rfl ?_
    refine⟨rfl, ?_⟩
    rw[show p.follow n a d=(p.val n ⟨a.n,d.v,a.t⟩).loose a.t by unfold PM.follow;rw[if_pos (by exact .inr (by simpa using hw1)),if_neg hk0]]
    exact Aa A4
  ·have SS:Hid (Sy w w p.blocks [Al p.b (pcs p),Ew 0 89 7 p.lv p.l.length (p.l.flatMap PA.cs),Gd KS p.pb p.pn p.pF,Gd KI p.tb p.tn p.tF]):=Ac H.sy
   rw[Em]
   go_enter func176,ntmps176
   go_wp2_with (first|go_skip|((with_reducible show wpList ..);first|(refine zB 29 (d.cs) (by rfl) rfl rfl rfl SS ?_;clear SS;intro Xa Ba SS;simp only[nn])|(refine rd rfl (Aj 3 isAgg3 rfl rfl ((Aa SS).hold 4 rfl) rfl) ?_)|(refine rd rfl (Jb rfl rfl rfl hk0) ?_)))
   have hS:Sy w _ p.blocks [Al p.b (pcs p),Ew 0 89 7 p.lv p.l.length (p.l.flatMap PA.cs),Gd KS p.pb p.pn p.pF,Gd KI p.tb p.tn p.tF,Al Ba d.cs]:=(Aa SS).drew
   clear SS
   refine wp_region_held_drew (P:=prog) (S:=fun X=>Holds X p.b (pcs p)/\Holds X Ba d.cs) (by kernel_rfl) (⟨hS.hold 0 rfl,hS.hold 4 rfl⟩) (fun hS0=> ?_)
   refine gp 0 (some 10) (.pointer (some ⟨p.b,0,none⟩)) rfl rfl (⟨hS.hold 0 rfl,hS.hold 4 rfl⟩) ?_
   refine gp 1 (some 11) (.pointer (some ⟨p.b,0,none⟩)) rfl rfl (⟨hS.hold 0 rfl,hS.hold 4 rfl⟩) ?_
   refine gp 2 (some 12) (.pointer (some ⟨p.b,0,none⟩)) rfl rfl (⟨hS.hold 0 rfl,hS.hold 4 rfl⟩) ?_
   refine gq 3 (some 13) (p.lv) rfl rfl (fun X hX=>Aj 82 isAgg82 rfl rfl hX.1 rfl) (⟨hS.hold 0 rfl,hS.hold 4 rfl⟩) ?_
   refine gp 4 (some 14) (.int .i64 (n:Nat)) rfl rfl (⟨hS.hold 0 rfl,hS.hold 4 rfl⟩) ?_
   refine gp 5 (some 15) (.pointer (some ⟨Ba,0,none⟩)) rfl rfl (⟨hS.hold 0 rfl,hS.hold 4 rfl⟩) ?_
   refine gq 6 (some 16) (.agg d.v.cs.toArray) rfl rfl (fun X hX=>Ax (vs:=d.v.cs) 26 5 rwV szV rfl rfl hX.2 rfl rfl) (⟨hS.hold 0 rfl,hS.hold 4 rfl⟩) ?_
   refine gq 7 (some 17) (.pointer (some ⟨g,q,none⟩)) rfl rfl (fun X hX=>Km q n rfl rfl (Aa HLV) rfl hjl (Aa HQ)) (⟨hS.hold 0 rfl,hS.hold 4 rfl⟩) ?_
   refine gp 8 (some 18) (.pointer (some ⟨g,q+1,none⟩)) rfl rfl (⟨hS.hold 0 rfl,hS.hold 4 rfl⟩) ?_
   obtain⟨X8,hq9,hth9⟩:=Sy.cellX (x':=⟨a.n,d.v,a.t⟩) (vs:=d.v.cs) (pp:=1) (q:=q+1) hS 1 (Aa HLV) rfl rfl hj (by simp[VV.cs]) (by simp[Dq,PA.cs,VV.cs]) (by rw[Aa HQ])
   refine gr (rs:= [9]) (Nb 9 none rfl rfl (by kernel_rfl) (hth9 rfl rfl rfl rfl (Eb _) szV) ⟨hq9.hold 0 rfl,hq9.hold 4 rfl⟩ ?_ gn)
   simp only[nn]
   refine wpAnyH_done (by kernel_rfl) ?_ _
   try simp only[nn]
   have SS:=Ac hq9
   clear hq9 hth9
   go_wp2_with (first|go_skip|((with_reducible show wpList ..);first|(refine zL (d.cs) 29 18 4 rwD szD (by rfl) rfl rfl SS rfl rfl rfl ?_;simp only[nn])))
   have HAC:=Jt d
   simp only[Em] at HAC
   refine(HAC _).mono ?_
   clear HAC
   rintro _ Y1 ⟨rfl,hb1⟩
   replace SS:=Ac ((Aa SS).on hb1)
   clear hb1
   rw[hac]
   go_wp2_with fail
   have A1:p.To (p.val n ⟨a.n,d.v,a.t⟩) w _:=Ox (M:= [_]) (Aa SS)
   refine(Mx (p.val n ⟨a.n,d.v,a.t⟩) n ⟨a.n,d.v,a.t⟩ _ A1.is (List.getElem?_set_self hjl) ht).mono ?_
   rintro _ Y3 ⟨rfl,A3⟩
   have A4:=Ac (A1.trans A3)
   clear A1 A3 SS
   go_wp2
   refine bodyPost_end (results_none rfl _ _ _) rfl ?_
   refine⟨rfl, ?_⟩
   rw[show p.follow n a d=(p.val n ⟨a.n,d.v,a.t⟩).loose a.t by unfold PM.follow;rw[if_pos (by exact .inl hac),if_neg hk0]]
   exact Aa A4
