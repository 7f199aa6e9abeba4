import Derived.Test.YtfefpbjkbmaicaaGreatDoorRg
set_option linter.all false
namespace Go.Proofs.YtfefpbjkbmaicaaGreatDoor
set_option maxRecDepth 100000
set_option maxHeartbeats 0
section
open Go Go.Proofs Go.Maps Go.RowKit FM Tryz
attribute [local go_sem] Av Ap Dv Du De Au Ao Az Dd Gu Gt
def Aq (n:Nat) (v:VV):Int:=if v.good then By n [v] else 5
section
variable {ops : Array Oper} {rest : List Oper} {Q : Exit → Act → World → Prop} {w w0 : World} {a : Act} {o : Oper} {E : List Nat} {L : List Ob}
theorem bsV1 {v:VV} {x:Operand} (hw:Region.wanted o (yielded ops a.tmps)=true) (ho:o.op= .buildSlice 22 1 #[(0,x)]) (hx:a.eval x= .agg v.cs.toArray) (hL:Sy w0 w E L)
  (h: ∀X B,Sy w0 X E (L++ [Al B ([v].flatMap VV.cs)])->wpList prog ops Q rest (a.put o.dst (.slice (some ⟨B,0,none⟩) 1 1)) X):wpList prog ops Q (o::rest) a w:=by
 refine BigFrame.wpList_want hw fun K hK=> ?_
 have hP:=hK _ _ (h _ _ (hL.box ([v].flatMap VV.cs) 26 (Nat.succ_pos _)))
 unfold Oper.wp
 rw[Bi ho hx]
 exact hP
end
theorem Jy (h:HP) (v:VV) (w:World) (H:h.Is w) (hT:Lib.Utf8Tabs 4 5 w):Calls prog 21 #[.pointer (some ⟨h.b,0,none⟩),v.agg] w fun e w'=>e= .returned (.int .i64 (Aq h.l.length v))/\Below w.heap.size w w':=by
 unfold Aq
 obtain⟨z,hz⟩: ∃z,v.good=z:=⟨_,rfl⟩
 rw[hz]
 cases z
 ·have SS:=Ac (Sy.nil w [])
  rw[Dk]
  go_enter func21,ntmps21
  go_wp2_with (first|go_skip|((with_reducible show wpList ..);first|(refine zB 26 (v.cs) (by rfl) rfl rfl rfl SS ?_;clear SS;intro Xa Ba SS;simp only[nn])|(refine zL (v.cs) 26 5 0 rwV szV (by rfl) rfl rfl SS rfl rfl rfl ?_;simp only[nn])))
  have HC:=Jf v _ (Bf hT (Aa SS).fr.below)
  rw[Dk] at HC
  refine HC.mono ?_
  rintro e X5 ⟨rfl,hb5⟩
  replace SS:=Ac ((Aa SS).on hb5)
  clear hb5 HC
  rw[show Ql v.good=5 by rw[hz];rfl]
  go_wp2
  go_ret
  exact⟨rfl,(Aa SS).fr.below⟩
 ·have SS:=Ac (Sy.nil w [])
  rw[Dk]
  go_enter func21,ntmps21
  go_wp2_with (first|go_skip|((with_reducible show wpList ..);first|(refine zB 26 (v.cs) (by rfl) rfl rfl rfl SS ?_;clear SS;intro Xa Ba SS;simp only[nn])|(refine zL (v.cs) 26 5 0 rwV szV (by rfl) rfl rfl SS rfl rfl rfl ?_;simp only[nn])))
  have HC:=Jf v _ (Bf hT (Aa SS).fr.below)
  rw[Dk] at HC
  refine HC.mono ?_
  rintro e X5 ⟨rfl,hb5⟩
  replace SS:=Ac ((Aa SS).on hb5)
  clear hb5 HC
  rw[show Ql v.good=0 by rw[hz];rfl]
  go_wp2_with (first|go_skip|((with_reducible show wpList ..);first|(refine zL (v.cs) 26 5 0 rwV szV (by rfl) rfl rfl SS rfl rfl rfl ?_;simp only[nn])|((refine bsV1 (v:=v) (by rfl) rfl rfl (Aa SS) ?_);intro X6 B6 S6;replace SS:=Ac S6;clear S6;simp only[nn])))
  refine(Rd h _ 1 [v] _ (H.on (Aa SS).fr.below) (Ah ((Aa SS).hold 1 rfl)) (by simp)).mono ?_
  rintro e X7 ⟨rfl,hb7⟩
  replace SS:=Ac ((Aa SS).on hb7)
  clear hb7
  go_wp2
  go_ret
  exact⟨rfl,(Aa SS).fr.below⟩
def Jk (h:HP):Int:=if h.cap<=(h.l.length:Int) then 3 else 0
theorem ex_geq {o:Oper} {a:Act} {w:World} {x y:Operand} {n m:Int} (b:Bool) (ho:o.op= .binOp .geq 3 x y 3) (hx:a.eval x= .int .i64 n) (hc:a.eval y= .int .i64 m) (h:decide (m<=n)=b):(execOp a.eval o).run prog w= .ok (.value (.bool b)) w:=by
 subst h
 unfold execOp
 simp only[ho,hx,hc]
 simp[go_sem,eqGuard]
theorem room_h (h:HP) (w:World) (H:h.Is w):Calls prog 52 #[.pointer (some ⟨h.b,0,none⟩)] w fun e w'=>e= .returned (.int .i64 (Jk h))/\Below w.heap.size w w':=by
 unfold Jk
 by_cases hr:h.cap<=(h.l.length:Int)
 ·rw[if_pos hr]
  have hc:decide (h.cap<=(h.l.length:Int))=true:=decide_eq_true hr
  have hS:Sy w w.drew [] []:=(Sy.nil w []).drew
  go_enter func52,ntmps52
  go_wp2_with fail
  refine wp_region_held_drew (P:=prog) (S:=fun X=>Sy w X [] _) (by kernel_rfl) (hS) (fun hS0=> ?_)
  refine gp 0 (some 3) (.pointer (some ⟨h.b,0,none⟩)) rfl rfl (hS) ?_
  refine gp 2 (some 5) (.pointer (some ⟨h.b,0,none⟩)) rfl rfl (hS) ?_
  refine gp 3 (some 6) (.pointer (some ⟨h.b,0,none⟩)) rfl rfl (hS) ?_
  refine gp 4 (some 7) (.pointer (some ⟨h.b,1,none⟩)) rfl rfl (hS) ?_
  refine gq 5 (some 8) (.int .i64 h.cap) rfl rfl (fun X hX=>Aj 3 isAgg3 rfl rfl ((H.on hX.fr.below).blk) rfl) (hS) ?_
  refine gr (rs:= [1]) (gcW 1 (some 4) rfl rfl (hS) (Lp h _ (H.on hS.fr.below)) ?_ gn)
  refine gq 6 (some 9) (.bool true) rfl rfl (fun X hX=>ex_geq true rfl rfl rfl hc) (hS) ?_
  refine wpAnyH_done (by kernel_rfl) ?_ _
  try simp only[nn]
  have SS:=Ac hS
  go_wp2
  go_ret
  exact⟨rfl,(Aa SS).fr.below⟩
 ·rw[if_neg hr]
  have hc:decide (h.cap<=(h.l.length:Int))=false:=decide_eq_false hr
  have hS:Sy w w.drew [] []:=(Sy.nil w []).drew
  go_enter func52,ntmps52
  go_wp2_with fail
  refine wp_region_held_drew (P:=prog) (S:=fun X=>Sy w X [] _) (by kernel_rfl) (hS) (fun hS0=> ?_)
  refine gp 0 (some 3) (.pointer (some ⟨h.b,0,none⟩)) rfl rfl (hS) ?_
  refine gp 2 (some 5) (.pointer (some ⟨h.b,0,none⟩)) rfl rfl (hS) ?_
  refine gp 3 (some 6) (.pointer (some ⟨h.b,0,none⟩)) rfl rfl (hS) ?_
  refine gp 4 (some 7) (.pointer (some ⟨h.b,1,none⟩)) rfl rfl (hS) ?_
  refine gq 5 (some 8) (.int .i64 h.cap) rfl rfl (fun X hX=>Aj 3 isAgg3 rfl rfl ((H.on hX.fr.below).blk) rfl) (hS) ?_
  refine gr (rs:= [1]) (gcW 1 (some 4) rfl rfl (hS) (Lp h _ (H.on hS.fr.below)) ?_ gn)
  refine gq 6 (some 9) (.bool false) rfl rfl (fun X hX=>ex_geq false rfl rfl rfl hc) (hS) ?_
  refine wpAnyH_done (by kernel_rfl) ?_ _
  try simp only[nn]
  have SS:=Ac hS
  go_wp2
  go_ret
  exact⟨rfl,(Aa SS).fr.below⟩
theorem Qk {o:Oper} {a:Act} {w:World} {x0 x1 x2 x3 x4 x5:Operand} (q:OB) (ho:o.op= .build 108 #[(0,x0),(1,x1),(2,x2),(3,x3),(4,x4),(5,x5)]) (hx1:q.x=true) (h0:a.eval x0= .int .i64 q.c) (h1:a.eval x1= .agg q.p.cs.toArray) (h2:a.eval x2= .bool true) (h3:a.eval x3= .pointer (some ⟨q.T.t,0,none⟩)) (h4:a.eval x4= .iface (mt q.m) (.agg #[])) (h5:a.eval x5=ow1 q.ow):(execOp a.eval o).run prog w= .ok (.value (.agg q.cs.toArray)) w:=by
 have e:(Instr.build 108 #[(0, .int .i64 q.c),(1, .agg q.p.cs.toArray),(2, .bool q.x),(3, .pointer (some ⟨q.T.t,0,none⟩)),(4, .iface (mt q.m) (.agg #[])),(5,ow1 q.ow)]).run prog w= .ok (.agg q.cs.toArray) w:=by
  obtain⟨b0,c0,p0,x00,T0,m0,ow0⟩:=q
  rcases ow0 with _|⟨t0,v0⟩<;>kernel_rfl
 rw[hx1] at e
 unfold execOp
 simp only[ho,List.map_toArray,List.map_cons,List.map_nil,h0,h1,h2,h3,h4,h5]
 simp[e]
theorem Lg {o:Oper} {a:Act} {w:World} {x0:Operand} {b:Nat} (ho:o.op= .buildSlice 59 1 #[(0,x0)]) (h0:a.eval x0= .pointer (some ⟨b,0,none⟩)):(execOp a.eval o).run prog w= .ok (.value (.slice (some ⟨w.heap.size,0,none⟩) 1 1)) (w.alloc (Obj.cells [Value.pointer (some ⟨b,0,none⟩)].toArray 104)):=by
 have e:(Instr.buildSlice 59 1 #[(0, .pointer (some ⟨b,0,none⟩))]).run prog w= .ok (.slice (some ⟨w.heap.size,0,none⟩) 1 1) (w.alloc (Obj.cells [Value.pointer (some ⟨b,0,none⟩)].toArray 104)):=by kernel_rfl
 unfold execOp
 simp only[ho,List.map_toArray,List.map_cons,List.map_nil,h0]
 simp[e]
theorem Oc:(prog.info? 104).map (fun i=>(i.zero,i.size,i.bytes))=some (some (.pointer none),1,8):=by kernel_rfl
theorem Uv:(prog.info? 59).map (·.size)=some 1:=by kernel_rfl
def Dn (b:Nat) (v:VV) (T:TT) (cl:Int) (mm:Bool) (ow:Option (Nat×Value)):OB:=⟨b,cl,v,true,T,mm,ow⟩
theorem Le {T:TT} (h:T.rows= []):pr T= []:=by
 unfold pr TT.live
 rw[h]
 rfl
theorem add_h (h:HP) (v:VV) (cl:Int) (mm:Bool) (ow:Option (Nat×Value)) (w:World) (H:h.Is w) (hT:Tabs w) (hl:h.l.length<=65536):Calls prog 28 #[.pointer (some ⟨h.b,0,none⟩), .int .i64 cl,v.agg, .iface (mt mm) (.agg #[]),ow1 ow] w fun e w'=>(e= .returned (.tuple #[.int .i64 0,La (orE [Aq h.l.length v,Jr v,Jk h])])/\orE [Aq h.l.length v,Jr v,Jk h]≠0/\h.To h w w')∨(orE [Aq h.l.length v,Jr v,Jk h]=0/\ ∃(gv:Value) (q:OB),e= .returned (.tuple #[.int .i64 ((h.l.length:Int)+1), .nilIface])/\q.c=cl/\q.p=v/\q.x=true/\q.m=mm/\q.ow=ow/\pr q.T= []/\q.T.last=0/\h.To (h.more gv q) w w'):=by
 by_cases hc:orE [Aq h.l.length v,Jr v,Jk h]=0
 ·have SS:=Ac H.start
  rw[Dk]
  go_enter func28,ntmps28
  go_wp2_with (first|go_skip|((with_reducible show wpList ..);first|(refine zB 26 (v.cs) (by rfl) rfl rfl rfl SS ?_;clear SS;intro Xa Ba SS;simp only[nn])))
  have hS1:Sy w _ h.blocks [hpO h,Al Ba v.cs]:=(Aa SS).drew
  clear SS
  refine wp_region_held_drew (P:=prog) (S:=fun X=>Sy w X h.blocks _) (by kernel_rfl) (hS1) (fun hS0=> ?_)
  refine gp 0 (some 13) (.pointer (some ⟨h.b,0,none⟩)) rfl rfl (hS1) ?_
  refine gq 1 (some 14) (.agg (v.cs).toArray) rfl rfl (fun X hX=>Ax (vs:=v.cs) 26 5 rwV szV rfl rfl (hX.hold 1 rfl) rfl rfl) (hS1) ?_
  refine gq 3 (some 16) (.agg (v.cs).toArray) rfl rfl (fun X hX=>Ax (vs:=v.cs) 26 5 rwV szV rfl rfl (hX.hold 1 rfl) rfl rfl) (hS1) ?_
  refine gp 5 (some 18) (.pointer (some ⟨h.b,0,none⟩)) rfl rfl (hS1) ?_
  refine gr (rs:= [2]) (gcB 2 (some 15) rfl rfl hS1 (Jy h v _ (hS1.hp 0 rfl) (hT.fr hS1.fr H.low).1) id ?_ gn)
  intro Yt1 hqt1
  simp only[nn]
  refine gr (rs:= [4]) (gcB 4 (some 17) rfl rfl hqt1 (Oa v _) id ?_ gn)
  intro Yt2 hqt2
  simp only[nn]
  refine gr (rs:= [6]) (gcB 6 (some 19) rfl rfl hqt2 (room_h h _ (hqt2.hp 0 rfl)) id ?_ gn)
  intro Yt3 hqt3
  simp only[nn]
  refine gr (rs:= [7]) (Ar 7 (some 20) rfl rfl (by kernel_rfl) (ZbC rfl rfl rfl rfl) (Nat.succ_pos _) hqt3 (fun _ hZ=>Sy.left (L:= [_,_]) (M:= [_]) hZ) ?_ gn)
  intro Yt4 Bt4 hEt4 hqt4
  clear hEt4
  simp only[nn]
  refine gr (rs:= [8]) (gcW 8 (some 21) rfl rfl (Sy.left (L:= [_,_]) (M:= [_]) hqt4) (Dc Bt4 3 [Aq h.l.length v,Jr v,Jk h] _ (hqt4.hold 2 rfl) (by simp)) ?_ gn)
  refine gp 9 (some 12) (.int .i64 (orE [Aq h.l.length v,Jr v,Jk h])) rfl rfl (Sy.left (L:= [_,_]) (M:= [_]) hqt4) ?_
  refine wpAnyH_done (by kernel_rfl) ?_ _
  try simp only[nn]
  have SS:=Ac (Sy.left (L:= [hpO h,Al Ba v.cs]) (M:= [Al Bt4 (Lq [Aq h.l.length v,Jr v,Jk h])]) hqt4)
  go_wp2_with (first|go_skip|((with_reducible show wpList ..);first|(refine rd rfl (Kz rfl rfl rfl hc) ?_)))
  have hS4:Sy w _ h.blocks [hpO h,Al Ba v.cs]:=(Aa SS).drew
  clear SS
  refine wp_region_held_drew (P:=prog) (S:=fun _=>True) (by kernel_rfl) (trivial) (fun hS0=> ?_)
  refine gp 0 (some 26) (.pointer (some ⟨h.b,0,none⟩)) rfl rfl (trivial) ?_
  refine gp 1 (some 27) (.pointer (some ⟨h.b,0,none⟩)) rfl rfl (trivial) ?_
  refine gp 2 (some 28) (.pointer (some ⟨h.b,0,none⟩)) rfl rfl (trivial) ?_
  refine gp 3 (some 29) (.pointer (some ⟨h.b,0,none⟩)) rfl rfl (trivial) ?_
  refine gp 5 (some 31) (.int .i64 cl) rfl rfl (trivial) ?_
  refine gp 8 (some 34) (.iface (mt mm) (.agg #[])) rfl rfl (trivial) ?_
  refine gp 9 (some 35) (ow1 ow) rfl rfl (trivial) ?_
  refine gr (rs:= [4,6,7]) (gv 4 (some 30) rfl rfl (Aj 59 isAgg59 rfl rfl ((hS4.hp 0 rfl).blk) rfl) (trivial) ?_ (gv 6 (some 32) rfl rfl (Ax (vs:=v.cs) 26 5 rwV szV rfl rfl (hS4.hold 1 rfl) rfl rfl) (trivial) ?_ (gc 7 (some 33) rfl rfl (Zw _) ?_ gn)))
  ·simp only[nn]
   refine gr (rs:= [6,7]) (gv 6 (some 32) rfl rfl (Ax (vs:=v.cs) 26 5 rwV szV rfl rfl (hS4.hold 1 rfl) rfl rfl) (trivial) ?_ (gc 7 (some 33) rfl rfl (Zw _) ?_ gn))
   ·simp only[nn]
    refine gr (rs:= [7]) (gc 7 (some 33) rfl rfl (Zw _) ?_ gn)
    rintro e Yu3 ⟨T,rfl,hTu3,hr0,hl0,hlou3,hbTu3⟩
    have hqu3:=Sy.add hS4 (Pb T) hTu3 hbTu3 (fun b hb=>hlou3 b hb)
    refine⟨_,rfl,trivial, ?_⟩
    refine gq 10 (some 36) (.agg (Dn 0 v T cl mm ow).cs.toArray) rfl rfl (fun X hX=>Qk (Dn 0 v T cl mm ow) rfl rfl rfl rfl rfl rfl rfl rfl) (trivial) ?_
    refine gr (rs:= [11]) (Zak 11 (some 37) 108 ((Dn 0 v T cl mm ow).cs) rfl rfl (by kernel_rfl) rfl rfl rfl (Nat.succ_pos _) hqu3 (fun _ hZ=>trivial) ?_ gn)
    intro Yu4 Bu4 hEu4 hqu4
    clear hEu4
    simp only[nn]
    refine gr (rs:= [12]) (Ar 12 (some 38) rfl rfl (by kernel_rfl) (Lg rfl rfl) (Nat.succ_pos _) hqu4 (fun _ hZ=>trivial) ?_ gn)
    intro Yu5 Bu5 hEu5 hqu5
    clear hEu5
    simp only[nn]
    refine gr (rs:= [13]) (Uy (e:=104) (size:=1) (bytes:=8) (z:= .pointer none) (n:=h.l.length) (base:=0) (xs:=h.l.map OB.ptr) (news:= [Value.pointer (some ⟨Bu4,0,none⟩)]) 13 (some 39) rfl rfl (by kernel_rfl) rfl rfl rfl underlying59 Oc rfl (by decide) (hqu5.hp 0 rfl).own (hqu5.hold 4 rfl) rfl (by simp[Value.oneCell']) (by omega) (by decide) (Nat.zero_le _) (fun _=>trivial) ?_ gn)
    intro A c2 X8 hO8 hg8 hF8
    simp only[nn]
    refine gp 14 (some 40) (.pointer (some ⟨h.b,0,none⟩)) rfl rfl (trivial) ?_
    refine gp 15 (some 41) (.pointer (some ⟨h.b,0,none⟩)) rfl rfl (trivial) ?_
    have T8:=HP.add_to (q:=Dn Bu4 v T cl mm ow) H hqu5 hO8 (show _ from hg8) hF8
    have hb8:Holds X8 h.b (hcs h):=(hqu5.hp 0 rfl).blk.block (hg8.block _ ((hqu5.hp 0 rfl).blk.lt (by simp[hcs])) (fun e8=>by
     have:=List.pairwise_cons.1 (hqu5.hp 0 rfl).dis
     exact this.1 _ (List.mem_cons_self ..) h.b (List.mem_singleton.2 rfl) (by have e9:some h.b=h.gv.ownBlock:=e8;show h.b∈h.gv.ownBlock.toList;rw[←e9];simp)))
    refine gr (rs:= [16]) (Nb 16 none rfl rfl (by kernel_rfl) (Gw (vs:= [.slice A (h.l.length+1) c2]) rfl rfl rfl rfl (by simp[Value.oneCell']) Uv hb8 (by simp[hcs])) trivial ?_ gn)
    simp only[nn]
    refine wpAnyH_done (by kernel_rfl) ?_ _
    try simp only[nn]
    have HT8:=Ac T8
    clear T8
    have h9:=Lp (h.more (.slice A (h.l.length+1) c2) (Dn Bu4 v T cl mm ow)) _ (Aa HT8).is
    go_wp2_with fail
    refine h9.mono ?_
    rintro _ _ ⟨rfl,rfl⟩
    go_wp2
    go_ret2
    refine .inr ⟨hc,_,Dn Bu4 v T cl mm ow, ?_,rfl,rfl,rfl,rfl,rfl,Le hr0,hl0,(Aa HT8)⟩
    show Ending.returned _=_
    have e9:((h.more (.slice A (h.l.length+1) c2) (Dn Bu4 v T cl mm ow)).l.length:Int)=(h.l.length:Int)+1:=by unfold HP.more;simp
    rw[←e9]
    rfl
   ·rintro e Yu8 ⟨T,rfl,hTu8,hr0,hl0,hlou8,hbTu8⟩
    have hqu8:=Sy.add hS4 (Pb T) hTu8 hbTu8 (fun b hb=>hlou8 b hb)
    refine⟨_,rfl,trivial, ?_⟩
    simp only[nn]
    refine gr (rs:= [6]) (gv 6 (some 32) rfl rfl (Ax (vs:=v.cs) 26 5 rwV szV rfl rfl (hqu8.hold 1 rfl) rfl rfl) (trivial) ?_ gn)
    refine gq 10 (some 36) (.agg (Dn 0 v T cl mm ow).cs.toArray) rfl rfl (fun X hX=>Qk (Dn 0 v T cl mm ow) rfl rfl rfl rfl rfl rfl rfl rfl) (trivial) ?_
    refine gr (rs:= [11]) (Zak 11 (some 37) 108 ((Dn 0 v T cl mm ow).cs) rfl rfl (by kernel_rfl) rfl rfl rfl (Nat.succ_pos _) hqu8 (fun _ hZ=>trivial) ?_ gn)
    intro Yu10 Bu10 hEu10 hqu10
    clear hEu10
    simp only[nn]
    refine gr (rs:= [12]) (Ar 12 (some 38) rfl rfl (by kernel_rfl) (Lg rfl rfl) (Nat.succ_pos _) hqu10 (fun _ hZ=>trivial) ?_ gn)
    intro Yu11 Bu11 hEu11 hqu11
    clear hEu11
    simp only[nn]
    refine gr (rs:= [13]) (Uy (e:=104) (size:=1) (bytes:=8) (z:= .pointer none) (n:=h.l.length) (base:=0) (xs:=h.l.map OB.ptr) (news:= [Value.pointer (some ⟨Bu10,0,none⟩)]) 13 (some 39) rfl rfl (by kernel_rfl) rfl rfl rfl underlying59 Oc rfl (by decide) (hqu11.hp 0 rfl).own (hqu11.hold 4 rfl) rfl (by simp[Value.oneCell']) (by omega) (by decide) (Nat.zero_le _) (fun _=>trivial) ?_ gn)
    intro A c2 X8 hO8 hg8 hF8
    simp only[nn]
    refine gp 14 (some 40) (.pointer (some ⟨h.b,0,none⟩)) rfl rfl (trivial) ?_
    refine gp 15 (some 41) (.pointer (some ⟨h.b,0,none⟩)) rfl rfl (trivial) ?_
    have T8:=HP.add_to (q:=Dn Bu10 v T cl mm ow) H hqu11 hO8 (show _ from hg8) hF8
    have hb8:Holds X8 h.b (hcs h):=(hqu11.hp 0 rfl).blk.block (hg8.block _ ((hqu11.hp 0 rfl).blk.lt (by simp[hcs])) (fun e8=>by
     have:=List.pairwise_cons.1 (hqu11.hp 0 rfl).dis
     exact this.1 _ (List.mem_cons_self ..) h.b (List.mem_singleton.2 rfl) (by have e9:some h.b=h.gv.ownBlock:=e8;show h.b∈h.gv.ownBlock.toList;rw[←e9];simp)))
    refine gr (rs:= [16]) (Nb 16 none rfl rfl (by kernel_rfl) (Gw (vs:= [.slice A (h.l.length+1) c2]) rfl rfl rfl rfl (by simp[Value.oneCell']) Uv hb8 (by simp[hcs])) trivial ?_ gn)
    simp only[nn]
    refine wpAnyH_done (by kernel_rfl) ?_ _
    try simp only[nn]
    have HT8:=Ac T8
    clear T8
    have h9:=Lp (h.more (.slice A (h.l.length+1) c2) (Dn Bu10 v T cl mm ow)) _ (Aa HT8).is
    go_wp2_with fail
    refine h9.mono ?_
    rintro _ _ ⟨rfl,rfl⟩
    go_wp2
    go_ret2
    refine .inr ⟨hc,_,Dn Bu10 v T cl mm ow, ?_,rfl,rfl,rfl,rfl,rfl,Le hr0,hl0,(Aa HT8)⟩
    show Ending.returned _=_
    have e9:((h.more (.slice A (h.l.length+1) c2) (Dn Bu10 v T cl mm ow)).l.length:Int)=(h.l.length:Int)+1:=by unfold HP.more;simp
    rw[←e9]
    rfl
  ·simp only[nn]
   refine gr (rs:= [4,7]) (gv 4 (some 30) rfl rfl (Aj 59 isAgg59 rfl rfl ((hS4.hp 0 rfl).blk) rfl) (trivial) ?_ (gc 7 (some 33) rfl rfl (Zw _) ?_ gn))
   ·simp only[nn]
    refine gr (rs:= [7]) (gc 7 (some 33) rfl rfl (Zw _) ?_ gn)
    rintro e Yu16 ⟨T,rfl,hTu16,hr0,hl0,hlou16,hbTu16⟩
    have hqu16:=Sy.add hS4 (Pb T) hTu16 hbTu16 (fun b hb=>hlou16 b hb)
    refine⟨_,rfl,trivial, ?_⟩
    refine gq 10 (some 36) (.agg (Dn 0 v T cl mm ow).cs.toArray) rfl rfl (fun X hX=>Qk (Dn 0 v T cl mm ow) rfl rfl rfl rfl rfl rfl rfl rfl) (trivial) ?_
    refine gr (rs:= [11]) (Zak 11 (some 37) 108 ((Dn 0 v T cl mm ow).cs) rfl rfl (by kernel_rfl) rfl rfl rfl (Nat.succ_pos _) hqu16 (fun _ hZ=>trivial) ?_ gn)
    intro Yu17 Bu17 hEu17 hqu17
    clear hEu17
    simp only[nn]
    refine gr (rs:= [12]) (Ar 12 (some 38) rfl rfl (by kernel_rfl) (Lg rfl rfl) (Nat.succ_pos _) hqu17 (fun _ hZ=>trivial) ?_ gn)
    intro Yu18 Bu18 hEu18 hqu18
    clear hEu18
    simp only[nn]
    refine gr (rs:= [13]) (Uy (e:=104) (size:=1) (bytes:=8) (z:= .pointer none) (n:=h.l.length) (base:=0) (xs:=h.l.map OB.ptr) (news:= [Value.pointer (some ⟨Bu17,0,none⟩)]) 13 (some 39) rfl rfl (by kernel_rfl) rfl rfl rfl underlying59 Oc rfl (by decide) (hqu18.hp 0 rfl).own (hqu18.hold 4 rfl) rfl (by simp[Value.oneCell']) (by omega) (by decide) (Nat.zero_le _) (fun _=>trivial) ?_ gn)
    intro A c2 X8 hO8 hg8 hF8
    simp only[nn]
    refine gp 14 (some 40) (.pointer (some ⟨h.b,0,none⟩)) rfl rfl (trivial) ?_
    refine gp 15 (some 41) (.pointer (some ⟨h.b,0,none⟩)) rfl rfl (trivial) ?_
    have T8:=HP.add_to (q:=Dn Bu17 v T cl mm ow) H hqu18 hO8 (show _ from hg8) hF8
    have hb8:Holds X8 h.b (hcs h):=(hqu18.hp 0 rfl).blk.block (hg8.block _ ((hqu18.hp 0 rfl).blk.lt (by simp[hcs])) (fun e8=>by
     have:=List.pairwise_cons.1 (hqu18.hp 0 rfl).dis
     exact this.1 _ (List.mem_cons_self ..) h.b (List.mem_singleton.2 rfl) (by have e9:some h.b=h.gv.ownBlock:=e8;show h.b∈h.gv.ownBlock.toList;rw[←e9];simp)))
    refine gr (rs:= [16]) (Nb 16 none rfl rfl (by kernel_rfl) (Gw (vs:= [.slice A (h.l.length+1) c2]) rfl rfl rfl rfl (by simp[Value.oneCell']) Uv hb8 (by simp[hcs])) trivial ?_ gn)
    simp only[nn]
    refine wpAnyH_done (by kernel_rfl) ?_ _
    try simp only[nn]
    have HT8:=Ac T8
    clear T8
    have h9:=Lp (h.more (.slice A (h.l.length+1) c2) (Dn Bu17 v T cl mm ow)) _ (Aa HT8).is
    go_wp2_with fail
    refine h9.mono ?_
    rintro _ _ ⟨rfl,rfl⟩
    go_wp2
    go_ret2
    refine .inr ⟨hc,_,Dn Bu17 v T cl mm ow, ?_,rfl,rfl,rfl,rfl,rfl,Le hr0,hl0,(Aa HT8)⟩
    show Ending.returned _=_
    have e9:((h.more (.slice A (h.l.length+1) c2) (Dn Bu17 v T cl mm ow)).l.length:Int)=(h.l.length:Int)+1:=by unfold HP.more;simp
    rw[←e9]
    rfl
   ·rintro e Yu21 ⟨T,rfl,hTu21,hr0,hl0,hlou21,hbTu21⟩
    have hqu21:=Sy.add hS4 (Pb T) hTu21 hbTu21 (fun b hb=>hlou21 b hb)
    refine⟨_,rfl,trivial, ?_⟩
    refine gq 10 (some 36) (.agg (Dn 0 v T cl mm ow).cs.toArray) rfl rfl (fun X hX=>Qk (Dn 0 v T cl mm ow) rfl rfl rfl rfl rfl rfl rfl rfl) (trivial) ?_
    refine gr (rs:= [4,11]) (gv 4 (some 30) rfl rfl (Aj 59 isAgg59 rfl rfl ((hqu21.hp 0 rfl).blk) rfl) (trivial) ?_ (Zak 11 (some 37) 108 ((Dn 0 v T cl mm ow).cs) rfl rfl (by kernel_rfl) rfl rfl rfl (Nat.succ_pos _) hqu21 (fun _ hZ=>trivial) ?_ gn))
    ·simp only[nn]
     refine gr (rs:= [11]) (Zak 11 (some 37) 108 ((Dn 0 v T cl mm ow).cs) rfl rfl (by kernel_rfl) rfl rfl rfl (Nat.succ_pos _) hqu21 (fun _ hZ=>trivial) ?_ gn)
     intro Yu23 Bu23 hEu23 hqu23
     clear hEu23
     simp only[nn]
     refine gr (rs:= [12]) (Ar 12 (some 38) rfl rfl (by kernel_rfl) (Lg rfl rfl) (Nat.succ_pos _) hqu23 (fun _ hZ=>trivial) ?_ gn)
     intro Yu24 Bu24 hEu24 hqu24
     clear hEu24
     simp only[nn]
     refine gr (rs:= [13]) (Uy (e:=104) (size:=1) (bytes:=8) (z:= .pointer none) (n:=h.l.length) (base:=0) (xs:=h.l.map OB.ptr) (news:= [Value.pointer (some ⟨Bu23,0,none⟩)]) 13 (some 39) rfl rfl (by kernel_rfl) rfl rfl rfl underlying59 Oc rfl (by decide) (hqu24.hp 0 rfl).own (hqu24.hold 4 rfl) rfl (by simp[Value.oneCell']) (by omega) (by decide) (Nat.zero_le _) (fun _=>trivial) ?_ gn)
     intro A c2 X8 hO8 hg8 hF8
     simp only[nn]
     refine gp 14 (some 40) (.pointer (some ⟨h.b,0,none⟩)) rfl rfl (trivial) ?_
     refine gp 15 (some 41) (.pointer (some ⟨h.b,0,none⟩)) rfl rfl (trivial) ?_
     have T8:=HP.add_to (q:=Dn Bu23 v T cl mm ow) H hqu24 hO8 (show _ from hg8) hF8
     have hb8:Holds X8 h.b (hcs h):=(hqu24.hp 0 rfl).blk.block (hg8.block _ ((hqu24.hp 0 rfl).blk.lt (by simp[hcs])) (fun e8=>by
      have:=List.pairwise_cons.1 (hqu24.hp 0 rfl).dis
      exact this.1 _ (List.mem_cons_self ..) h.b (List.mem_singleton.2 rfl) (by have e9:some h.b=h.gv.ownBlock:=e8;show h.b∈h.gv.ownBlock.toList;rw[←e9];simp)))
     refine gr (rs:= [16]) (Nb 16 none rfl rfl (by kernel_rfl) (Gw (vs:= [.slice A (h.l.length+1) c2]) rfl rfl rfl rfl (by simp[Value.oneCell']) Uv hb8 (by simp[hcs])) trivial ?_ gn)
     simp only[nn]
     refine wpAnyH_done (by kernel_rfl) ?_ _
     try simp only[nn]
     have HT8:=Ac T8
     clear T8
     have h9:=Lp (h.more (.slice A (h.l.length+1) c2) (Dn Bu23 v T cl mm ow)) _ (Aa HT8).is
     go_wp2_with fail
     refine h9.mono ?_
     rintro _ _ ⟨rfl,rfl⟩
     go_wp2
     go_ret2
     refine .inr ⟨hc,_,Dn Bu23 v T cl mm ow, ?_,rfl,rfl,rfl,rfl,rfl,Le hr0,hl0,(Aa HT8)⟩
     show Ending.returned _=_
     have e9:((h.more (.slice A (h.l.length+1) c2) (Dn Bu23 v T cl mm ow)).l.length:Int)=(h.l.length:Int)+1:=by unfold HP.more;simp
     rw[←e9]
     rfl
    ·intro Yu27 Bu27 hEu27 hqu27
     clear hEu27
     simp only[nn]
     refine gr (rs:= [4,12]) (gv 4 (some 30) rfl rfl (Aj 59 isAgg59 rfl rfl ((hqu27.hp 0 rfl).blk) rfl) (trivial) ?_ (Ar 12 (some 38) rfl rfl (by kernel_rfl) (Lg rfl rfl) (Nat.succ_pos _) hqu27 (fun _ hZ=>trivial) ?_ gn))
     ·simp only[nn]
      refine gr (rs:= [12]) (Ar 12 (some 38) rfl rfl (by kernel_rfl) (Lg rfl rfl) (Nat.succ_pos _) hqu27 (fun _ hZ=>trivial) ?_ gn)
      intro Yu29 Bu29 hEu29 hqu29
      clear hEu29
      simp only[nn]
      refine gr (rs:= [13]) (Uy (e:=104) (size:=1) (bytes:=8) (z:= .pointer none) (n:=h.l.length) (base:=0) (xs:=h.l.map OB.ptr) (news:= [Value.pointer (some ⟨Bu27,0,none⟩)]) 13 (some 39) rfl rfl (by kernel_rfl) rfl rfl rfl underlying59 Oc rfl (by decide) (hqu29.hp 0 rfl).own (hqu29.hold 4 rfl) rfl (by simp[Value.oneCell']) (by omega) (by decide) (Nat.zero_le _) (fun _=>trivial) ?_ gn)
      intro A c2 X8 hO8 hg8 hF8
      simp only[nn]
      refine gp 14 (some 40) (.pointer (some ⟨h.b,0,none⟩)) rfl rfl (trivial) ?_
      refine gp 15 (some 41) (.pointer (some ⟨h.b,0,none⟩)) rfl rfl (trivial) ?_
      have T8:=HP.add_to (q:=Dn Bu27 v T cl mm ow) H hqu29 hO8 (show _ from hg8) hF8
      have hb8:Holds X8 h.b (hcs h):=(hqu29.hp 0 rfl).blk.block (hg8.block _ ((hqu29.hp 0 rfl).blk.lt (by simp[hcs])) (fun e8=>by
       have:=List.pairwise_cons.1 (hqu29.hp 0 rfl).dis
       exact this.1 _ (List.mem_cons_self ..) h.b (List.mem_singleton.2 rfl) (by have e9:some h.b=h.gv.ownBlock:=e8;show h.b∈h.gv.ownBlock.toList;rw[←e9];simp)))
      refine gr (rs:= [16]) (Nb 16 none rfl rfl (by kernel_rfl) (Gw (vs:= [.slice A (h.l.length+1) c2]) rfl rfl rfl rfl (by simp[Value.oneCell']) Uv hb8 (by simp[hcs])) trivial ?_ gn)
      simp only[nn]
      refine wpAnyH_done (by kernel_rfl) ?_ _
      try simp only[nn]
      have HT8:=Ac T8
      clear T8
      have h9:=Lp (h.more (.slice A (h.l.length+1) c2) (Dn Bu27 v T cl mm ow)) _ (Aa HT8).is
      go_wp2_with fail
      refine h9.mono ?_
      rintro _ _ ⟨rfl,rfl⟩
      go_wp2
      go_ret2
      refine .inr ⟨hc,_,Dn Bu27 v T cl mm ow, ?_,rfl,rfl,rfl,rfl,rfl,Le hr0,hl0,(Aa HT8)⟩
      show Ending.returned _=_
      have e9:((h.more (.slice A (h.l.length+1) c2) (Dn Bu27 v T cl mm ow)).l.length:Int)=(h.l.length:Int)+1:=by unfold HP.more;simp
      rw[←e9]
      rfl
     ·intro Yu32 Bu32 hEu32 hqu32
      clear hEu32
      simp only[nn]
      refine gr (rs:= [4]) (gv 4 (some 30) rfl rfl (Aj 59 isAgg59 rfl rfl ((hqu32.hp 0 rfl).blk) rfl) (trivial) ?_ gn)
      simp only[nn]
      refine gr (rs:= [13]) (Uy (e:=104) (size:=1) (bytes:=8) (z:= .pointer none) (n:=h.l.length) (base:=0) (xs:=h.l.map OB.ptr) (news:= [Value.pointer (some ⟨Bu27,0,none⟩)]) 13 (some 39) rfl rfl (by kernel_rfl) rfl rfl rfl underlying59 Oc rfl (by decide) (hqu32.hp 0 rfl).own (hqu32.hold 4 rfl) rfl (by simp[Value.oneCell']) (by omega) (by decide) (Nat.zero_le _) (fun _=>trivial) ?_ gn)
      intro A c2 X8 hO8 hg8 hF8
      simp only[nn]
      refine gp 14 (some 40) (.pointer (some ⟨h.b,0,none⟩)) rfl rfl (trivial) ?_
      refine gp 15 (some 41) (.pointer (some ⟨h.b,0,none⟩)) rfl rfl (trivial) ?_
      have T8:=HP.add_to (q:=Dn Bu27 v T cl mm ow) H hqu32 hO8 (show _ from hg8) hF8
      have hb8:Holds X8 h.b (hcs h):=(hqu32.hp 0 rfl).blk.block (hg8.block _ ((hqu32.hp 0 rfl).blk.lt (by simp[hcs])) (fun e8=>by
       have:=List.pairwise_cons.1 (hqu32.hp 0 rfl).dis
       exact this.1 _ (List.mem_cons_self ..) h.b (List.mem_singleton.2 rfl) (by have e9:some h.b=h.gv.ownBlock:=e8;show h.b∈h.gv.ownBlock.toList;rw[←e9];simp)))
      refine gr (rs:= [16]) (Nb 16 none rfl rfl (by kernel_rfl) (Gw (vs:= [.slice A (h.l.length+1) c2]) rfl rfl rfl rfl (by simp[Value.oneCell']) Uv hb8 (by simp[hcs])) trivial ?_ gn)
      simp only[nn]
      refine wpAnyH_done (by kernel_rfl) ?_ _
      try simp only[nn]
      have HT8:=Ac T8
      clear T8
      have h9:=Lp (h.more (.slice A (h.l.length+1) c2) (Dn Bu27 v T cl mm ow)) _ (Aa HT8).is
      go_wp2_with fail
      refine h9.mono ?_
      rintro _ _ ⟨rfl,rfl⟩
      go_wp2
      go_ret2
      refine .inr ⟨hc,_,Dn Bu27 v T cl mm ow, ?_,rfl,rfl,rfl,rfl,rfl,Le hr0,hl0,(Aa HT8)⟩
      show Ending.returned _=_
      have e9:((h.more (.slice A (h.l.length+1) c2) (Dn Bu27 v T cl mm ow)).l.length:Int)=(h.l.length:Int)+1:=by unfold HP.more;simp
      rw[←e9]
      rfl
  ·rintro e Yu36 ⟨T,rfl,hTu36,hr0,hl0,hlou36,hbTu36⟩
   have hqu36:=Sy.add hS4 (Pb T) hTu36 hbTu36 (fun b hb=>hlou36 b hb)
   refine⟨_,rfl,trivial, ?_⟩
   simp only[nn]
   refine gr (rs:= [4,6]) (gv 4 (some 30) rfl rfl (Aj 59 isAgg59 rfl rfl ((hqu36.hp 0 rfl).blk) rfl) (trivial) ?_ (gv 6 (some 32) rfl rfl (Ax (vs:=v.cs) 26 5 rwV szV rfl rfl (hqu36.hold 1 rfl) rfl rfl) (trivial) ?_ gn))
   ·simp only[nn]
    refine gr (rs:= [6]) (gv 6 (some 32) rfl rfl (Ax (vs:=v.cs) 26 5 rwV szV rfl rfl (hqu36.hold 1 rfl) rfl rfl) (trivial) ?_ gn)
    refine gq 10 (some 36) (.agg (Dn 0 v T cl mm ow).cs.toArray) rfl rfl (fun X hX=>Qk (Dn 0 v T cl mm ow) rfl rfl rfl rfl rfl rfl rfl rfl) (trivial) ?_
    refine gr (rs:= [11]) (Zak 11 (some 37) 108 ((Dn 0 v T cl mm ow).cs) rfl rfl (by kernel_rfl) rfl rfl rfl (Nat.succ_pos _) hqu36 (fun _ hZ=>trivial) ?_ gn)
    intro Yu39 Bu39 hEu39 hqu39
    clear hEu39
    simp only[nn]
    refine gr (rs:= [12]) (Ar 12 (some 38) rfl rfl (by kernel_rfl) (Lg rfl rfl) (Nat.succ_pos _) hqu39 (fun _ hZ=>trivial) ?_ gn)
    intro Yu40 Bu40 hEu40 hqu40
    clear hEu40
    simp only[nn]
    refine gr (rs:= [13]) (Uy (e:=104) (size:=1) (bytes:=8) (z:= .pointer none) (n:=h.l.length) (base:=0) (xs:=h.l.map OB.ptr) (news:= [Value.pointer (some ⟨Bu39,0,none⟩)]) 13 (some 39) rfl rfl (by kernel_rfl) rfl rfl rfl underlying59 Oc rfl (by decide) (hqu40.hp 0 rfl).own (hqu40.hold 4 rfl) rfl (by simp[Value.oneCell']) (by omega) (by decide) (Nat.zero_le _) (fun _=>trivial) ?_ gn)
    intro A c2 X8 hO8 hg8 hF8
    simp only[nn]
    refine gp 14 (some 40) (.pointer (some ⟨h.b,0,none⟩)) rfl rfl (trivial) ?_
    refine gp 15 (some 41) (.pointer (some ⟨h.b,0,none⟩)) rfl rfl (trivial) ?_
    have T8:=HP.add_to (q:=Dn Bu39 v T cl mm ow) H hqu40 hO8 (show _ from hg8) hF8
    have hb8:Holds X8 h.b (hcs h):=(hqu40.hp 0 rfl).blk.block (hg8.block _ ((hqu40.hp 0 rfl).blk.lt (by simp[hcs])) (fun e8=>by
     have:=List.pairwise_cons.1 (hqu40.hp 0 rfl).dis
     exact this.1 _ (List.mem_cons_self ..) h.b (List.mem_singleton.2 rfl) (by have e9:some h.b=h.gv.ownBlock:=e8;show h.b∈h.gv.ownBlock.toList;rw[←e9];simp)))
    refine gr (rs:= [16]) (Nb 16 none rfl rfl (by kernel_rfl) (Gw (vs:= [.slice A (h.l.length+1) c2]) rfl rfl rfl rfl (by simp[Value.oneCell']) Uv hb8 (by simp[hcs])) trivial ?_ gn)
    simp only[nn]
    refine wpAnyH_done (by kernel_rfl) ?_ _
    try simp only[nn]
    have HT8:=Ac T8
    clear T8
    have h9:=Lp (h.more (.slice A (h.l.length+1) c2) (Dn Bu39 v T cl mm ow)) _ (Aa HT8).is
    go_wp2_with fail
    refine h9.mono ?_
    rintro _ _ ⟨rfl,rfl⟩
    go_wp2
    go_ret2
    refine .inr ⟨hc,_,Dn Bu39 v T cl mm ow, ?_,rfl,rfl,rfl,rfl,rfl,Le hr0,hl0,(Aa HT8)⟩
    show Ending.returned _=_
    have e9:((h.more (.slice A (h.l.length+1) c2) (Dn Bu39 v T cl mm ow)).l.length:Int)=(h.l.length:Int)+1:=by unfold HP.more;simp
    rw[←e9]
    rfl
   ·refine gq 10 (some 36) (.agg (Dn 0 v T cl mm ow).cs.toArray) rfl rfl (fun X hX=>Qk (Dn 0 v T cl mm ow) rfl rfl rfl rfl rfl rfl rfl rfl) (trivial) ?_
    refine gr (rs:= [4,11]) (gv 4 (some 30) rfl rfl (Aj 59 isAgg59 rfl rfl ((hqu36.hp 0 rfl).blk) rfl) (trivial) ?_ (Zak 11 (some 37) 108 ((Dn 0 v T cl mm ow).cs) rfl rfl (by kernel_rfl) rfl rfl rfl (Nat.succ_pos _) hqu36 (fun _ hZ=>trivial) ?_ gn))
    ·simp only[nn]
     refine gr (rs:= [11]) (Zak 11 (some 37) 108 ((Dn 0 v T cl mm ow).cs) rfl rfl (by kernel_rfl) rfl rfl rfl (Nat.succ_pos _) hqu36 (fun _ hZ=>trivial) ?_ gn)
     intro Yu45 Bu45 hEu45 hqu45
     clear hEu45
     simp only[nn]
     refine gr (rs:= [12]) (Ar 12 (some 38) rfl rfl (by kernel_rfl) (Lg rfl rfl) (Nat.succ_pos _) hqu45 (fun _ hZ=>trivial) ?_ gn)
     intro Yu46 Bu46 hEu46 hqu46
     clear hEu46
     simp only[nn]
     refine gr (rs:= [13]) (Uy (e:=104) (size:=1) (bytes:=8) (z:= .pointer none) (n:=h.l.length) (base:=0) (xs:=h.l.map OB.ptr) (news:= [Value.pointer (some ⟨Bu45,0,none⟩)]) 13 (some 39) rfl rfl (by kernel_rfl) rfl rfl rfl underlying59 Oc rfl (by decide) (hqu46.hp 0 rfl).own (hqu46.hold 4 rfl) rfl (by simp[Value.oneCell']) (by omega) (by decide) (Nat.zero_le _) (fun _=>trivial) ?_ gn)
     intro A c2 X8 hO8 hg8 hF8
     simp only[nn]
     refine gp 14 (some 40) (.pointer (some ⟨h.b,0,none⟩)) rfl rfl (trivial) ?_
     refine gp 15 (some 41) (.pointer (some ⟨h.b,0,none⟩)) rfl rfl (trivial) ?_
     have T8:=HP.add_to (q:=Dn Bu45 v T cl mm ow) H hqu46 hO8 (show _ from hg8) hF8
     have hb8:Holds X8 h.b (hcs h):=(hqu46.hp 0 rfl).blk.block (hg8.block _ ((hqu46.hp 0 rfl).blk.lt (by simp[hcs])) (fun e8=>by
      have:=List.pairwise_cons.1 (hqu46.hp 0 rfl).dis
      exact this.1 _ (List.mem_cons_self ..) h.b (List.mem_singleton.2 rfl) (by have e9:some h.b=h.gv.ownBlock:=e8;show h.b∈h.gv.ownBlock.toList;rw[←e9];simp)))
     refine gr (rs:= [16]) (Nb 16 none rfl rfl (by kernel_rfl) (Gw (vs:= [.slice A (h.l.length+1) c2]) rfl rfl rfl rfl (by simp[Value.oneCell']) Uv hb8 (by simp[hcs])) trivial ?_ gn)
     simp only[nn]
     refine wpAnyH_done (by kernel_rfl) ?_ _
     try simp only[nn]
     have HT8:=Ac T8
     clear T8
     have h9:=Lp (h.more (.slice A (h.l.length+1) c2) (Dn Bu45 v T cl mm ow)) _ (Aa HT8).is
     go_wp2_with fail
     refine h9.mono ?_
     rintro _ _ ⟨rfl,rfl⟩
     go_wp2
     go_ret2
     refine .inr ⟨hc,_,Dn Bu45 v T cl mm ow, ?_,rfl,rfl,rfl,rfl,rfl,Le hr0,hl0,(Aa HT8)⟩
     show Ending.returned _=_
     have e9:((h.more (.slice A (h.l.length+1) c2) (Dn Bu45 v T cl mm ow)).l.length:Int)=(h.l.length:Int)+1:=by unfold HP.more;simp
     rw[←e9]
     rfl
    ·intro Yu49 Bu49 hEu49 hqu49
     clear hEu49
     simp only[nn]
     refine gr (rs:= [4,12]) (gv 4 (some 30) rfl rfl (Aj 59 isAgg59 rfl rfl ((hqu49.hp 0 rfl).blk) rfl) (trivial) ?_ (Ar 12 (some 38) rfl rfl (by kernel_rfl) (Lg rfl rfl) (Nat.succ_pos _) hqu49 (fun _ hZ=>trivial) ?_ gn))
     ·simp only[nn]
      refine gr (rs:= [12]) (Ar 12 (some 38) rfl rfl (by kernel_rfl) (Lg rfl rfl) (Nat.succ_pos _) hqu49 (fun _ hZ=>trivial) ?_ gn)
      intro Yu51 Bu51 hEu51 hqu51
      clear hEu51
      simp only[nn]
      refine gr (rs:= [13]) (Uy (e:=104) (size:=1) (bytes:=8) (z:= .pointer none) (n:=h.l.length) (base:=0) (xs:=h.l.map OB.ptr) (news:= [Value.pointer (some ⟨Bu49,0,none⟩)]) 13 (some 39) rfl rfl (by kernel_rfl) rfl rfl rfl underlying59 Oc rfl (by decide) (hqu51.hp 0 rfl).own (hqu51.hold 4 rfl) rfl (by simp[Value.oneCell']) (by omega) (by decide) (Nat.zero_le _) (fun _=>trivial) ?_ gn)
      intro A c2 X8 hO8 hg8 hF8
      simp only[nn]
      refine gp 14 (some 40) (.pointer (some ⟨h.b,0,none⟩)) rfl rfl (trivial) ?_
      refine gp 15 (some 41) (.pointer (some ⟨h.b,0,none⟩)) rfl rfl (trivial) ?_
      have T8:=HP.add_to (q:=Dn Bu49 v T cl mm ow) H hqu51 hO8 (show _ from hg8) hF8
      have hb8:Holds X8 h.b (hcs h):=(hqu51.hp 0 rfl).blk.block (hg8.block _ ((hqu51.hp 0 rfl).blk.lt (by simp[hcs])) (fun e8=>by
       have:=List.pairwise_cons.1 (hqu51.hp 0 rfl).dis
       exact this.1 _ (List.mem_cons_self ..) h.b (List.mem_singleton.2 rfl) (by have e9:some h.b=h.gv.ownBlock:=e8;show h.b∈h.gv.ownBlock.toList;rw[←e9];simp)))
      refine gr (rs:= [16]) (Nb 16 none rfl rfl (by kernel_rfl) (Gw (vs:= [.slice A (h.l.length+1) c2]) rfl rfl rfl rfl (by simp[Value.oneCell']) Uv hb8 (by simp[hcs])) trivial ?_ gn)
      simp only[nn]
      refine wpAnyH_done (by kernel_rfl) ?_ _
      try simp only[nn]
      have HT8:=Ac T8
      clear T8
      have h9:=Lp (h.more (.slice A (h.l.length+1) c2) (Dn Bu49 v T cl mm ow)) _ (Aa HT8).is
      go_wp2_with fail
      refine h9.mono ?_
      rintro _ _ ⟨rfl,rfl⟩
      go_wp2
      go_ret2
      refine .inr ⟨hc,_,Dn Bu49 v T cl mm ow, ?_,rfl,rfl,rfl,rfl,rfl,Le hr0,hl0,(Aa HT8)⟩
      show Ending.returned _=_
      have e9:((h.more (.slice A (h.l.length+1) c2) (Dn Bu49 v T cl mm ow)).l.length:Int)=(h.l.length:Int)+1:=by unfold HP.more;simp
      rw[←e9]
      rfl
     ·intro Yu54 Bu54 hEu54 hqu54
      clear hEu54
      simp only[nn]
      refine gr (rs:= [4]) (gv 4 (some 30) rfl rfl (Aj 59 isAgg59 rfl rfl ((hqu54.hp 0 rfl).blk) rfl) (trivial) ?_ gn)
      simp only[nn]
      refine gr (rs:= [13]) (Uy (e:=104) (size:=1) (bytes:=8) (z:= .pointer none) (n:=h.l.length) (base:=0) (xs:=h.l.map OB.ptr) (news:= [Value.pointer (some ⟨Bu49,0,none⟩)]) 13 (some 39) rfl rfl (by kernel_rfl) rfl rfl rfl underlying59 Oc rfl (by decide) (hqu54.hp 0 rfl).own (hqu54.hold 4 rfl) rfl (by simp[Value.oneCell']) (by omega) (by decide) (Nat.zero_le _) (fun _=>trivial) ?_ gn)
      intro A c2 X8 hO8 hg8 hF8
      simp only[nn]
      refine gp 14 (some 40) (.pointer (some ⟨h.b,0,none⟩)) rfl rfl (trivial) ?_
      refine gp 15 (some 41) (.pointer (some ⟨h.b,0,none⟩)) rfl rfl (trivial) ?_
      have T8:=HP.add_to (q:=Dn Bu49 v T cl mm ow) H hqu54 hO8 (show _ from hg8) hF8
      have hb8:Holds X8 h.b (hcs h):=(hqu54.hp 0 rfl).blk.block (hg8.block _ ((hqu54.hp 0 rfl).blk.lt (by simp[hcs])) (fun e8=>by
       have:=List.pairwise_cons.1 (hqu54.hp 0 rfl).dis
       exact this.1 _ (List.mem_cons_self ..) h.b (List.mem_singleton.2 rfl) (by have e9:some h.b=h.gv.ownBlock:=e8;show h.b∈h.gv.ownBlock.toList;rw[←e9];simp)))
      refine gr (rs:= [16]) (Nb 16 none rfl rfl (by kernel_rfl) (Gw (vs:= [.slice A (h.l.length+1) c2]) rfl rfl rfl rfl (by simp[Value.oneCell']) Uv hb8 (by simp[hcs])) trivial ?_ gn)
      simp only[nn]
      refine wpAnyH_done (by kernel_rfl) ?_ _
      try simp only[nn]
      have HT8:=Ac T8
      clear T8
      have h9:=Lp (h.more (.slice A (h.l.length+1) c2) (Dn Bu49 v T cl mm ow)) _ (Aa HT8).is
      go_wp2_with fail
      refine h9.mono ?_
      rintro _ _ ⟨rfl,rfl⟩
      go_wp2
      go_ret2
      refine .inr ⟨hc,_,Dn Bu49 v T cl mm ow, ?_,rfl,rfl,rfl,rfl,rfl,Le hr0,hl0,(Aa HT8)⟩
      show Ending.returned _=_
      have e9:((h.more (.slice A (h.l.length+1) c2) (Dn Bu49 v T cl mm ow)).l.length:Int)=(h.l.length:Int)+1:=by unfold HP.more;simp
      rw[←e9]
      rfl
 ·have SS:=Ac H.start
  rw[Dk]
  go_enter func28,ntmps28
  go_wp2_with (first|go_skip|((with_reducible show wpList ..);first|(refine zB 26 (v.cs) (by rfl) rfl rfl rfl SS ?_;clear SS;intro Xa Ba SS;simp only[nn])))
  have hS1:Sy w _ h.blocks [hpO h,Al Ba v.cs]:=(Aa SS).drew
  clear SS
  refine wp_region_held_drew (P:=prog) (S:=fun X=>Sy w X h.blocks _) (by kernel_rfl) (hS1) (fun hS0=> ?_)
  refine gp 0 (some 13) (.pointer (some ⟨h.b,0,none⟩)) rfl rfl (hS1) ?_
  refine gq 1 (some 14) (.agg (v.cs).toArray) rfl rfl (fun X hX=>Ax (vs:=v.cs) 26 5 rwV szV rfl rfl (hX.hold 1 rfl) rfl rfl) (hS1) ?_
  refine gq 3 (some 16) (.agg (v.cs).toArray) rfl rfl (fun X hX=>Ax (vs:=v.cs) 26 5 rwV szV rfl rfl (hX.hold 1 rfl) rfl rfl) (hS1) ?_
  refine gp 5 (some 18) (.pointer (some ⟨h.b,0,none⟩)) rfl rfl (hS1) ?_
  refine gr (rs:= [2]) (gcB 2 (some 15) rfl rfl hS1 (Jy h v _ (hS1.hp 0 rfl) (hT.fr hS1.fr H.low).1) id ?_ gn)
  intro Yt1 hqt1
  simp only[nn]
  refine gr (rs:= [4]) (gcB 4 (some 17) rfl rfl hqt1 (Oa v _) id ?_ gn)
  intro Yt2 hqt2
  simp only[nn]
  refine gr (rs:= [6]) (gcB 6 (some 19) rfl rfl hqt2 (room_h h _ (hqt2.hp 0 rfl)) id ?_ gn)
  intro Yt3 hqt3
  simp only[nn]
  refine gr (rs:= [7]) (Ar 7 (some 20) rfl rfl (by kernel_rfl) (ZbC rfl rfl rfl rfl) (Nat.succ_pos _) hqt3 (fun _ hZ=>Sy.left (L:= [_,_]) (M:= [_]) hZ) ?_ gn)
  intro Yt4 Bt4 hEt4 hqt4
  clear hEt4
  simp only[nn]
  refine gr (rs:= [8]) (gcW 8 (some 21) rfl rfl (Sy.left (L:= [_,_]) (M:= [_]) hqt4) (Dc Bt4 3 [Aq h.l.length v,Jr v,Jk h] _ (hqt4.hold 2 rfl) (by simp)) ?_ gn)
  refine gp 9 (some 12) (.int .i64 (orE [Aq h.l.length v,Jr v,Jk h])) rfl rfl (Sy.left (L:= [_,_]) (M:= [_]) hqt4) ?_
  refine wpAnyH_done (by kernel_rfl) ?_ _
  try simp only[nn]
  have SS:=Ac (Sy.left (L:= [hpO h,Al Ba v.cs]) (M:= [Al Bt4 (Lq [Aq h.l.length v,Jr v,Jk h])]) hqt4)
  go_wp2_with (first|go_skip|((with_reducible show wpList ..);first|(refine rd rfl (Ky rfl rfl rfl hc) ?_)))
  go_ret2
  exact .inl ⟨rfl,hc,HP.To.end H (Aa SS) rfl⟩
