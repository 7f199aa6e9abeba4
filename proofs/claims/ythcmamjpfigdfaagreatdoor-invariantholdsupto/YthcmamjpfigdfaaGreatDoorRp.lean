import Derived.Test.YthcmamjpfigdfaaGreatDoorRk
set_option linter.all false
namespace Go.Proofs.YthcmamjpfigdfaaGreatDoor
set_option maxRecDepth 100000
set_option maxHeartbeats 0
section
open Go Go.Proofs Go.Maps Go.RowKit FM
attribute [local go_sem] Al Ak Ar Ah Am Ai Au Dd Db Bi Aj Bh
def tabO (T:TT):Ob:=⟨T.blocks,T.Is⟩
theorem tabO_ok (T:TT):(tabO T).Ok:=⟨fun h k=>TT.Is.block k h,fun h b hb=>TT.Is.lt h b hb⟩
theorem ex_app {o:Oper} {a:Act} {w:World} {t e:TypeId} {size bytes n m c B base:Nat} {z v:Value} {xs news:List Value} {s x:Operand} (ho:o.op= .call {callee:= .builtin .append,args:= #[s,x],argTypes:= #[t,t]}) (hs:a.eval s=v) (hx:a.eval x= .slice (some ⟨B,0,none⟩) m c)
  (ht:Tryz.prog.underlying t=some (.slice e)) (hi:(Tryz.prog.info? e).map (fun i=>(i.zero,i.size,i.bytes))=some (some z,size,bytes)) (hz:z.cells.size=size) (hsz:0<size) (hown:w.ownsRow base e size v n xs) (hB:Holds w B news) (hl:news.length=m * size) (h1: ∀u∈news,u.oneCell'=true)
  (hn:n+m<=4000000) (hby:bytes<=10000) (hbase:base<=w.heap.size): ∃A c' w',(execOp a.eval o).run Tryz.prog w= .ok (.value (.slice A (n+m) c')) w'/\w'.ownsRow base e size (.slice A (n+m) c') (n+m) (xs++news)/\w.grownBy w' v.ownBlock/\Kz w v (.slice A (n+m) c'):=by
 obtain⟨i0,hi,hz0,hz1,hz2⟩:=info_parts hi
 obtain⟨v',w',hrun,h2,h3,h4⟩:=Jr w base t o.type e i0 _ size bytes ht hi hz0 hz1 hz2 hz hsz v n xs hown ⟨B,0,none⟩ m c news hl (fun j u hj=>by
  rw[Addr.add_mid]
  exact hB.2 j u hj) h1 (by unfold maxLen;omega) (Nat.le_trans (Nat.mul_le_mul hn hby) (by decide)) hbase
 obtain⟨A',c',rfl⟩:=Ex h2
 refine⟨A',c',w', ?_,h2,h3,h4⟩
 simp[execOp,ho,resolve,invoke,builtin,hs,hx,hrun,Result.andThen]
theorem gapR {md:Region.Mode} {ops:Array Oper} {Q:Exit->Act->World->Prop} {S:World->Prop} {w:World} {fuel:Nat} {listed:Array Bool} {a:Act} {o:Oper} {t e:TypeId} {size bytes n m c B base:Nat} {z v:Value} {xs news:List Value} {s x:Operand} {rs:List Nat} (i:Nat) (dst:Option Tmp) (hi':ops[i]? =some o) (hd:o.dst=dst) (hw:Region.wanted o (yielded ops a.tmps)=true) (ho:o.op= .call {callee:= .builtin .append,args:= #[s,x],argTypes:= #[t,t]}) (hs:a.eval s=v) (hx:a.eval x= .slice (some ⟨B,0,none⟩) m c)
  (ht:Tryz.prog.underlying t=some (.slice e)) (hi:(Tryz.prog.info? e).map (fun i=>(i.zero,i.size,i.bytes))=some (some z,size,bytes)) (hz:z.cells.size=size) (hsz:0<size) (hown:w.ownsRow base e size v n xs) (hB:Holds w B news) (hl:news.length=m * size) (h1: ∀u∈news,u.oneCell'=true)
  (hn:n+m<=4000000) (hby:bytes<=10000) (hbase:base<=w.heap.size) (hS: ∀X,S X) (h: ∀A c' w',w'.ownsRow base e size (.slice A (n+m) c') (n+m) (xs++news)->w.grownBy w' v.ownBlock->Kz w v (.slice A (n+m) c')->wpAnyH Tryz.prog md ops Q S fuel (listed.setIfInBounds i true) (a.put dst (.slice A (n+m) c')) w') (hrs:AllReadyH Tryz.prog md ops Q S fuel listed a w rs):AllReadyH Tryz.prog md ops Q S fuel listed a w (i::rs):=by
 obtain⟨A,c',w',hrun,h2,h3,h4⟩:=ex_app ho hs hx ht hi hz hsz hown hB hl h1 hn hby hbase
 exact Qb i dst hi' hd hw hrun (hS _) (h A c' w' h2 h3 h4) hrs
theorem Sy.open {w X:World} {E:List Nat} {M:List Ob} {h:HP} (S:Sy w X E (hpO h::M)):Sy w X E (h.things++M):=by
 have H:h.Is X:=S.get 0 rfl
 have hd:=S.dis
 rw[List.pairwise_cons] at hd
 refine⟨S.fr,fun o ho=> ?_,fun o ho=> ?_,fun o ho b hb=> ?_, ?_⟩
 ·rcases List.mem_append.1 ho with h1|h1
  ·exact Qu h o h1
  ·exact S.ok o (List.mem_cons_of_mem _ h1)
 ·rcases List.mem_append.1 ho with h1|h1
  ·exact H.ho o h1
  ·exact S.ho o (List.mem_cons_of_mem _ h1)
 ·rcases List.mem_append.1 ho with h1|h1
  ·exact S.lo _ (List.mem_cons_self ..) b (HP.mem_blocks h1 hb)
  ·exact S.lo o (List.mem_cons_of_mem _ h1) b hb
 ·rw[List.pairwise_append]
  exact⟨H.dis,hd.2,fun a ha b hb x hx hxb=>hd.1 b hb x (HP.mem_blocks ha hx) hxb⟩
def HP.more (h:HP) (gv:Value) (q:OB):HP:={h with gv:=gv,l:=h.l++ [q]}
theorem apart_of {L:List Ob} (h:L.Pairwise (fun a b=> ∀x∈a.bs,x ∉ b.bs)) {i j:Nat} {a b:Ob} (hi:L[i]? =some a) (hj:L[j]? =some b) (hne:i≠j): ∀x∈a.bs,x ∉ b.bs:=by
 obtain⟨hil,hi'⟩:=List.getElem?_eq_some_iff.1 hi
 obtain⟨hjl,hj'⟩:=List.getElem?_eq_some_iff.1 hj
 intro x hx hxb
 rcases Nat.lt_or_gt_of_ne hne with h1|h1
 ·have:=List.pairwise_iff_getElem.1 h i j hil hjl h1
  rw[hi',hj'] at this
  exact this x hx hxb
 ·have:=List.pairwise_iff_getElem.1 h j i hjl hil h1
  rw[hi',hj'] at this
  exact this x hxb hx
theorem Sy.join {w X:World} {E:List Nat} {L M:List Ob} {a b c:Ob} (S:Sy w X E (L++a::b::M)) (hok:c.Ok) (hP:c.P X) (hc: ∀x,x∈c.bs->x∈a.bs∨x∈b.bs):Sy w X E (L++ [c]):=by
 have hd:=S.dis
 rw[List.pairwise_append] at hd
 refine⟨S.fr,fun o ho=> ?_,fun o ho=> ?_,fun o ho x hx=> ?_, ?_⟩
 ·rcases List.mem_append.1 ho with h|h
  ·exact S.ok o (List.mem_append_left _ h)
  ·rw[List.mem_singleton.1 h];exact hok
 ·rcases List.mem_append.1 ho with h|h
  ·exact S.ho o (List.mem_append_left _ h)
  ·rw[List.mem_singleton.1 h];exact hP
 ·rcases List.mem_append.1 ho with h|h
  ·exact S.lo o (List.mem_append_left _ h) x hx
  ·rw[List.mem_singleton.1 h] at hx
   rcases hc x hx with h1|h1
   ·exact S.lo a (List.mem_append_right _ (List.mem_cons_self ..)) x h1
   ·exact S.lo b (List.mem_append_right _ (List.mem_cons_of_mem _ (List.mem_cons_self ..))) x h1
 ·rw[List.pairwise_append]
  refine⟨hd.1,by simp,fun o ho q hq x hx hxq=> ?_⟩
  rw[List.mem_singleton.1 hq] at hxq
  rcases hc x hxq with h1|h1
  ·exact hd.2.2 o ho a (List.mem_cons_self ..) x hx h1
  ·exact hd.2.2 o ho b (List.mem_cons_of_mem _ (List.mem_cons_self ..)) x hx h1
theorem Sy.drop1 {w X:World} {E:List Nat} {L M:List Ob} {a:Ob} (S:Sy w X E (L++a::M)):Sy w X E (L++M):=by
 have hd:=S.dis
 have hm: ∀o∈L++M,o∈L++a::M:=fun o ho=>by
  rcases List.mem_append.1 ho with h|h
  ·exact List.mem_append_left _ h
  ·exact List.mem_append_right _ (List.mem_cons_of_mem _ h)
 refine⟨S.fr,fun o ho=>S.ok o (hm o ho),fun o ho=>S.ho o (hm o ho),fun o ho=>S.lo o (hm o ho), ?_⟩
 rw[List.pairwise_append] at hd ⊢
 rw[List.pairwise_cons] at hd
 exact⟨hd.1,hd.2.1.2,fun a' ha b hb=>hd.2.2 a' ha b (List.mem_cons_of_mem _ hb)⟩
theorem HP.add_to {h:HP} {w X X':World} {Bv:Nat} {c:List Value} {q:OB} {A:Option Addr} {c':Nat} {M:List Ob} (H:h.Is w) (S:Sy w X h.blocks (hpO h::Av Bv c::tabO q.T::Av q.b q.cs::M)) (hO:X'.ownsRow 0 97 1 (.slice A (h.l.length+1) c') (h.l.length+1) (h.l.map OB.ptr++ [q.ptr])) (hg:X.grownBy X' h.gv.ownBlock) (hF:Kz X h.gv (.slice A (h.l.length+1) c')):h.To (h.more (.slice A (h.l.length+1) c') q) w (X'.setCells h.b 0 [.slice A (h.l.length+1) c']):=by
 have hne:q.b ∉ q.T.blocks:=fun hm=>apart_of S.dis (i:=3) (j:=2) rfl rfl (by decide) q.b (List.mem_singleton.2 rfl) hm
 have S1:=S.open
 have S2:=S1.row 1 (base:=0) (e:=97) (s:=1) (n:=h.l.length) (v:=h.gv) (ys:=h.l.map OB.ptr) rfl hO hg hF
 have S3:=S2.put 0 (b:=h.b) (cs:=hcs h) rfl 0 [.slice A (h.l.length+1) c'] (by simp[hcs])
 have ec:Bt (hcs h) 0 [.slice A (h.l.length+1) c']=hcs (h.more (.slice A (h.l.length+1) c') q):=by simp[Bt,hcs,HP.more]
 rw[ec] at S3
 have S4:Sy w (X'.setCells h.b 0 [.slice A (h.l.length+1) c']) h.blocks ((Av h.b (hcs (h.more (.slice A (h.l.length+1) c') q))::Ec 0 97 1 (.slice A (h.l.length+1) c') (h.l.length+1) (h.l.map OB.ptr++ [q.ptr])::h.l.map obO)++(Av Bv c::tabO q.T::Av q.b q.cs::M)):=S3
 have S5:=S4.drop1
 have hT:q.T.Is (X'.setCells h.b 0 [.slice A (h.l.length+1) c']):=S5.ho (tabO q.T) (List.mem_append_right _ (List.mem_cons_self ..))
 have hB:Holds (X'.setCells h.b 0 [.slice A (h.l.length+1) c']) q.b q.cs:=(S5.ho (Av q.b q.cs) (List.mem_append_right _ (List.mem_cons_of_mem _ (List.mem_cons_self ..)))).1
 have S6:=S5.join (c:=obO q) (Zek q) ⟨hB,hT,hne⟩ (fun x hx=>by
  rcases List.mem_cons.1 hx with rfl|hx
  ·exact .inr (List.mem_singleton.2 rfl)
  ·exact .inl hx)
 refine HP.To.of H ?_ rfl
 have e:(h.more (.slice A (h.l.length+1) c') q).things=(Av h.b (hcs (h.more (.slice A (h.l.length+1) c') q))::Ec 0 97 1 (.slice A (h.l.length+1) c') (h.l.length+1) (h.l.map OB.ptr++ [q.ptr])::h.l.map obO)++ [obO q]:=by
  unfold HP.things HP.more
  simp
 rw[e]
 exact S6
end
section
open Go Go.Proofs Go.Maps Go.RowKit FM Tryz
attribute [local go_sem] Al Ak Ar Ah Am Ai Au Dd Db Bi Aj Bh
def Eh (n:Nat) (v:VV):Int:=if v.good then Ay n [v] else 5
section
variable {ops:Array Oper} {rest:List Oper} {Q:Exit->Act->World->Prop} {w w0:World} {a:Act} {o:Oper} {E:List Nat} {L:List Ob}
theorem bsV1 {v:VV} {x:Operand}  (ho:o.op= .buildSlice 44 1 #[(0,x)]) (hx:a.eval x= .agg v.cs.toArray) (hL:Sy w0 w E L)
  (h: ∀X B,Sy w0 X E (L++ [Av B ([v].flatMap VV.cs)])->wpList prog ops Q rest (a.put o.dst (.slice (some ⟨B,0,none⟩) 1 1)) X) (hw:Region.wanted o (yielded ops a.tmps)=true:=by rfl):wpList prog ops Q (o::rest) a w:=by
 refine BigFrame.wpList_want hw fun K hK=> ?_
 have hP:=hK _ _ (h _ _ (hL.box ([v].flatMap VV.cs) 40 (Nat.succ_pos _)))
 unfold Oper.wp
 rw[Ox ho hx]
 exact hP
end
theorem ZfC (h:HP) (v:VV) (w:World) (H:h.Is w) (hT:Lib.Utf8Tabs 1 2 w):Calls prog 55 #[.pointer (some ⟨h.b,0,none⟩),v.agg] w fun e w'=>e= .returned (.int .i64 (Eh h.l.length v))/\Below w.heap.size w w':=by
 unfold Eh
 obtain⟨z,hz⟩: ∃z,v.good=z:=⟨_,rfl⟩
 rw[hz]
 cases z
 ·have SS:=Ab (Sy.nil w [])
  rw[Dg]
  go_enter func55,ntmps55
  go_wp2_with (first|go_skip|((with_reducible show wpList ..);first|(refine zB 40 (v.cs) rfl rfl rfl SS ?_;clear SS;intro Xa Ba SS;simp only[nn])|(refine zL (v.cs) 40 5 0 rwV szV rfl rfl SS rfl rfl rfl ?_;simp only[nn])))
  have HC:=Mc v _ (Ao hT (Aa SS).fr.below)
  rw[Dg] at HC
  refine HC.mono ?_
  rintro e X5 ⟨rfl,hb5⟩
  replace SS:=Ab ((Aa SS).on hb5)
  clear hb5 HC
  rw[show Za v.good=5 by rw[hz];rfl]
  go_wp2
  go_ret
  exact⟨rfl,(Aa SS).fr.below⟩
 ·have SS:=Ab (Sy.nil w [])
  rw[Dg]
  go_enter func55,ntmps55
  go_wp2_with (first|go_skip|((with_reducible show wpList ..);first|(refine zB 40 (v.cs) rfl rfl rfl SS ?_;clear SS;intro Xa Ba SS;simp only[nn])|(refine zL (v.cs) 40 5 0 rwV szV rfl rfl SS rfl rfl rfl ?_;simp only[nn])))
  have HC:=Mc v _ (Ao hT (Aa SS).fr.below)
  rw[Dg] at HC
  refine HC.mono ?_
  rintro e X5 ⟨rfl,hb5⟩
  replace SS:=Ab ((Aa SS).on hb5)
  clear hb5 HC
  rw[show Za v.good=0 by rw[hz];rfl]
  go_wp2_with (first|go_skip|((with_reducible show wpList ..);first|(refine zL (v.cs) 40 5 0 rwV szV rfl rfl SS rfl rfl rfl ?_;simp only[nn])|((refine bsV1 (v:=v) rfl rfl (Aa SS) ?_);intro X6 B6 S6;replace SS:=Ab S6;clear S6;simp only[nn])))
  refine(Lx h _ 1 [v] _ (H.on (Aa SS).fr.below) (Dy ((Aa SS).hold 1 rfl)) (by simp)).mono ?_
  rintro e X7 ⟨rfl,hb7⟩
  replace SS:=Ab ((Aa SS).on hb7)
  clear hb7
  go_wp2
  go_ret
  exact⟨rfl,(Aa SS).fr.below⟩
def Ji (h:HP):Int:=if h.cap<=(h.l.length:Int) then 3 else 0
theorem ex_geq {o:Oper} {a:Act} {w:World} {x y:Operand} {n m:Int} (b:Bool) (ho:o.op= .binOp .geq 3 x y 3) (hx:a.eval x= .int .i64 n) (hc:a.eval y= .int .i64 m) (h:decide (m<=n)=b):(execOp a.eval o).run prog w= .ok (.value (.bool b)) w:=by
 subst h
 unfold execOp
 simp only[ho,hx,hc]
 simp[go_sem,eqGuard]
theorem room_h (h:HP) (w:World) (H:h.Is w):Calls prog 87 #[.pointer (some ⟨h.b,0,none⟩)] w fun e w'=>e= .returned (.int .i64 (Ji h))/\Below w.heap.size w w':=by
 unfold Ji
 by_cases hr:h.cap<=(h.l.length:Int)
 ·rw[if_pos hr]
  have hc:decide (h.cap<=(h.l.length:Int))=true:=decide_eq_true hr
  have hS:Sy w w.drew [] []:=(Sy.nil w []).drew
  go_enter func87,ntmps87
  go_wp2_with fail
  refine wp_region_held_drew (P:=prog) (S:=fun X=>Sy w X [] _) (by kernel_rfl) (hS) (fun hS0=> ?_)
  refine gp 0 (some 3) (.pointer (some ⟨h.b,0,none⟩)) rfl rfl (hS) ?_
  refine gp 2 (some 5) (.pointer (some ⟨h.b,0,none⟩)) rfl rfl (hS) ?_
  refine gp 3 (some 6) (.pointer (some ⟨h.b,0,none⟩)) rfl rfl (hS) ?_
  refine gp 4 (some 7) (.pointer (some ⟨h.b,1,none⟩)) rfl rfl (hS) ?_
  refine gq 5 (some 8) (.int .i64 h.cap) rfl rfl (fun X hX=>Ad 3 isAgg3 rfl rfl ((H.on hX.fr.below).blk) rfl) (hS) ?_
  refine gr (rs:= [1]) (gcW 1 (some 4) rfl rfl (hS) (Zdl h _ (H.on hS.fr.below)) ?_ gn)
  refine gq 6 (some 9) (.bool true) rfl rfl (fun X hX=>ex_geq true rfl rfl rfl hc) (hS) ?_
  refine dn ?_
  try simp only[nn]
  have SS:=Ab hS
  go_wp2
  go_ret
  exact⟨rfl,(Aa SS).fr.below⟩
 ·rw[if_neg hr]
  have hc:decide (h.cap<=(h.l.length:Int))=false:=decide_eq_false hr
  have hS:Sy w w.drew [] []:=(Sy.nil w []).drew
  go_enter func87,ntmps87
  go_wp2_with fail
  refine wp_region_held_drew (P:=prog) (S:=fun X=>Sy w X [] _) (by kernel_rfl) (hS) (fun hS0=> ?_)
  refine gp 0 (some 3) (.pointer (some ⟨h.b,0,none⟩)) rfl rfl (hS) ?_
  refine gp 2 (some 5) (.pointer (some ⟨h.b,0,none⟩)) rfl rfl (hS) ?_
  refine gp 3 (some 6) (.pointer (some ⟨h.b,0,none⟩)) rfl rfl (hS) ?_
  refine gp 4 (some 7) (.pointer (some ⟨h.b,1,none⟩)) rfl rfl (hS) ?_
  refine gq 5 (some 8) (.int .i64 h.cap) rfl rfl (fun X hX=>Ad 3 isAgg3 rfl rfl ((H.on hX.fr.below).blk) rfl) (hS) ?_
  refine gr (rs:= [1]) (gcW 1 (some 4) rfl rfl (hS) (Zdl h _ (H.on hS.fr.below)) ?_ gn)
  refine gq 6 (some 9) (.bool false) rfl rfl (fun X hX=>ex_geq false rfl rfl rfl hc) (hS) ?_
  refine dn ?_
  try simp only[nn]
  have SS:=Ab hS
  go_wp2
  go_ret
  exact⟨rfl,(Aa SS).fr.below⟩
theorem ex_bob {o:Oper} {a:Act} {w:World} {x0 x1 x2 x3 x4 x5:Operand} (q:OB) (ho:o.op= .build 155 #[(0,x0),(1,x1),(2,x2),(3,x3),(4,x4),(5,x5)]) (hc1:q.c=1) (hx1:q.x=true) (h0:a.eval x0= .int .i64 1) (h1:a.eval x1= .agg q.p.cs.toArray) (h2:a.eval x2= .bool true) (h3:a.eval x3= .pointer (some ⟨q.T.t,0,none⟩)) (h4:a.eval x4= .iface 109 (.agg #[])) (h5:a.eval x5= .nilIface):(execOp a.eval o).run prog w= .ok (.value (.agg q.cs.toArray)) w:=by
 have e:(Instr.build 155 #[(0, .int .i64 q.c),(1, .agg q.p.cs.toArray),(2, .bool q.x),(3, .pointer (some ⟨q.T.t,0,none⟩)),(4, .iface 109 (.agg #[])),(5, .nilIface)]).run prog w= .ok (.agg q.cs.toArray) w:=by kernel_rfl
 rw[hc1,hx1] at e
 unfold execOp
 simp only[ho,List.map_toArray,List.map_cons,List.map_nil,h0,h1,h2,h3,h4,h5]
 simp[e]
theorem ex_bsO {o:Oper} {a:Act} {w:World} {x0:Operand} {b:Nat} (ho:o.op= .buildSlice 92 1 #[(0,x0)]) (h0:a.eval x0= .pointer (some ⟨b,0,none⟩)):(execOp a.eval o).run prog w= .ok (.value (.slice (some ⟨w.heap.size,0,none⟩) 1 1)) (w.alloc (Obj.cells [Value.pointer (some ⟨b,0,none⟩)].toArray 97)):=by
 have e:(Instr.buildSlice 92 1 #[(0, .pointer (some ⟨b,0,none⟩))]).run prog w= .ok (.slice (some ⟨w.heap.size,0,none⟩) 1 1) (w.alloc (Obj.cells [Value.pointer (some ⟨b,0,none⟩)].toArray 97)):=by kernel_rfl
 unfold execOp
 simp only[ho,List.map_toArray,List.map_cons,List.map_nil,h0]
 simp[e]
theorem infOp:(prog.info? 97).map (fun i=>(i.zero,i.size,i.bytes))=some (some (.pointer none),1,8):=by kernel_rfl
theorem szOs:(prog.info? 92).map (·.size)=some 1:=by kernel_rfl
def Vb (b:Nat) (v:VV) (T:TT):OB:=⟨b,1,v,true,T⟩
theorem pr_nil {T:TT} (h:T.rows= []):pr T= []:=by
 unfold pr TT.live
 rw[h]
 rfl
theorem add_h (h:HP) (v:VV) (w:World) (H:h.Is w) (hT:Tabs w) (hl:h.l.length<=65536):Calls prog 35 #[.pointer (some ⟨h.b,0,none⟩), .int .i64 1,v.agg, .iface 109 (.agg #[]), .nilIface] w fun e w'=>(e= .returned (.tuple #[.int .i64 0,Ax (orE [Eh h.l.length v,Df v,Ji h])])/\orE [Eh h.l.length v,Df v,Ji h]≠0/\h.To h w w')∨(orE [Eh h.l.length v,Df v,Ji h]=0/\ ∃(gv:Value) (q:OB),e= .returned (.tuple #[.int .i64 ((h.l.length:Int)+1), .nilIface])/\q.c=1/\q.p=v/\q.x=true/\pr q.T= []/\q.T.last=0/\h.To (h.more gv q) w w'):=by
 by_cases hc:orE [Eh h.l.length v,Df v,Ji h]=0
 ·have SS:=Ab H.start
  rw[Dg]
  go_enter func35,ntmps35
  go_wp2_with (first|go_skip|((with_reducible show wpList ..);first|(refine zB 40 (v.cs) rfl rfl rfl SS ?_;clear SS;intro Xa Ba SS;simp only[nn])))
  have hS1:Sy w _ h.blocks [hpO h,Av Ba v.cs]:=(Aa SS).drew
  clear SS
  refine wp_region_held_drew (P:=prog) (S:=fun X=>Sy w X h.blocks _) (by kernel_rfl) (hS1) (fun hS0=> ?_)
  refine gp 0 (some 13) (.pointer (some ⟨h.b,0,none⟩)) rfl rfl (hS1) ?_
  refine gq 1 (some 14) (.agg (v.cs).toArray) rfl rfl (fun X hX=>Af (vs:=v.cs) 40 5 rwV szV rfl rfl (hX.hold 1 rfl) rfl rfl) (hS1) ?_
  refine gq 3 (some 16) (.agg (v.cs).toArray) rfl rfl (fun X hX=>Af (vs:=v.cs) 40 5 rwV szV rfl rfl (hX.hold 1 rfl) rfl rfl) (hS1) ?_
  refine gp 5 (some 18) (.pointer (some ⟨h.b,0,none⟩)) rfl rfl (hS1) ?_
  refine gr (rs:= [2]) (gcB 2 (some 15) rfl rfl hS1 (ZfC h v _ (hS1.hp 0 rfl) (hT.fr hS1.fr H.low).1) id ?_ gn)
  intro Yt1 hqt1
  simp only[nn]
  refine gr (rs:= [4]) (gcB 4 (some 17) rfl rfl hqt1 (Ni v _) id ?_ gn)
  intro Yt2 hqt2
  simp only[nn]
  refine gr (rs:= [6]) (gcB 6 (some 19) rfl rfl hqt2 (room_h h _ (hqt2.hp 0 rfl)) id ?_ gn)
  intro Yt3 hqt3
  simp only[nn]
  refine gr (rs:= [7]) (Nl 7 (some 20) rfl rfl (Zfy rfl rfl rfl rfl) hqt3 (fun _ hZ=>Sy.left (L:= [_,_]) (M:= [_]) hZ) ?_ gn)
  intro Yt4 Bt4 hEt4 hqt4
  clear hEt4
  simp only[nn]
  refine gr (rs:= [8]) (gcW 8 (some 21) rfl rfl (Sy.left (L:= [_,_]) (M:= [_]) hqt4) (Mh Bt4 3 [Eh h.l.length v,Df v,Ji h] _ (hqt4.hold 2 rfl) (by simp)) ?_ gn)
  refine gp 9 (some 12) (.int .i64 (orE [Eh h.l.length v,Df v,Ji h])) rfl rfl (Sy.left (L:= [_,_]) (M:= [_]) hqt4) ?_
  refine dn ?_
  try simp only[nn]
  have SS:=Ab (Sy.left (L:= [hpO h,Av Ba v.cs]) (M:= [Av Bt4 (Mr [Eh h.l.length v,Df v,Ji h])]) hqt4)
  go_wp2_with (first|go_skip|((with_reducible show wpList ..);first|(refine rd rfl (Lm rfl rfl rfl hc) ?_)))
  have hS4:Sy w _ h.blocks [hpO h,Av Ba v.cs]:=(Aa SS).drew
  clear SS
  refine wp_region_held_drew (P:=prog) (S:=fun _=>True) (by kernel_rfl) trivial (fun hS0=> ?_)
  refine gp 0 (some 26) (.pointer (some ⟨h.b,0,none⟩)) rfl rfl trivial ?_
  refine gp 1 (some 27) (.pointer (some ⟨h.b,0,none⟩)) rfl rfl trivial ?_
  refine gp 2 (some 28) (.pointer (some ⟨h.b,0,none⟩)) rfl rfl trivial ?_
  refine gp 3 (some 29) (.pointer (some ⟨h.b,0,none⟩)) rfl rfl trivial ?_
  refine gp 5 (some 31) (.int .i64 1) rfl rfl trivial ?_
  refine gp 8 (some 34) (.iface 109 (.agg #[])) rfl rfl trivial ?_
  refine gp 9 (some 35) (.nilIface) rfl rfl trivial ?_
  have hq:=hS4
  repeat' first|((with_reducible show wpAnyH ..);(try simp only[nn]);first|refine gr (rs:= [4,6,7]) ?_ (by decide+kernel)|refine gr (rs:= [6,7]) ?_ (by decide+kernel)|refine gr (rs:= [4,7]) ?_ (by decide+kernel)|refine gr (rs:= [4,6]) ?_ (by decide+kernel)|refine gr (rs:= [7]) ?_ (by decide+kernel)|refine gr (rs:= [4]) ?_ (by decide+kernel)|refine gr (rs:= [6]) ?_ (by decide+kernel)|refine gr (rs:= [4,11]) ?_ (by decide+kernel)|refine gr (rs:= [11]) ?_ (by decide+kernel)|refine gr (rs:= [4,12]) ?_ (by decide+kernel)|refine gr (rs:= [12]) ?_ (by decide+kernel)|refine gr (rs:= [13]) ?_ (by decide+kernel)|refine gr (rs:= [16]) ?_ (by decide+kernel)|((with_reducible show wpAnyH _ _ _ _ _ _ (Array.setIfInBounds _ 6 true) _ _);refine gq 10 (some 36) (.agg (Vb 0 v T).cs.toArray) rfl rfl (fun X hX=>ex_bob (Vb 0 v T) rfl rfl rfl rfl rfl rfl rfl rfl rfl) trivial ?_)|((with_reducible show wpAnyH _ _ _ _ _ _ (Array.setIfInBounds _ 7 true) _ _);refine gq 10 (some 36) (.agg (Vb 0 v T).cs.toArray) rfl rfl (fun X hX=>ex_bob (Vb 0 v T) rfl rfl rfl rfl rfl rfl rfl rfl rfl) trivial ?_)|((with_reducible show wpAnyH _ _ _ _ _ _ (Array.setIfInBounds _ 13 true) _ _);refine gp 14 (some 40) (.pointer (some ⟨h.b,0,none⟩)) rfl rfl trivial ?_)|((with_reducible show wpAnyH _ _ _ _ _ _ (Array.setIfInBounds _ 14 true) _ _);refine gp 15 (some 41) (.pointer (some ⟨h.b,0,none⟩)) rfl rfl trivial ?_)|(refine dn ?_;(try simp only[nn]);have HT8:=Ab T8;clear T8;have h9:=Zdl (h.more (.slice A (h.l.length+1) c2) (Vb B11_ v T)) _ (Aa HT8).is;go_wp2_with fail;refine h9.mono ?_;rintro _ _ ⟨rfl,rfl⟩;go_wp2;go_ret2;refine .inr ⟨hc,_,Vb B11_ v T, ?_,rfl,rfl,rfl,pr_nil hr0,hl0,(Aa HT8)⟩;show Ending.returned _=_;have e9:((h.more (.slice A (h.l.length+1) c2) (Vb B11_ v T)).l.length:Int)=(h.l.length:Int)+1:=(by unfold HP.more;simp);rw[←e9];rfl))|((with_reducible show AllReadyH _ _ _ _ _ _ _ _ _ (4::_));refine gv 4 (some 30) rfl rfl (Ad 92 isAgg92 rfl rfl ((hq.hp 0 rfl).blk) rfl) trivial ?_ ?_)|((with_reducible show AllReadyH _ _ _ _ _ _ _ _ _ (6::_));refine gv 6 (some 32) rfl rfl (Af (vs:=v.cs) 40 5 rwV szV rfl rfl (hq.hold 1 rfl) rfl rfl) trivial ?_ ?_)|((with_reducible show AllReadyH _ _ _ _ _ _ _ _ _ (7::_));refine gc 7 (some 33) rfl rfl (new10 _) ?_ ?_;rintro e Yu ⟨T,rfl,hTu,hr0,hl0,hlou,hbTu⟩;have hq:=Sy.add hq (tabO_ok T) hTu hbTu (fun b hb=>hlou b hb);refine⟨_,rfl,trivial, ?_⟩)|((with_reducible show AllReadyH _ _ _ _ _ _ _ _ _ (11::_));refine gbxS 11 (some 37) 155 ((Vb 0 v T).cs) rfl rfl (by kernel_rfl) rfl rfl rfl (Nat.succ_pos _) hq (fun _ hZ=>trivial) ?_ ?_;intro _ B11_ e11 hq;clear e11)|((with_reducible show AllReadyH _ _ _ _ _ _ _ _ _ (12::_));refine Nl 12 (some 38) rfl rfl (ex_bsO rfl rfl) hq (fun _ hZ=>trivial) ?_ ?_;intro _ B12_ e12 hq;clear e12)|((with_reducible show AllReadyH _ _ _ _ _ _ _ _ _ (13::_));refine gapR (e:=97) (size:=1) (bytes:=8) (z:= .pointer none) (n:=h.l.length) (base:=0) (xs:=h.l.map OB.ptr) (news:= [Value.pointer (some ⟨B11_,0,none⟩)]) 13 (some 39) rfl rfl (by kernel_rfl) rfl rfl rfl underlying92 infOp rfl (by decide) (hq.hp 0 rfl).own (hq.hold 4 rfl) rfl (by simp[Value.oneCell']) (by omega) (by decide) (Nat.zero_le _) (fun _=>trivial) (fun A c2 X8 hO8 hg8 hF8=> ?_) ?_)|((with_reducible show AllReadyH _ _ _ _ _ _ _ _ _ (16::_));have T8:=HP.add_to (q:=Vb B11_ v T) H hq hO8 (show _ from hg8) hF8;have hb8:Holds X8 h.b (hcs h):=(hq.hp 0 rfl).blk.block (hg8.block _ ((hq.hp 0 rfl).blk.lt (by simp[hcs])) (fun e8=>(List.pairwise_cons.1 (hq.hp 0 rfl).dis).1 _ (List.mem_cons_self ..) h.b (List.mem_singleton.2 rfl) (by have e9:some h.b=h.gv.ownBlock:=e8;show h.b∈h.gv.ownBlock.toList;rw[←e9];simp)));refine Zbk 16 none rfl rfl (by kernel_rfl) (Gi (vs:= [.slice A (h.l.length+1) c2]) rfl rfl rfl rfl (by simp[Value.oneCell']) szOs hb8 (by simp[hcs])) trivial ?_ ?_)|exact gn
 ·have SS:=Ab H.start
  rw[Dg]
  go_enter func35,ntmps35
  go_wp2_with (first|go_skip|((with_reducible show wpList ..);first|(refine zB 40 (v.cs) rfl rfl rfl SS ?_;clear SS;intro Xa Ba SS;simp only[nn])))
  have hS1:Sy w _ h.blocks [hpO h,Av Ba v.cs]:=(Aa SS).drew
  clear SS
  refine wp_region_held_drew (P:=prog) (S:=fun X=>Sy w X h.blocks _) (by kernel_rfl) (hS1) (fun hS0=> ?_)
  refine gp 0 (some 13) (.pointer (some ⟨h.b,0,none⟩)) rfl rfl (hS1) ?_
  refine gq 1 (some 14) (.agg (v.cs).toArray) rfl rfl (fun X hX=>Af (vs:=v.cs) 40 5 rwV szV rfl rfl (hX.hold 1 rfl) rfl rfl) (hS1) ?_
  refine gq 3 (some 16) (.agg (v.cs).toArray) rfl rfl (fun X hX=>Af (vs:=v.cs) 40 5 rwV szV rfl rfl (hX.hold 1 rfl) rfl rfl) (hS1) ?_
  refine gp 5 (some 18) (.pointer (some ⟨h.b,0,none⟩)) rfl rfl (hS1) ?_
  refine gr (rs:= [2]) (gcB 2 (some 15) rfl rfl hS1 (ZfC h v _ (hS1.hp 0 rfl) (hT.fr hS1.fr H.low).1) id ?_ gn)
  intro Yt1 hqt1
  simp only[nn]
  refine gr (rs:= [4]) (gcB 4 (some 17) rfl rfl hqt1 (Ni v _) id ?_ gn)
  intro Yt2 hqt2
  simp only[nn]
  refine gr (rs:= [6]) (gcB 6 (some 19) rfl rfl hqt2 (room_h h _ (hqt2.hp 0 rfl)) id ?_ gn)
  intro Yt3 hqt3
  simp only[nn]
  refine gr (rs:= [7]) (Nl 7 (some 20) rfl rfl (Zfy rfl rfl rfl rfl) hqt3 (fun _ hZ=>Sy.left (L:= [_,_]) (M:= [_]) hZ) ?_ gn)
  intro Yt4 Bt4 hEt4 hqt4
  clear hEt4
  simp only[nn]
  refine gr (rs:= [8]) (gcW 8 (some 21) rfl rfl (Sy.left (L:= [_,_]) (M:= [_]) hqt4) (Mh Bt4 3 [Eh h.l.length v,Df v,Ji h] _ (hqt4.hold 2 rfl) (by simp)) ?_ gn)
  refine gp 9 (some 12) (.int .i64 (orE [Eh h.l.length v,Df v,Ji h])) rfl rfl (Sy.left (L:= [_,_]) (M:= [_]) hqt4) ?_
  refine dn ?_
  try simp only[nn]
  have SS:=Ab (Sy.left (L:= [hpO h,Av Ba v.cs]) (M:= [Av Bt4 (Mr [Eh h.l.length v,Df v,Ji h])]) hqt4)
  go_wp2_with (first|go_skip|((with_reducible show wpList ..);first|(refine rd rfl (Gy rfl rfl rfl hc) ?_)))
  go_ret2
  exact .inl ⟨rfl,hc,HP.To.end H (Aa SS) rfl⟩
