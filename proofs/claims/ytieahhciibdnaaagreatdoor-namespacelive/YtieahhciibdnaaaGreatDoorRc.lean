import Derived.Test.YtieahhciibdnaaaGreatDoorRb
import Derived.Test.YtieahhciibdnaaaGreatDoorRa
set_option linter.all false
namespace Go.Proofs.YtieahhciibdnaaaGreatDoor
set_option maxRecDepth 100000
set_option maxHeartbeats 0
section
open Go Go.Proofs Go.Maps Go.RowKit FM Tryz
attribute [local go_sem] Ak Ae Aq Dl Dk Bl Af Aj Ad Bj Et Es
theorem Zcv {o:Oper} {a:Act} {w:World} {x y:Operand} {n m:Int} (ho:o.op= .binOp .neq 3 x y 3) (hx:a.eval x= .int .i64 n) (hc:a.eval y= .int .i64 m) (h:n≠m):(execOp a.eval o).run prog w= .ok (.value (.bool true)) w:=by
 unfold execOp
 simp only[ho,hx,hc]
 simp[go_sem,eqGuard,h]
theorem ex_neY {o:Oper} {a:Act} {w:World} {x y:Operand} {n m:Int} (ho:o.op= .binOp .neq 3 x y 3) (hx:a.eval x= .int .i64 n) (hc:a.eval y= .int .i64 m) (h:n=m):(execOp a.eval o).run prog w= .ok (.value (.bool false)) w:=by
 unfold execOp
 simp only[ho,hx,hc]
 simp[go_sem,eqGuard,h]
def Bh (k:KK):Int:=if goodK k then 0 else 5
theorem Lu (k:KK) (w:World) (hT:Lib.Utf8Tabs 1 2 w):Calls prog 12 #[k.agg] w fun e w'=>e= .returned (.int .i64 (Bh k))/\Below w.heap.size w w':=Vd k.s k.n w hT
theorem Ec {w:World} {B:Nat} {l:List VV} (h:Holds w B (l.flatMap VV.cs)):ZaU w (some ⟨B,0,none⟩) l:=fun j v hj=>by
 have hlt:=(List.getElem?_eq_some_iff.1 hj).1
 have hv:=(List.getElem?_eq_some_iff.1 hj).2
 have hlen:(l.flatMap VV.cs).length=l.length * 5:=Kf VV.cs 5 (fun _=>rfl) l
 refine⟨B,0,rfl,h.lt (by omega),fun t u hu=> ?_⟩
 have ht:t<5:=by have:=(List.getElem?_eq_some_iff.1 hu).1;simpa [VV.cs] using this
 have h2:=Qm VV.cs 5 (fun _=>rfl) l j t hlt ht
 rw[hv,hu] at h2
 have:=h.cell (j * 5+t) h2
 rw[Nat.zero_add]
 exact this
section
variable {md : Region.Mode} {ops : Array Oper} {Q : Exit → Act → World → Prop} {S : World → Prop} {w w0 : World} {fuel : Nat} {listed : Array Bool} {a : Act} {o : Oper} {E : List Nat} {L : List Ob}
theorem Ax {cs:List Value} {t n:Nat} (i:Nat) (dst:Option Tmp) {rs:List Nat} (hi:ops[i]? =some o) (hd:o.dst=dst) (hw:Region.wanted o (yielded ops a.tmps)=true) (he:(execOp a.eval o).run prog w= .ok (.value (.slice (some ⟨w.heap.size,0,none⟩) n n)) (w.alloc (Obj.cells cs.toArray t))) (hc:0<cs.length) (hL:Sy w0 w E L)
  (hS: ∀X,Sy w0 X E (L++ [Ao w.heap.size cs])->S X) (h: ∀X B,B=w.heap.size->Sy w0 X E (L++ [Ao B cs])->wpAnyH prog md ops Q S fuel (listed.setIfInBounds i true) (a.put dst (.slice (some ⟨B,0,none⟩) n n)) X) (hs:AllReadyH prog md ops Q S fuel listed a w rs):AllReadyH prog md ops Q S fuel listed a w (i::rs):=by
 have hb:=hL.box cs t hc
 exact Zd i dst hi hd hw he (hS _ hb) (h _ _ rfl hb) hs
end
theorem Bq {o:Oper} {a:Act} {w:World} {x0:Operand} {v0:VV} (ho:o.op= .buildSlice 139 1 #[(0,x0)]) (h0:a.eval x0= .agg v0.cs.toArray):(execOp a.eval o).run prog w= .ok (.value (.slice (some ⟨w.heap.size,0,none⟩) 1 1)) (w.alloc (Obj.cells ([v0].flatMap VV.cs).toArray 26)):=by
 have e:(Instr.buildSlice 139 1 #[(0, .agg v0.cs.toArray)]).run prog w= .ok (.slice (some ⟨w.heap.size,0,none⟩) 1 1) (w.alloc (Obj.cells ([v0].flatMap VV.cs).toArray 26)):=by kernel_rfl
 unfold execOp
 simp only[ho,List.map_toArray,List.map_cons,List.map_nil,h0]
 simp[e]
theorem Dd {o:Oper} {a:Act} {w:World} {x0 x1:Operand} {v0 v1:VV} (ho:o.op= .buildSlice 139 2 #[(0,x0),(1,x1)]) (h0:a.eval x0= .agg v0.cs.toArray) (h1:a.eval x1= .agg v1.cs.toArray):(execOp a.eval o).run prog w= .ok (.value (.slice (some ⟨w.heap.size,0,none⟩) 2 2)) (w.alloc (Obj.cells ([v0,v1].flatMap VV.cs).toArray 26)):=by
 have e:(Instr.buildSlice 139 2 #[(0, .agg v0.cs.toArray),(1, .agg v1.cs.toArray)]).run prog w= .ok (.slice (some ⟨w.heap.size,0,none⟩) 2 2) (w.alloc (Obj.cells ([v0,v1].flatMap VV.cs).toArray 26)):=by kernel_rfl
 unfold execOp
 simp only[ho,List.map_toArray,List.map_cons,List.map_nil,h0,h1]
 simp[e]
theorem Gl {o:Oper} {a:Act} {w:World} {x0 x1 x2:Operand} {v0 v1 v2:VV} (ho:o.op= .buildSlice 139 3 #[(0,x0),(1,x1),(2,x2)]) (h0:a.eval x0= .agg v0.cs.toArray) (h1:a.eval x1= .agg v1.cs.toArray) (h2:a.eval x2= .agg v2.cs.toArray):(execOp a.eval o).run prog w= .ok (.value (.slice (some ⟨w.heap.size,0,none⟩) 3 3)) (w.alloc (Obj.cells ([v0,v1,v2].flatMap VV.cs).toArray 26)):=by
 have e:(Instr.buildSlice 139 3 #[(0, .agg v0.cs.toArray),(1, .agg v1.cs.toArray),(2, .agg v2.cs.toArray)]).run prog w= .ok (.slice (some ⟨w.heap.size,0,none⟩) 3 3) (w.alloc (Obj.cells ([v0,v1,v2].flatMap VV.cs).toArray 26)):=by kernel_rfl
 unfold execOp
 simp only[ho,List.map_toArray,List.map_cons,List.map_nil,h0,h1,h2]
 simp[e]
theorem ZaI {o:Oper} {a:Act} {w:World} {x0 x1:Operand} {e0 e1:Int} (ho:o.op= .buildSlice 144 2 #[(0,x0),(1,x1)]) (h0:a.eval x0= .int .i64 e0) (h1:a.eval x1= .int .i64 e1):(execOp a.eval o).run prog w= .ok (.value (.slice (some ⟨w.heap.size,0,none⟩) 2 2)) (w.alloc (Obj.cells (Md [e0,e1]).toArray 29)):=by
 have e:(Instr.buildSlice 144 2 #[(0, .int .i64 e0),(1, .int .i64 e1)]).run prog w= .ok (.slice (some ⟨w.heap.size,0,none⟩) 2 2) (w.alloc (Obj.cells (Md [e0,e1]).toArray 29)):=by kernel_rfl
 unfold execOp
 simp only[ho,List.map_toArray,List.map_cons,List.map_nil,h0,h1]
 simp[e]
theorem Zdg {o:Oper} {a:Act} {w:World} {x0 x1 x2:Operand} {e0 e1 e2:Int} (ho:o.op= .buildSlice 144 3 #[(0,x0),(1,x1),(2,x2)]) (h0:a.eval x0= .int .i64 e0) (h1:a.eval x1= .int .i64 e1) (h2:a.eval x2= .int .i64 e2):(execOp a.eval o).run prog w= .ok (.value (.slice (some ⟨w.heap.size,0,none⟩) 3 3)) (w.alloc (Obj.cells (Md [e0,e1,e2]).toArray 29)):=by
 have e:(Instr.buildSlice 144 3 #[(0, .int .i64 e0),(1, .int .i64 e1),(2, .int .i64 e2)]).run prog w= .ok (.slice (some ⟨w.heap.size,0,none⟩) 3 3) (w.alloc (Obj.cells (Md [e0,e1,e2]).toArray 29)):=by kernel_rfl
 unfold execOp
 simp only[ho,List.map_toArray,List.map_cons,List.map_nil,h0,h1,h2]
 simp[e]
theorem Bs {o:Oper} {a:Act} {w:World} {x0 x1 x2 x3:Operand} {e0 e1 e2 e3:Int} (ho:o.op= .buildSlice 144 4 #[(0,x0),(1,x1),(2,x2),(3,x3)]) (h0:a.eval x0= .int .i64 e0) (h1:a.eval x1= .int .i64 e1) (h2:a.eval x2= .int .i64 e2) (h3:a.eval x3= .int .i64 e3):(execOp a.eval o).run prog w= .ok (.value (.slice (some ⟨w.heap.size,0,none⟩) 4 4)) (w.alloc (Obj.cells (Md [e0,e1,e2,e3]).toArray 29)):=by
 have e:(Instr.buildSlice 144 4 #[(0, .int .i64 e0),(1, .int .i64 e1),(2, .int .i64 e2),(3, .int .i64 e3)]).run prog w= .ok (.slice (some ⟨w.heap.size,0,none⟩) 4 4) (w.alloc (Obj.cells (Md [e0,e1,e2,e3]).toArray 29)):=by kernel_rfl
 unfold execOp
 simp only[ho,List.map_toArray,List.map_cons,List.map_nil,h0,h1,h2,h3]
 simp[e]
theorem Dv {o:Oper} {a:Act} {w:World} {x0 x1 x2 x3 x4:Operand} {e0 e1 e2 e3 e4:Int} (ho:o.op= .buildSlice 144 5 #[(0,x0),(1,x1),(2,x2),(3,x3),(4,x4)]) (h0:a.eval x0= .int .i64 e0) (h1:a.eval x1= .int .i64 e1) (h2:a.eval x2= .int .i64 e2) (h3:a.eval x3= .int .i64 e3) (h4:a.eval x4= .int .i64 e4):(execOp a.eval o).run prog w= .ok (.value (.slice (some ⟨w.heap.size,0,none⟩) 5 5)) (w.alloc (Obj.cells (Md [e0,e1,e2,e3,e4]).toArray 29)):=by
 have e:(Instr.buildSlice 144 5 #[(0, .int .i64 e0),(1, .int .i64 e1),(2, .int .i64 e2),(3, .int .i64 e3),(4, .int .i64 e4)]).run prog w= .ok (.slice (some ⟨w.heap.size,0,none⟩) 5 5) (w.alloc (Obj.cells (Md [e0,e1,e2,e3,e4]).toArray 29)):=by kernel_rfl
 unfold execOp
 simp only[ho,List.map_toArray,List.map_cons,List.map_nil,h0,h1,h2,h3,h4]
 simp[e]
def Dr (v:VV):Int:=if v.k=2∨v.k=7 then 0 else 5
theorem Dx (v:VV) (w:World):Calls prog 48 #[v.agg] w fun e w'=>e= .returned (.int .i64 (Dr v))/\Below w.heap.size w w':=by
 unfold Dr
 by_cases h2:v.k=2
 ·rw[if_pos (Or.inl h2)]
  have SS:=Ab (Sy.nil w [])
  rw[Db]
  go_enter func48,ntmps48
  go_wp2_with (first|go_skip|((with_reducible show wpList ..);first|(refine zB 26 (v.cs) (by rfl) rfl rfl rfl SS ?_;clear SS;intro X1 B1 SS;simp only[nn])|(refine rd rfl (Ag 3 isAgg3 rfl rfl ((Aa SS).hold 0 rfl) rfl) ?_)|(refine rd rfl (ex_neY rfl rfl rfl h2) ?_)))
  go_ret
  exact⟨rfl,(Aa SS).fr.below⟩
 ·by_cases h7:v.k=7
  ·rw[if_pos (Or.inr h7)]
   have SS:=Ab (Sy.nil w [])
   rw[Db]
   go_enter func48,ntmps48
   go_wp2_with (first|go_skip|((with_reducible show wpList ..);first|(refine zB 26 (v.cs) (by rfl) rfl rfl rfl SS ?_;clear SS;intro X1 B1 SS;simp only[nn])|(refine rd rfl (Ag 3 isAgg3 rfl rfl ((Aa SS).hold 0 rfl) rfl) ?_)|(refine rd rfl (Zcv rfl rfl rfl h2) ?_)|(refine rd rfl (ex_neY rfl rfl rfl h7) ?_)))
   go_ret
   exact⟨rfl,(Aa SS).fr.below⟩
  ·rw[if_neg (by simp[h2,h7])]
   have SS:=Ab (Sy.nil w [])
   rw[Db]
   go_enter func48,ntmps48
   go_wp2_with (first|go_skip|((with_reducible show wpList ..);first|(refine zB 26 (v.cs) (by rfl) rfl rfl rfl SS ?_;clear SS;intro X1 B1 SS;simp only[nn])|(refine rd rfl (Ag 3 isAgg3 rfl rfl ((Aa SS).hold 0 rfl) rfl) ?_)|(refine rd rfl (Zcv rfl rfl rfl h2) ?_)|(refine rd rfl (Zcv rfl rfl rfl h7) ?_)))
   go_ret
   exact⟨rfl,(Aa SS).fr.below⟩
theorem flat_put {α:Type} (f:α->List Value) (k:Nat) (hk: ∀a,(f a).length=k) {l:List α} {j:Nat} {x x':α} {p:Nat} {vs:List Value} (hx:l[j]? =some x) (hp:p+vs.length<=k) (he:Bz (f x) p vs=f x'):Bz (l.flatMap f) (0+j * k+p) vs=(l.set j x').flatMap f:=by
 obtain⟨hj,rfl⟩:=List.getElem?_eq_some_iff.1 hx
 have e1:l=l.take j++l[j]::l.drop (j+1):=by
  conv=>lhs;rw[←List.take_append_drop j l,List.drop_eq_getElem_cons hj]
 have e2:l.set j x'=l.take j++x'::l.drop (j+1):=by rw[List.set_eq_take_append_cons_drop,if_pos hj]
 rw[e2]
 conv=>lhs;rw[e1]
 rw[List.flatMap_append,List.flatMap_cons,List.flatMap_append,List.flatMap_cons]
 have e3:((l.take j).flatMap f).length=j * k:=by rw[Kf f k hk,List.length_take,Nat.min_eq_left (by omega)]
 rw[Nat.zero_add,←e3,cput_app,Zz _ _ _ _ (by rw[hk];exact hp),he]
theorem ZdL {W:World} {base e s n g c p m:Nat} {xs:List Value} (h:W.ownsRow base e s (.slice (some ⟨g,0,none⟩) n c) n xs) (hp:p+m<=xs.length):W.there g p m:=by
 rcases h.2 with ⟨e1, -⟩|⟨g',cap,cur,e1, -,h6,h7,h8,h9,h10⟩
 ·cases e1
 ·cases e1
  intro t ht
  refine⟨?_,by simp[World.frozen?,h6]⟩
  have hl:xs.length<=cur.size:=by rw[←h10,List.length_take,Array.length_toList];exact Nat.min_le_right _ _
  have:(⟨g,p,none⟩:Addr).block=g:=rfl
  simp only[World.cell?,h6]
  simp
  omega
section
variable {ops : Array Oper} {rest : List Oper} {Q : Exit → Act → World → Prop} {w w0 : World} {a : Act} {o : Oper} {E : List Nat} {L : List Ob}
end
structure BN where
 n:ByteArray
 v:VV
def BN.cs (p:BN):List Value:= [.string p.n]++p.v.cs
def BN.agg (p:BN):Value:= .agg p.cs.toArray
theorem Lw (p:BN):p.cs.length=6:=rfl
theorem Ey (a:BN): ∀u∈a.cs,u.oneCell'=true:=by simp[BN.cs,VV.cs,Value.oneCell']
structure EX where
 b:Nat
 lv:Value
 l:List BN
 pb:Nat
 pn:Nat
 pF:ByteArray->Option Nat
def ecs (p:EX):List Value:= [p.lv, .map (some p.pb)]
def EX.things (p:EX):List Ob:= [Ao p.b (ecs p),Do 0 130 6 p.lv p.l.length (p.l.flatMap BN.cs),Eb iR iD 0 p.pb p.pn p.pF]
def EX.blocks (p:EX):List Nat:=p.things.flatMap (·.bs)
structure EX.Is (p:EX) (X:World):Prop where
 ho: ∀o∈p.things,o.P X
 dis:p.things.Pairwise (fun a b=> ∀x∈a.bs,x ∉ b.bs)
theorem On (p:EX): ∀o∈p.things,o.Ok:=by
 intro o ho
 rcases List.mem_cons.1 ho with rfl|ho
 ·exact Jo _ _
 rcases List.mem_cons.1 ho with rfl|ho
 ·exact Lk _ _ _ _ _ _
 rw[List.mem_singleton.1 ho]
 exact Nw _ _ _ _ _ _
theorem EX.mem_blocks {p:EX} {o:Ob} {b:Nat} (ho:o∈p.things) (hb:b∈o.bs):b∈p.blocks:=List.mem_flatMap.2 ⟨o,ho,hb⟩
def exO (p:EX):Ob:=⟨p.blocks,p.Is⟩
theorem Pb (p:EX):(exO p).Ok:=⟨fun h k=>⟨fun o ho=>(On p o ho).on (fun b hb=>h b (EX.mem_blocks ho hb)) (k.ho o ho),k.dis⟩,fun h b hb=>by
 obtain⟨o,ho,hb⟩:=List.mem_flatMap.1 hb
 exact(On p o ho).lt (h.ho o ho) b hb⟩
theorem EX.Is.sy {p:EX} {X:World} (H:p.Is X):Sy X X p.blocks p.things:=⟨Fr.refl _ _,On p,H.ho,fun o ho b hb=> .inl (EX.mem_blocks ho hb),H.dis⟩
structure EX.To (p p':EX) (w w':World):Prop where
 is:p'.Is w'
 fr:Fr w w' p.blocks
 sub: ∀b∈p'.blocks,b∈p.blocks∨w.heap.size<=b
theorem EX.To.of {p p':EX} {w Y:World} {M:List Ob} (S:Sy w Y p.blocks (p'.things++M)):p.To p' w Y:=by
 have S1:=Sy.left S
 exact⟨⟨S1.ho,S1.dis⟩,S1.fr,fun b hb=>by
  obtain⟨o,ho,hb⟩:=List.mem_flatMap.1 hb
  exact S1.lo o ho b hb⟩
theorem EX.To.end {p p':EX} {w Y:World} {L M:List Ob} (S:Sy w Y p.blocks L) (h:L=p'.things++M):p.To p' w Y:=EX.To.of (h▸S)
theorem EX.Is.lt {p:EX} {X:World} (H:p.Is X): ∀b∈p.blocks,b<X.heap.size:=(Pb p).lt H
theorem EX.Is.on {p:EX} {X Y:World} (H:p.Is X) (k:Below X.heap.size X Y):p.Is Y:=(Pb p).on (fun b hb=>k.block b (H.lt b hb)) H
def HP.ex (h:HP) (p:EX):HP:={h with e:=exO p,eo:=Pb p}
theorem HP.Is.exs {h:HP} {p:EX} {X:World} (H:h.Is X) (he:h.e=exO p):p.Is X:=by
 have:=HP.Is.ex H
 rw[he] at this
 exact this
theorem HP.Is.xto {h:HP} {p p':EX} {X Y:World} (H:h.Is X) (he:h.e=exO p) (A:p.To p' X Y):h.To (h.ex p') X Y:=
 H.ext (e':=exO p') (Pb p') A.is (by rw[he];exact A.fr) (by rw[he];exact A.sub)
theorem EX.Is.row {p:EX} {X:World} (H:p.Is X):X.ownsRow 0 130 6 p.lv p.l.length (p.l.flatMap BN.cs):=H.ho _ (List.mem_cons_of_mem _ (List.mem_cons_self ..))
theorem EX.Is.form {p:EX} {X:World} (H:p.Is X): ∃A c,p.lv= .slice A p.l.length c:=Jf H.row
theorem EX.Is.map {p:EX} {X:World} (H:p.Is X):MapT iR iD 0 X p.pb p.pn p.pF:=H.ho (Eb iR iD 0 p.pb p.pn p.pF) (List.mem_cons_of_mem _ (List.mem_cons_of_mem _ (List.mem_cons_self ..)))
theorem EX.Is.box {p:EX} {X:World} (H:p.Is X):Holds X p.b (ecs p):=(H.ho _ (List.mem_cons_self ..)).1
theorem EX.Is.at {p:EX} {X:World} (H:p.Is X) {j:Nat} {a:BN} (hj:p.l[j]? =some a): ∃g c,p.lv= .slice (some ⟨g,0,none⟩) p.l.length c/\X.rangeAt g (0+j * 6) a.cs:=by
 obtain⟨hlt,rfl⟩:=List.getElem?_eq_some_iff.1 hj
 obtain⟨g,c,h1, -, -,h2⟩:=Ju (f:=BN.cs) Lw H.row rfl j hlt
 exact⟨g,c,h1,h2⟩
theorem unQ:prog.underlying 125=some (.slice (prog.elem 125)):=by kernel_rfl
theorem idQ (w:World):(sizeOf (prog.elem 125)).run prog w= .ok 6 w:=by kernel_rfl
def Jb:BN:=⟨ByteArray.empty,zeroV⟩
theorem rwB: ∃d,prog.underlying 130=some d/\d.isRow=true:=⟨_,underlying130,rfl⟩
theorem szB:(prog.info? 130).map (·.size)=some 6:=by kernel_rfl
theorem Oz {o:Oper} {a:Act} {w:World} {x ix:Operand} {g n cap:Nat} (q j:Nat) (ho:o.op= .indexAddr 125 x ix) (hx:a.eval x= .slice (some ⟨g,0,none⟩) n cap) (hix:a.eval ix= .int .i64 (j:Nat)) (hj:j<n) (hq:q=0+j * 6):(execOp a.eval o).run prog w= .ok (.value (.pointer (some ⟨g,q,none⟩))) w:=by
 subst hq
 exact Bp 125 6 j unQ idQ ho hx hix hj
theorem ZaH {o:Oper} {a:Act} {w:World} {x:Operand} {g q:Nat} {p:BN} (ho:o.op= .load 130 x) (hx:a.eval x= .pointer (some ⟨g,q,none⟩)) (h:w.rangeAt g q p.cs):(execOp a.eval o).run prog w= .ok (.value (.agg p.cs.toArray)) w:=Dy 130 6 rwB szB ho hx h rfl
theorem ZaG {o:Oper} {a:Act} {w:World} {m x:Operand} {mb n:Nat} {F:ByteArray->Option Nat} {s:ByteArray} {R:Value} (ho:o.op= .lookup 126 m x true) (hm:a.eval m= .map (some mb)) (hx:a.eval x= .string s) (H:MapT iR iD 0 w mb n F) (hs:okN s) (hR:Value.tuple #[iV ((F s).getD 0), .bool (F s).isSome]=R):(execOp a.eval o).run prog w= .ok (.value R) w:=Yh encI Yj H hs hR ho hm hx
theorem rY {F:ByteArray->Option Nat} {s:ByteArray} {n:Nat} (h:F s=some n):Value.tuple #[iV ((F s).getD 0), .bool (F s).isSome]= .tuple #[.int .i64 (n:Nat), .bool true]:=by rw[h];rfl
theorem rN {F:ByteArray->Option Nat} {s:ByteArray} (h:F s=none):Value.tuple #[iV ((F s).getD 0), .bool (F s).isSome]= .tuple #[.int .i64 0, .bool false]:=by rw[h];rfl
theorem Og (p:BN):p.agg= .agg p.cs.toArray:=rfl
def EX.find (p:EX) (s:ByteArray):Option BN:=(p.pF s).bind fun i=>p.l[i]?
structure EX.Wf (p:EX):Prop where
 hit: ∀s i,p.pF s=some i-> ∃v,p.l[i]? =some ⟨s,v⟩
 all: ∀(i:Nat) (a:BN),p.l[i]? =some a->p.pF a.n=some i
 sz: ∀a∈p.l,a.n.size<=1048576
 len:p.l.length<=1000
