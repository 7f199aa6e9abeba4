import Derived.Test.YtfefpbjkbmaicaaGreatDoorRj
set_option linter.all false
namespace Go.Proofs.YtfefpbjkbmaicaaGreatDoor
set_option maxRecDepth 100000
set_option maxHeartbeats 0
section
open Go Go.Proofs Go.Maps Go.RowKit FM Tryz
attribute [local go_sem] Av Ap Dv Du De Au Ao Az Dd Gu Gt
theorem Zan {α:Type} (f:α->List Value) (k:Nat) (hk: ∀a,(f a).length=k) {l:List α} {j:Nat} {x x':α} {p:Nat} {vs:List Value} (hx:l[j]? =some x) (hp:p+vs.length<=k) (he:Dq (f x) p vs=f x'):Dq (l.flatMap f) (0+j * k+p) vs=(l.set j x').flatMap f:=by
 obtain⟨hj,rfl⟩:=List.getElem?_eq_some_iff.1 hx
 have e1:l=l.take j++l[j]::l.drop (j+1):=by
  conv=>lhs;rw[←List.take_append_drop j l,List.drop_eq_getElem_cons hj]
 have e2:l.set j x'=l.take j++x'::l.drop (j+1):=by rw[List.set_eq_take_append_cons_drop,if_pos hj]
 rw[e2]
 conv=>lhs;rw[e1]
 rw[List.flatMap_append,List.flatMap_cons,List.flatMap_append,List.flatMap_cons]
 have e3:((l.take j).flatMap f).length=j * k:=by rw[Nd f k hk,List.length_take,Nat.min_eq_left (by omega)]
 rw[Nat.zero_add,←e3,cput_app,Vt _ _ _ _ (by rw[hk];exact hp),he]
theorem Vl {W:World} {base e s n g c p m:Nat} {xs:List Value} (h:W.ownsRow base e s (.slice (some ⟨g,0,none⟩) n c) n xs) (hp:p+m<=xs.length):W.there g p m:=by
 rcases h.2 with ⟨e1, -⟩|⟨g',cap,cur,e1, -,h6,h7,h8,h9,h10⟩
 ·cases e1
 ·cases e1
  intro t ht
  refine⟨?_,by simp[World.frozen?,h6]⟩
  have hl:xs.length<=cur.size:=by rw[←h10,List.length_take,Array.length_toList];exact Nat.min_le_right _ _
  have:(⟨g,p,none⟩:Addr).block=g:=rfl
  simp only[World.cell?,h6]
  simp
  omega
section
variable {ops : Array Oper} {rest : List Oper} {Q : Exit → Act → World → Prop} {w w0 : World} {a : Act} {o : Oper} {E : List Nat} {L : List Ob}
theorem stE {α:Type} (f:α->List Value) (k:Nat) (hk: ∀a,(f a).length=k) {base ety g c n j p q:Nat} {l:List α} {x' x0:α} {vs:List Value} {v:Value} {x y:Operand} (i:Nat) (ty:TypeId) (hw:Region.wanted o (yielded ops a.tmps)=true) (ho:o.op= .store ty x y) (hx:a.eval x= .pointer (some ⟨g,q,none⟩)) (hy:a.eval y=v)
  (hv:v.cells.toList=vs) (h1: ∀u∈vs,u.oneCell'=true) (hi:(prog.info? ty).map (·.size)=some vs.length) (hL:Sy w0 w E L) (hg:L[i]? =some (Ew base ety k (.slice (some ⟨g,0,none⟩) n c) n (l.flatMap f))) (hn:l.length=n) (hr:l[j]? =some x0) (hp:p+vs.length<=k) (he:Dq (f x0) p vs=f x') (hq:q=0+j * k+p)
  (h: ∀X,Sy w0 X E (L.set i (Ew base ety k (.slice (some ⟨g,0,none⟩) n c) n ((l.set j x').flatMap f)))->wpList prog ops Q rest (a.put o.dst undef) X):wpList prog ops Q (o::rest) a w:=by
 subst hq
 refine BigFrame.wpList_want hw fun K hK=> ?_
 have hj:=(List.getElem?_eq_some_iff.1 hr).1
 have hlen:0+j * k+p+vs.length<=(l.flatMap f).length:=by
  rw[Nd f k hk]
  have h2:(j+1) * k<=l.length * k:=Nat.mul_le_mul_right k hj
  rw[Nat.add_mul] at h2
  omega
 have hC:=hL.cell i hg (p:=0+j * k+p) (vs:=vs) hlen
 rw[Zan f k hk hr hp he] at hC
 have hP:=hK _ _ (h _ hC)
 unfold Oper.wp execOp
 simp only[ho,hx,hy,Instr.storeAt,Instr.sureAddr,Sem.run_bind,Sem.run_pure,Result.andThen_ok,Ei w g (0+j * k+p) ty v vs hv (Vl (hL.get i hg) hlen) hi h1]
 exact hP
end
structure PA where
 n:ByteArray
 v:VV
 t:Nat
def PA.cs (p:PA):List Value:= [.string p.n]++(p.v.cs++ [.int .i64 (p.t:Nat)])
theorem Rs (p:PA):p.cs.length=7:=rfl
structure PM where
 b:Nat
 lv:Value
 l:List PA
 pb:Nat
 pn:Nat
 pF:ByteArray->Option Nat
 tb:Nat
 tn:Nat
 tF:Int->Option Nat
def pcs (p:PM):List Value:= [p.lv, .map (some p.pb), .map (some p.tb)]
def PM.things (p:PM):List Ob:= [Al p.b (pcs p),Ew 0 89 7 p.lv p.l.length (p.l.flatMap PA.cs),Gd KS p.pb p.pn p.pF,Gd KI p.tb p.tn p.tF]
def PM.blocks (p:PM):List Nat:=p.things.flatMap (·.bs)
structure PM.Is (p:PM) (X:World):Prop where
 ho: ∀o∈p.things,o.P X
 dis:p.things.Pairwise (fun a b=> ∀x∈a.bs,x ∉ b.bs)
theorem Mb (p:PM): ∀o∈p.things,o.Ok:=by
 intro o ho
 rcases List.mem_cons.1 ho with rfl|ho
 ·exact Ri _ _
 rcases List.mem_cons.1 ho with rfl|ho
 ·exact Pg _ _ _ _ _ _
 rcases List.mem_cons.1 ho with rfl|ho
 ·exact Ns _ _ _ _
 rw[List.mem_singleton.1 ho]
 exact Ns _ _ _ _
theorem PM.mem_blocks {p:PM} {o:Ob} {b:Nat} (ho:o∈p.things) (hb:b∈o.bs):b∈p.blocks:=List.mem_flatMap.2 ⟨o,ho,hb⟩
def pmO (p:PM):Ob:=⟨p.blocks,p.Is⟩
theorem Mc (p:PM):(pmO p).Ok:=⟨fun h k=>⟨fun o ho=>(Mb p o ho).on (fun b hb=>h b (PM.mem_blocks ho hb)) (k.ho o ho),k.dis⟩,fun h b hb=>by
 obtain⟨o,ho,hb⟩:=List.mem_flatMap.1 hb
 exact(Mb p o ho).lt (h.ho o ho) b hb⟩
theorem PM.Is.sy {p:PM} {X:World} (H:p.Is X):Sy X X p.blocks p.things:=⟨Fr.refl _ _,Mb p,H.ho,fun o ho b hb=> .inl (PM.mem_blocks ho hb),H.dis⟩
structure PM.To (p p':PM) (w w':World):Prop where
 is:p'.Is w'
 fr:Fr w w' p.blocks
 sub: ∀b∈p'.blocks,b∈p.blocks∨w.heap.size<=b
theorem PM.To.of {p p':PM} {w Y:World} {M:List Ob} (S:Sy w Y p.blocks (p'.things++M)):p.To p' w Y:=by
 have S1:=Sy.left S
 exact⟨⟨S1.ho,S1.dis⟩,S1.fr,fun b hb=>by
  obtain⟨o,ho,hb⟩:=List.mem_flatMap.1 hb
  exact S1.lo o ho b hb⟩
theorem PM.To.end {p p':PM} {w Y:World} {L M:List Ob} (S:Sy w Y p.blocks L) (h:L=p'.things++M):p.To p' w Y:=PM.To.of (h▸S)
theorem PM.To.refl {p:PM} {w w':World} (H:p.Is w) (k:Below w.heap.size w w'):p.To p w w':=⟨(Mc p).on (fun b hb=>k.block b ((Mc p).lt H b hb)) H,Fr.of_below k _,fun b hb=> .inl hb⟩
def HP.pm (h:HP) (p:PM):HP:={h with e:=pmO p,eo:=Mc p}
theorem HP.Is.pms {h:HP} {p:PM} {X:World} (H:h.Is X) (he:h.e=pmO p):p.Is X:=by
 have:=H.ex
 rw[he] at this
 exact this
theorem HP.Is.pto {h:HP} {p p':PM} {X Y:World} (H:h.Is X) (he:h.e=pmO p) (A:p.To p' X Y):h.To (h.pm p') X Y:=
 H.ext (e':=pmO p') (Mc p') A.is (by rw[he];exact A.fr) (by rw[he];exact A.sub)
theorem PM.Is.form {p:PM} {X:World} (H:p.Is X): ∃A c,p.lv= .slice A p.l.length c:=Kj (show X.ownsRow 0 89 7 p.lv p.l.length (p.l.flatMap PA.cs) from H.ho _ (List.mem_cons_of_mem _ (List.mem_cons_self ..)))
theorem PM.Is.at {p:PM} {X:World} (H:p.Is X) {j:Nat} {a:PA} (hj:p.l[j]? =some a): ∃g c,p.lv= .slice (some ⟨g,0,none⟩) p.l.length c:=by
 obtain⟨hlt, -⟩:=List.getElem?_eq_some_iff.1 hj
 obtain⟨g,c,h1, -⟩:=Zbm (f:=PA.cs) Rs (show X.ownsRow 0 89 7 p.lv p.l.length (p.l.flatMap PA.cs) from H.ho _ (List.mem_cons_of_mem _ (List.mem_cons_self ..))) rfl j hlt
 exact⟨g,c,h1⟩
theorem Dp {X:World} {l:List PA} {g c n j:Nat} {a:PA} {v:Value} (h:X.ownsRow 0 89 7 v n (l.flatMap PA.cs)) (hv:v= .slice (some ⟨g,0,none⟩) n c) (hn:l.length=n) (hj:l[j]? =some a):X.rangeAt g (0+j * 7) a.cs:=by
 obtain⟨hlt,rfl⟩:=List.getElem?_eq_some_iff.1 hj
 obtain⟨g',c',h1, -, -,h2⟩:=Zbm (f:=PA.cs) Rs h hn j hlt
 rw[hv] at h1
 cases h1
 exact h2
theorem pa_s {X:World} {g q:Nat} {a:PA} (h:X.rangeAt g q a.cs):X.cell? ⟨g,q,none⟩=some (.string a.n):=h 0 _ rfl
theorem pa_v {X:World} {g q:Nat} {a:PA} (h:X.rangeAt g q a.cs):X.rangeAt g (q+1) a.v.cs:=ZaN (Zk h)
theorem pa_t {X:World} {g q:Nat} {a:PA} (h:X.rangeAt g q a.cs):X.cell? ⟨g,q+6,none⟩=some (.int .i64 (a.t:Nat)):=h 6 _ rfl
theorem unQ:prog.underlying 82=some (.slice (prog.elem 82)):=by kernel_rfl
theorem idQ (w:World):(sizeOf (prog.elem 82)).run prog w= .ok 7 w:=by kernel_rfl
theorem infQ:(prog.info? 89).map (fun i=>(i.zero,i.size,i.bytes))=some (some (.agg (PA.cs ⟨ByteArray.empty,Bz,0⟩).toArray),7,72):=by kernel_rfl
theorem szQ:(prog.info? 82).map (·.size)=some 1:=by kernel_rfl
theorem ex_ixP {o:Oper} {a:Act} {w:World} {x ix:Operand} {g n cap:Nat} (q j:Nat) (ho:o.op= .indexAddr 82 x ix) (hx:a.eval x= .slice (some ⟨g,0,none⟩) n cap) (hix:a.eval ix= .int .i64 (j:Nat)) (hj:j<n) (hq:q=0+j * 7):(execOp a.eval o).run prog w= .ok (.value (.pointer (some ⟨g,q,none⟩))) w:=by
 subst hq
 exact Ds 82 7 j unQ idQ ho hx hix hj
theorem ex_ldS {o:Oper} {a:Act} {w:World} {x:Operand} {g q:Nat} {p:PA} (ho:o.op= .load 9 x) (hx:a.eval x= .pointer (some ⟨g,q,none⟩)) (h:w.rangeAt g q p.cs):(execOp a.eval o).run prog w= .ok (.value (.string p.n)) w:=Ka 9 isAgg9 ho hx (pa_s h)
theorem Qj {o:Oper} {a:Act} {w:World} {x:Operand} {g q:Nat} {p:PA} (ho:o.op= .load 3 x) (hx:a.eval x= .pointer (some ⟨g,q+6,none⟩)) (h:w.rangeAt g q p.cs):(execOp a.eval o).run prog w= .ok (.value (.int .i64 (p.t:Nat))) w:=Ka 3 isAgg3 ho hx (pa_t h)
theorem ex_ldV {o:Oper} {a:Act} {w:World} {x:Operand} {g q:Nat} {p:PA} (ho:o.op= .load 26 x) (hx:a.eval x= .pointer (some ⟨g,q+1,none⟩)) (h:w.rangeAt g q p.cs):(execOp a.eval o).run prog w= .ok (.value (.agg p.v.cs.toArray)) w:=Ev 26 5 rwV szV ho hx (pa_v h) rfl
section
variable {o : Oper} {a : Act} {w w' : World} {m x y : Operand} {mb n r : Nat}
theorem lookS {F:ByteArray->Option Nat} {s:ByteArray} (ho:o.op= .lookup 83 m x true) (hm:a.eval m= .map (some mb)) (hx:a.eval x= .string s) (H:MapK KS w mb n F) (hs:s.size<=maxLen) {R:Value} (hR:Value.tuple #[.int .i64 (zv (F s)), .bool (F s).isSome]=R):(execOp a.eval o).run prog w= .ok (.value R) w:=by
 have e:(Instr.lookup 83 (.map (some mb)) (.string s) true).run prog w=_:=H.look KS_ok (s:=s) hs
 unfold execOp
 simp only[ho,hm,hx]
 simp[e,←hR]
theorem look1S {F:ByteArray->Option Nat} {s:ByteArray} (ho:o.op= .lookup 83 m x false) (hm:a.eval m= .map (some mb)) (hx:a.eval x= .string s) (H:MapK KS w mb n F) (hs:s.size<=maxLen) (hR:F s=some r):(execOp a.eval o).run prog w= .ok (.value (.int .i64 (r:Nat))) w:=by
 have e:(Instr.lookup 83 (.map (some mb)) (.string s) false).run prog w=_:=H.look1 KS_ok (s:=s) hs
 unfold execOp
 simp only[ho,hm,hx]
 simp[e,hR,zv]
theorem Zx {F:Int->Option Nat} {s:Int} (ho:o.op= .lookup 84 m x true) (hm:a.eval m= .map (some mb)) (hx:a.eval x= .int .i64 s) (H:MapK KI w mb n F) (hs:(Lit.int .i64 s).wf=true) {R:Value} (hR:Value.tuple #[.int .i64 (zv (F s)), .bool (F s).isSome]=R):(execOp a.eval o).run prog w= .ok (.value R) w:=by
 have e:(Instr.lookup 84 (.map (some mb)) (.int .i64 s) true).run prog w=_:=H.look KI_ok (s:=s) hs
 unfold execOp
 simp only[ho,hm,hx]
 simp[e,←hR]
theorem ex_upS {s:ByteArray} (ho:o.op= .mapUpdate 83 m x y) (hm:a.eval m= .map (some mb)) (hx:a.eval x= .string s) (hy:a.eval y= .int .i64 (r:Nat)) (h:(Instr.mapUpdate KS.mt (.map (some mb)) (KS.val s) (.int .i64 (r:Nat))).run prog w= .ok () w'):(execOp a.eval o).run prog w= .ok .skip w':=by
 have h':(Instr.mapUpdate 83 (.map (some mb)) (.string s) (.int .i64 (r:Nat))).run prog w= .ok () w':=h
 unfold execOp
 simp only[ho,hm,hx,hy]
 simp[h']
theorem ex_upI {s:Int} (ho:o.op= .mapUpdate 84 m x y) (hm:a.eval m= .map (some mb)) (hx:a.eval x= .int .i64 s) (hy:a.eval y= .int .i64 (r:Nat)) (h:(Instr.mapUpdate KI.mt (.map (some mb)) (KI.val s) (.int .i64 (r:Nat))).run prog w= .ok () w'):(execOp a.eval o).run prog w= .ok .skip w':=by
 have h':(Instr.mapUpdate 84 (.map (some mb)) (.int .i64 s) (.int .i64 (r:Nat))).run prog w= .ok () w':=h
 unfold execOp
 simp only[ho,hm,hx,hy]
 simp[h']
theorem ex_dlI {s:Int} (ho:o.op= .call {callee:= .builtin .delete,args:= #[m,x],argTypes:= #[84,3]}) (hm:a.eval m= .map (some mb)) (hx:a.eval x= .int .i64 s) (h:(Builtin.delete_ #[KI.mt,KI.kt] o.type #[.map (some mb),KI.val s]).run prog w= .ok (.tuple #[]) w'):(execOp a.eval o).run prog w= .ok (.value (.tuple #[])) w':=by
 have h':(Builtin.delete_ #[84,3] o.type #[.map (some mb), .int .i64 s]).run prog w= .ok (.tuple #[]) w':=h
 simp[execOp,ho,resolve,invoke,builtin,hm,hx,h',Result.andThen]
theorem ex_bPA {s:ByteArray} (ho:o.op= .build 89 #[(0,x)]) (hx:a.eval x= .string s):(execOp a.eval o).run prog w= .ok (.value (.agg (PA.cs ⟨s,Bz,0⟩).toArray)) w:=by
 have e:(Instr.build 89 #[(0, .string s)]).run prog w= .ok (.agg (PA.cs ⟨s,Bz,0⟩).toArray) w:=by kernel_rfl
 unfold execOp
 simp only[ho,List.map_toArray,List.map_cons,List.map_nil,hx]
 simp[e]
theorem ex_bPM {p q:Nat} (ho:o.op= .build 86 #[(1,x),(2,y)]) (hx:a.eval x= .map (some p)) (hy:a.eval y= .map (some q)):(execOp a.eval o).run prog w= .ok (.value (.agg #[.slice none 0 0, .map (some p), .map (some q)])) w:=by
 have e:(Instr.build 86 #[(1, .map (some p)),(2, .map (some q))]).run prog w= .ok (.agg #[.slice none 0 0, .map (some p), .map (some q)]) w:=by kernel_rfl
 unfold execOp
 simp only[ho,List.map_toArray,List.map_cons,List.map_nil,hx,hy]
 simp[e]
theorem ex_sub1 {n:Nat} (ho:o.op= .binOp .sub 3 x y 3) (hx:a.eval x= .int .i64 ((n+1:Nat):Int)) (hy:a.eval y= .int .i64 1) (hn:n<=100000):(execOp a.eval o).run prog w= .ok (.value (.int .i64 (n:Nat))) w:=by
 have z:IntKind.i64.wrap (((n+1:Nat):Int) - 1)=(n:Int):=by rw[IntKind.wrap_i64];omega
 unfold execOp
 simp only[ho,hx,hy]
 simp[go_sem]
 simpa using z
end
section
variable {ops : Array Oper} {rest : List Oper} {Q : Exit → Act → World → Prop} {w w0 : World} {a : Act} {o : Oper} {E : List Nat} {L : List Ob}
theorem mkM {κ:Type} (K:KE κ) (t:TypeId) (hw:Region.wanted o (yielded ops a.tmps)=true) (ho:o.op= .makeMap t none) (hL:Sy w0 w E L)
  (h: ∀X B,Sy w0 X E (L++ [Gd K B 0 (fun _=>none)])->wpList prog ops Q rest (a.put o.dst (.map (some B))) X):wpList prog ops Q (o::rest) a w:=by
 refine BigFrame.wpList_want hw fun K' hK=> ?_
 have hP:=hK _ _ (h (w.alloc (.map #[] 0)) w.heap.size (hL.add (Ns K _ _ _) (MapK.made K w) ((Below.refl _ _).alloc (Nat.le_refl _) _) (fun b hb=>by rw[List.mem_singleton.1 hb];exact Nat.le_refl _)))
 have e2:(Instr.makeMap t none).run prog w= .ok (.map (some w.heap.size)) (w.alloc (.map #[] 0)):=by rfl
 unfold Oper.wp execOp
 simp only[ho]
 simp[e2]
 exact hP
end
