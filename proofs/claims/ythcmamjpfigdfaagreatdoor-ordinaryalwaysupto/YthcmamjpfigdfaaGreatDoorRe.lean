import Derived.Test.YthcmamjpfigdfaaGreatDoorRd
import Derived.Test.YthcmamjpfigdfaaGreatDoorRc
import Derived.Defers
set_option linter.all false
namespace Go.Proofs.YthcmamjpfigdfaaGreatDoor
set_option maxRecDepth 100000
set_option maxHeartbeats 0
section
open Go Go.Proofs Go.Maps Go.RowKit FM Tryz
theorem n1 {α:Type} (l:List α) (i:Nat) (a:α):l.toArray.setIfInBounds i a=(l.set i a).toArray:=by simp
theorem n2 {α:Type} (x:α) (xs:List α) (i:Nat) (a:α):(x::xs).set (i+1) a=x::xs.set i a:=rfl
theorem n3 {α:Type} (x:α) (xs:List α) (a:α):(x::xs).set 0 a=a::xs:=rfl
theorem Kz {fn:Func} {R:Ending->World->Prop} {a:Act} {w:World} {b r T n:Nat} {cs:List Value} (hT: ∃d,prog.underlying T=some d/\d.isRow=true) (hn:(prog.info? T).map (·.size)=some n) (hr:fn.results= #[.cell r T]) (hdf:a.defers= [])
  (hx:a.tmps.getD r undef= .pointer (some ⟨b,0,none⟩)) (hc:Holds w b cs) (hcs:cs.length=n) (h:R (.returned (.agg cs.toArray)) w):bodyPost prog fn R .ret a w:=by
 obtain⟨t,hu,hd⟩:=hT
 have h0:=hc.mid 0 n
 rw[List.drop_zero,List.take_of_length_le (by omega)] at h0
 have hl:=run_loadVar_mid (P:=prog) w b 0 T _ t h0 hu hd (by rw[hn,hcs])
 refine⟨hdf,_, ?_,h⟩
 simp only[Array.getD_eq_getD_getElem?] at hx
 unfold results
 simp[hr,hx,hl,asAddr]
 try rfl
theorem Bm {o:Oper} {a:Act} {w:World} {m:Operand} {A:Option Addr} {n c:Nat} (t e:TypeId) (ht:prog.underlying t=some (.slice e)) (ho:o.op= .call {callee:= .builtin .len,args:= #[m],argTypes:= #[t]}) (hm:a.eval m= .slice A n c):(execOp a.eval o).run prog w= .ok (.value (.int .i64 (n:Nat))) w:=by
 simp[execOp,ho,resolve,invoke,builtin,hm,Builtin.len_,Result.andThen,goInt,ht,run_underlying ht]
theorem Gb {o:Oper} {a:Act} {w:World} {x y:Operand} {n m:Int} (ho:o.op= .binOp .eql 3 x y 3) (hx:a.eval x= .int .i64 n) (hc:a.eval y= .int .i64 m) (h:n=m):(execOp a.eval o).run prog w= .ok (.value (.bool true)) w:=by
 unfold execOp
 simp only[ho,hx,hc]
 simp[go_sem,eqGuard,h]
theorem Jv {w X:World} {b p:Nat} {cs:List Value} (h:w.rangeAt b p cs) (hb:b<w.heap.size) (hf:Fr w X []):X.rangeAt b p cs:=fun j v hv=>by
 have e:=h j v hv
 have h1:=hf.block b hb (by simp)
 unfold World.cell? at e ⊢
 dsimp only at e ⊢
 rw[h1]
 exact e
theorem Ju {o:Oper} {a:Act} {w:World} {x y:Operand} {n m:Int} (ho:o.op= .binOp .eql 3 x y 3) (hx:a.eval x= .int .i64 n) (hc:a.eval y= .int .i64 m) (h:n≠m):(execOp a.eval o).run prog w= .ok (.value (.bool false)) w:=by
 unfold execOp
 simp only[ho,hx,hc]
 simp[go_sem,eqGuard,h]
theorem Nw {α:Type} (f:α->List Value) (k:Nat) (hk: ∀a,(f a).length=k): ∀l:List α,(l.flatMap f).length=l.length * k
 | []=>by simp
 |d::l=>by
  rw[List.flatMap_cons,List.length_append,hk,Nw f k hk l,List.length_cons,Nat.add_mul,Nat.one_mul,Nat.add_comm]
theorem Px {α:Type} (f:α->List Value) (k:Nat) (hk: ∀a,(f a).length=k): ∀(l:List α) (j t:Nat) (hj:j<l.length),t<k->(l.flatMap f)[j * k+t]? =(f l[j])[t]?
 | [],j,t,hj,_=>by simp at hj
 |d::l,0,t,hj,ht=>by
  rw[List.flatMap_cons,Nat.zero_mul,Nat.zero_add,List.getElem?_append_left (by rw[hk];exact ht)]
  simp
 |d::l,j+1,t,hj,ht=>by
  have e:(j+1) * k+t - k=j * k+t:=by rw[Nat.add_mul];omega
  rw[List.flatMap_cons,List.getElem?_append_right (by rw[hk,Nat.add_mul];omega),hk,e,Px f k hk l j t (by simpa using hj) ht]
  simp
theorem Uu {α:Type} {f:α->List Value} {k:Nat} (hk: ∀a,(f a).length=k) {W:World} {base T n:Nat} {v:Value} {l:List α} (h:W.ownsRow base T k v n (l.flatMap f)) (hn:l.length=n) (j:Nat) (hj:j<l.length): ∃g c,v= .slice (some ⟨g,0,none⟩) n c/\base<=g/\g<W.heap.size/\W.rangeAt g (0+j * k) (f l[j]):=by
 rcases h.2 with ⟨h1,h0⟩|⟨g,cap,cur,h1,h2,h3,h4,h5,h6,h7⟩
 ·omega
 ·refine⟨g,cap,h1,h2,(Array.getElem?_eq_some_iff.1 h3).1,fun t u hu=> ?_⟩
  have ht:t<k:=by
   have:=(List.getElem?_eq_some_iff.1 hu).1
   rwa [hk] at this
  have hlt:j * k+t<n * k:=by
   have:(j+1) * k<=n * k:=Nat.mul_le_mul_right k (by omega)
   rw[Nat.add_mul] at this
   omega
  have h8:(cur.toList.take (n * k))[j * k+t]? =(l.flatMap f)[j * k+t]? :=by rw[h7]
  rw[List.getElem?_take,if_pos hlt,Px f k hk l j t hj ht,hu] at h8
  have e2:cur[j * k+t]? =some u:=by simpa using h8
  rw[Nat.zero_add]
  simp[World.cell?,h3,e2]
theorem Ze6 {w w':World} {base e s n:Nat} {v:Value} {xs:List Value} (h:w.ownsRow base e s v n xs) (he: ∀g,v.ownBlock=some g->w'.heap[g]? =w.heap[g]?):w'.ownsRow base e s v n xs:=by
 obtain⟨h1,h2⟩:=h
 refine⟨h1, ?_⟩
 rcases h2 with h2|⟨g,cap,cur,rfl,h3,h4,h5⟩
 ·exact .inl h2
 ·exact .inr ⟨g,cap,cur,rfl,h3,(he g rfl).trans h4,h5⟩
theorem gcallR {md:Region.Mode} {ops:Array Oper} {Q:Exit->Act->World->Prop} {S:World->Prop} {w:World} {fuel:Nat} {listed:Array Bool} {a:Act} {o:Oper} (i:Nat) (dst:Option Tmp) {f:FuncId} {args:Array Value} {R:Ending->World->Prop} {rs:List Nat} (hi:ops[i]? =some o) (hd:o.dst=dst) (hw:Region.wanted o (yielded ops a.tmps)=true)
  (he:(execOp a.eval o).run prog w= .ok (.enter f args) w) (hC:Calls prog f args w R)
  (h: ∀e X,R e X-> ∃V,e= .returned V/\S X/\wpAnyH prog md ops Q S fuel (listed.setIfInBounds i true) (a.put dst V) X) (hs:AllReadyH prog md ops Q S fuel listed a w rs):AllReadyH prog md ops Q S fuel listed a w (i::rs):=by
 subst hd
 refine AllReadyH.cons hi (fun K hK=> ?_) hs
 rw[if_pos hw]
 unfold Oper.wp
 rw[he,Oper.upon_enter]
 refine hC.mono ?_
 intro e X hR
 obtain⟨V,rfl,hSX,hV⟩:=h e X hR
 exact hK.out _ _ hSX (fun _=>hV)
theorem gskipS {md:Region.Mode} {ops:Array Oper} {Q:Exit->Act->World->Prop} {S:World->Prop} {w:World} {fuel:Nat} {listed:Array Bool} {a:Act} {o:Oper} (i:Nat) (dst:Option Tmp) (hi:ops[i]? =some o) (hs:Region.noSelect ops=true) (hf:Region.free md ops listed i=true) (hr:(Region.ready md ops listed).contains i=true)
  (hQ: ∀c a w,Q (.panic c) (a.put dst undef) w->Q (.panic c) a w) (hd:o.dst=dst) (hw:Region.wanted o (yielded ops a.tmps)=false)
  (hS:S w) (h:wpAnyH prog md ops Q S fuel (listed.setIfInBounds i true) (a.put dst undef) w):wpAnyH prog md ops Q S (fuel+1) listed a w:=by
 subst hd
 exact wpAnyH_take hi hs hf hr hQ (Or.inr ⟨hw,rfl⟩) hS h
section
variable {md : Region.Mode} {ops : Array Oper} {Q : Exit → Act → World → Prop} {S : World → Prop} {w : World} {fuel : Nat} {listed : Array Bool} {a : Act} {o : Oper}
def tk (md:Region.Mode) (ops:Array Oper) (listed:Array Bool) (i:Nat) (o:Oper) (a:Act) (b:Bool):Bool:=Region.noSelect ops && Region.free md ops listed i && (Region.ready md ops listed).contains i && (Region.wanted o (yielded ops a.tmps)==b)
theorem ZcM {i:Nat} {b:Bool} (h:tk md ops listed i o a b=true):Region.noSelect ops=true/\Region.free md ops listed i=true/\(Region.ready md ops listed).contains i=true/\Region.wanted o (yielded ops a.tmps)=b:=by
 unfold tk at h
 simp only[Bool.and_eq_true,beq_iff_eq] at h
 exact⟨h.1.1.1,h.1.1.2,h.1.2,h.2⟩
theorem gq0 (i:Nat) (dst:Option Tmp) (v:Value) (hi:ops[i]? =some o) (hd:o.dst=dst) (hy: ∀X,S X->(execOp a.eval o).run prog X= .ok (.value v) X) (hS:S w) (h:wpAnyH prog md ops Q S fuel (listed.setIfInBounds i true) (a.put dst v) w) (hc:tk md ops listed i o a true=true:=by kernel_rfl) (hQ: ∀c a w,Q (.panic c) (a.put dst v) w->Q (.panic c) a w:=by exact fun _ _ _ h=>h):wpAnyH prog md ops Q S (fuel+1) listed a w:=by
 obtain⟨h1,h2,h3,h4⟩:=ZcM hc
 exact gsem i dst v hi h1 h2 h3 hQ hd h4 hy hS h
theorem gq {aB:Act} (i:Nat) (dst:Option Tmp) (v:Value) (hi:ops[i]? =some o) (hd:o.dst=dst) (hy: ∀X,S X->(execOp a.eval o).run prog X= .ok (.value v) X) (hS:S w) (h:wpAnyH prog md ops Q S fuel (listed.setIfInBounds i true) aB w) (hb:a.put dst v=aB:=by simp only[nn]<;>rfl) (hc:tk md ops listed i o a true=true:=by kernel_rfl) (hQ: ∀c a w,Q (.panic c) (a.put dst v) w->Q (.panic c) a w:=by exact fun _ _ _ h=>h):wpAnyH prog md ops Q S (fuel+1) listed a w:=gq0 i dst v hi hd hy hS (hb▸h) hc hQ
theorem gp0 (i:Nat) (dst:Option Tmp) (v:Value) (hi:ops[i]? =some o) (hd:o.dst=dst) (hS:S w) (h:wpAnyH prog md ops Q S fuel (listed.setIfInBounds i true) (a.put dst v) w) (hy: ∀X,(execOp a.eval o).run prog X= .ok (.value v) X:=by exact fun _=>by kernel_rfl) (hc:tk md ops listed i o a true=true:=by kernel_rfl) (hQ: ∀c a w,Q (.panic c) (a.put dst v) w->Q (.panic c) a w:=by exact fun _ _ _ h=>h):wpAnyH prog md ops Q S (fuel+1) listed a w:=
 gq0 i dst v hi hd (fun X _=>hy X) hS h hc hQ
theorem gp {aB:Act} (i:Nat) (dst:Option Tmp) (v:Value) (hi:ops[i]? =some o) (hd:o.dst=dst) (hS:S w) (h:wpAnyH prog md ops Q S fuel (listed.setIfInBounds i true) aB w) (hb:a.put dst v=aB:=by simp only[nn]<;>rfl) (hy: ∀X,(execOp a.eval o).run prog X= .ok (.value v) X:=by exact fun _=>by kernel_rfl) (hc:tk md ops listed i o a true=true:=by kernel_rfl) (hQ: ∀c a w,Q (.panic c) (a.put dst v) w->Q (.panic c) a w:=by exact fun _ _ _ h=>h):wpAnyH prog md ops Q S (fuel+1) listed a w:=gp0 i dst v hi hd hS (hb▸h) hy hc hQ
theorem gk (i:Nat) (dst:Option Tmp) (hi:ops[i]? =some o) (hd:o.dst=dst) (hS:S w) (h:wpAnyH prog md ops Q S fuel (listed.setIfInBounds i true) (a.put dst undef) w) (hc:tk md ops listed i o a false=true:=by kernel_rfl) (hQ: ∀c a w,Q (.panic c) (a.put dst undef) w->Q (.panic c) a w:=by exact fun _ _ _ h=>h):wpAnyH prog md ops Q S (fuel+1) listed a w:=by
 obtain⟨h1,h2,h3,h4⟩:=ZcM hc
 exact gskipS i dst hi h1 h2 h3 hQ hd h4 hS h
theorem gc (i:Nat) (dst:Option Tmp) {f:FuncId} {args:Array Value} {R:Ending->World->Prop} {rs:List Nat} (hi:ops[i]? =some o) (hd:o.dst=dst) (hC:Calls prog f args w R)
  (h: ∀e X,R e X-> ∃V,e= .returned V/\S X/\wpAnyH prog md ops Q S fuel (listed.setIfInBounds i true) (a.put dst V) X) (hs:AllReadyH prog md ops Q S fuel listed a w rs) (hw:Region.wanted o (yielded ops a.tmps)=true:=by kernel_rfl) (he:(execOp a.eval o).run prog w= .ok (.enter f args) w:=by kernel_rfl):AllReadyH prog md ops Q S fuel listed a w (i::rs):=
 gcallR i dst hi hd hw he hC h hs
theorem gv (i:Nat) (dst:Option Tmp) {V:Value} {X:World} {rs:List Nat} (hi:ops[i]? =some o) (hd:o.dst=dst) (he:(execOp a.eval o).run prog w= .ok (.value V) X) (hSX:S X)
  (h:wpAnyH prog md ops Q S fuel (listed.setIfInBounds i true) (a.put dst V) X) (hs:AllReadyH prog md ops Q S fuel listed a w rs) (hw:Region.wanted o (yielded ops a.tmps)=true:=by kernel_rfl):AllReadyH prog md ops Q S fuel listed a w (i::rs):=
 Zej i dst hi hd hw he hSX h hs
theorem gr {rs:List Nat} (h:AllReadyH prog md ops Q S fuel listed a w rs) (hr:Region.ready md ops listed=rs:=by kernel_rfl) (hne:rs≠ []:=by simp):wpAnyH prog md ops Q S (fuel+1) listed a w:=wpAnyH_ready hr hne h
theorem gn:AllReadyH prog md ops Q S fuel listed a w []:=AllReadyH.nil
end
theorem cput_nil (cs:List Value) (p:Nat):Bo cs p []=cs:=by simp[Bo]
theorem Up {e:TypeId} {fr:Nat×Nat} (g:Nat): ∀(vs:List Value) (p:Nat) (W:World) (cur:Array Value),W.heap[g]? =some (.cells cur e fr)->p+vs.length<=cur.size-> ∃cur':Array Value,(W.setCells g p vs).heap[g]? =some (.cells cur' e fr)/\cur'.toList=Bo cur.toList p vs
 | [],p,W,cur,h,_=>⟨cur,h,(cput_nil _ _).symm⟩
 |v::vs,p,W,cur,h,hp=>by
  simp only[List.length_cons] at hp
  have h1:(W.setCell ⟨g,p,none⟩ v).heap[g]? =some (.cells (cur.setIfInBounds p v) e fr):=by
   obtain⟨hlt,hk⟩:=Array.getElem?_eq_some_iff.1 h
   show (W.heap.modify g _)[g]? =_
   rw[Array.getElem?_eq_getElem (by rw[Array.size_modify];exact hlt),Array.getElem_modify_self,hk]
   rfl
  obtain⟨cur',h2,h3⟩:=Up g vs (p+1) _ _ h1 (by simp;omega)
  refine⟨cur',h2, ?_⟩
  rw[h3]
  have hpl:p<cur.toList.length:=by simp;omega
  unfold Bo
  have e1:(cur.setIfInBounds p v).toList=cur.toList.set p v:=by simp
  rw[e1,List.take_set,List.drop_set_of_lt (by omega),List.take_succ_eq_append_getElem hpl]
  simp only[List.length_cons]
  rw[List.set_append_right _ _ (by simp;omega),show p+1+vs.length=p+(vs.length+1) by omega]
  have e2:p - (cur.toList.take p).length=0:=by simp;omega
  rw[e2]
  simp
theorem Zgp (A B vs:List Value) (p:Nat) (h:p+vs.length<=A.length):Bo (A++B) p vs=Bo A p vs++B:=by
 unfold Bo
 rw[List.take_append_of_le_length (by omega),List.drop_append_of_le_length h]
 simp
theorem Zc (cs vs:List Value) (p:Nat) (h:p+vs.length<=cs.length):(Bo cs p vs).length=cs.length:=by
 unfold Bo
 rw[List.length_append,List.length_append,List.length_take,List.length_drop]
 omega
theorem own_set {w:World} {base e s n g c p:Nat} {xs vs:List Value} (h:w.ownsRow base e s (.slice (some ⟨g,0,none⟩) n c) n xs) (hp:p+vs.length<=xs.length):(w.setCells g p vs).ownsRow base e s (.slice (some ⟨g,0,none⟩) n c) n (Bo xs p vs):=by
 obtain⟨h1,h2⟩:=h
 rcases h2 with ⟨h2, -⟩|⟨g',cap,cur,he,h3,h4,h5,h6,h7,h8⟩
 ·cases h2
 ·cases he
  have hle:n * s<=cur.size:=by rw[h7];exact Nat.mul_le_mul_right _ h5
  obtain⟨cur',h9,h10⟩:=Up g vs p w cur h4 (by omega)
  have hd:cur.toList=xs++cur.toList.drop (n * s):=by rw[←h8,List.take_append_drop]
  rw[hd,Zgp _ _ _ _ hp] at h10
  have hcl:=Zc xs vs p hp
  have hs':cur'.size=cur.size:=by
   have e1:cur'.toList.length=cur.toList.length:=by rw[h10,List.length_append,hcl,←List.length_append,←hd]
   simpa using e1
  refine⟨by rw[hcl,h1], .inr ⟨g,c,cur',rfl,h3,h9,h5,h6,by rw[hs'];exact h7, ?_⟩⟩
  rw[h10,List.take_append_of_le_length (by omega),List.take_of_length_le (by omega)]
structure Ob where
 bs:List Nat
 P:World->Prop
structure Ob.Ok (o:Ob):Prop where
 on: ∀{X Y:World},(∀b∈o.bs,Y.heap[b]? =X.heap[b]?)->o.P X->o.P Y
 lt: ∀{X:World},o.P X-> ∀b∈o.bs,b<X.heap.size
def Aq (B:Nat) (cs:List Value):Ob:=⟨[B],fun X=>Holds X B cs/\0<cs.length⟩
def Du (base e s:Nat) (v:Value) (n:Nat) (ys:List Value):Ob:=⟨v.ownBlock.toList,fun X=>X.ownsRow base e s v n ys⟩
theorem ZcC (B:Nat) (cs:List Value):(Aq B cs).Ok:=
 ⟨fun h k=>⟨k.1.block (h B (List.mem_singleton.2 rfl)),k.2⟩,fun h b hb=>by obtain rfl:=List.mem_singleton.1 hb;exact h.1.lt h.2⟩
theorem Mr (base e s:Nat) (v:Value) (n:Nat) (ys:List Value):(Du base e s v n ys).Ok:=
 ⟨fun h k=>Ze6 k (fun g hg=>h g (by simp[Du,hg])),fun h b hb=>(World.ownsRow.lt h b (by simpa [Du] using hb)).2⟩
structure Sy (w X:World) (E:List Nat) (L:List Ob):Prop where
 fr:Fr w X E
 ok: ∀o∈L,o.Ok
 ho: ∀o∈L,o.P X
 lo: ∀o∈L,∀b∈o.bs,b∈E∨w.heap.size<=b
 dis:L.Pairwise (fun a b=> ∀x∈a.bs,x ∉ b.bs)
section
variable {w X Y : World} {E : List Nat} {L : List Ob}
theorem Sy.nil (w:World) (E:List Nat):Sy w w E []:=⟨Fr.refl _ _,by simp,by simp,by simp,by simp⟩
theorem Sy.get (h:Sy w X E L) (i:Nat) {o:Ob} (hi:L[i]? =some o):o.P X:=h.ho o (List.mem_of_getElem? hi)
theorem Sy.on (h:Sy w X E L) (k:Below X.heap.size X Y):Sy w Y E L:=
 ⟨h.fr.on k,h.ok,fun o ho=>(h.ok o ho).on (fun b hb=>k.block b ((h.ok o ho).lt (h.ho o ho) b hb)) (h.ho o ho),h.lo,h.dis⟩
theorem Sy.drew (h:Sy w X E L):Sy w X.drew E L:=h.on ⟨rfl,rfl,rfl,Nat.le_refl _,fun _ _=>rfl⟩
theorem Sy.add (h:Sy w X E L) {o:Ob} (hok:o.Ok) (hP:o.P Y) (k:Below X.heap.size X Y) (hb: ∀b∈o.bs,X.heap.size<=b):Sy w Y E (L++ [o]):=by
 have h1:=h.on k
 refine⟨h1.fr,fun q hq=> ?_,fun q hq=> ?_,fun q hq=> ?_, ?_⟩
 ·rcases List.mem_append.1 hq with h2|h2
  ·exact h.ok q h2
  ·rw[List.mem_singleton.1 h2];exact hok
 ·rcases List.mem_append.1 hq with h2|h2
  ·exact h1.ho q h2
  ·rw[List.mem_singleton.1 h2];exact hP
 ·rcases List.mem_append.1 hq with h2|h2
  ·exact h.lo q h2
  ·rw[List.mem_singleton.1 h2];exact fun b hm=> .inr (Nat.le_trans h.fr.size (hb b hm))
 ·rw[List.pairwise_append]
  refine⟨h.dis,by simp,fun a ha c hc x hx hxc=> ?_⟩
  rw[List.mem_singleton.1 hc] at hxc
  have h2:=(h.ok a ha).lt (h.ho a ha) x hx
  have h3:=hb x hxc
  omega
theorem Sy.set (h:Sy w X E L) (i:Nat) {o o':Ob} (hi:L[i]? =some o) (hok:o'.Ok) (hP:o'.P Y) (hf:Fr X Y o.bs) (hb: ∀b∈o'.bs,b∈o.bs∨X.heap.size<=b):Sy w Y E (L.set i o'):=by
 obtain⟨hlt,hi'⟩:=List.getElem?_eq_some_iff.1 hi
 have hmem:o∈L:=List.mem_of_getElem? hi
 have apart: ∀(j:Nat) (a:Ob),L[j]? =some a->j≠i-> ∀x∈a.bs,x ∉ o.bs:=by
  intro j a hj hne x hx hxo
  obtain⟨hjl,hj'⟩:=List.getElem?_eq_some_iff.1 hj
  rcases Nat.lt_or_gt_of_ne hne with h1|h1
  ·have:=List.pairwise_iff_getElem.1 h.dis j i hjl hlt h1
   rw[hj',hi'] at this
   exact this x hx hxo
  ·have:=List.pairwise_iff_getElem.1 h.dis i j hlt hjl h1
   rw[hj',hi'] at this
   exact this x hxo hx
 have keep: ∀(j:Nat) (a:Ob),L[j]? =some a->j≠i->a.P Y:=fun j a hj hne=>
  (h.ok a (List.mem_of_getElem? hj)).on (fun b hm=>hf.block b ((h.ok a (List.mem_of_getElem? hj)).lt (h.ho a (List.mem_of_getElem? hj)) b hm) (apart j a hj hne b hm)) (h.ho a (List.mem_of_getElem? hj))
 have each: ∀q∈L.set i o',q=o'∨ ∃j:Nat,L[j]? =some q/\j≠i:=by
  intro q hq
  obtain⟨j,hj⟩:=List.getElem?_of_mem hq
  by_cases e:j=i
  ·subst e
   rw[List.getElem?_set_self hlt] at hj
   exact .inl (Option.some.inj hj).symm
  ·rw[List.getElem?_set_ne (fun e'=>e e'.symm)] at hj
   exact .inr ⟨j,hj,e⟩
 refine⟨h.fr.trans hf (fun b hm=>h.lo o hmem b hm),fun q hq=> ?_,fun q hq=> ?_,fun q hq=> ?_, ?_⟩
 ·rcases each q hq with rfl|⟨j,hj,_⟩
  ·exact hok
  ·exact h.ok q (List.mem_of_getElem? hj)
 ·rcases each q hq with rfl|⟨j,hj,hne⟩
  ·exact hP
  ·exact keep j q hj hne
 ·rcases each q hq with rfl|⟨j,hj,hne⟩
  ·intro b hm
   rcases hb b hm with h1|h1
   ·exact h.lo o hmem b h1
   ·exact .inr (Nat.le_trans h.fr.size h1)
  ·exact h.lo q (List.mem_of_getElem? hj)
 ·have far: ∀(j:Nat) (a:Ob),L[j]? =some a->j≠i-> ∀x∈o'.bs,x ∉ a.bs:=by
   intro j a hj hne x hx hxa
   rcases hb x hx with h1|h1
   ·exact apart j a hj hne x hxa h1
   ·have:=(h.ok a (List.mem_of_getElem? hj)).lt (h.ho a (List.mem_of_getElem? hj)) x hxa
    omega
  rw[List.pairwise_iff_getElem]
  intro p q hp hq hpq
  rw[List.length_set] at hp hq
  rw[List.getElem_set,List.getElem_set]
  by_cases e1:i=p
  ·subst e1
   rw[if_pos rfl,if_neg (by omega)]
   exact far q _ (List.getElem?_eq_getElem hq) (by omega)
  ·rw[if_neg e1]
   by_cases e2:i=q
   ·subst e2
    rw[if_pos rfl]
    exact fun x hx hx'=>far p _ (List.getElem?_eq_getElem hp) (by omega) x hx' hx
   ·rw[if_neg e2]
    exact List.pairwise_iff_getElem.1 h.dis p q hp hq hpq
theorem Sy.left {M:List Ob} (h:Sy w X E (L++M)):Sy w X E L:=
 ⟨h.fr,fun o ho=>h.ok o (List.mem_append_left _ ho),fun o ho=>h.ho o (List.mem_append_left _ ho),fun o ho=>h.lo o (List.mem_append_left _ ho),(List.pairwise_append.1 h.dis).1⟩
theorem Sy.box (h:Sy w X E L) (cs:List Value) (t:TypeId) (hc:0<cs.length):Sy w (X.alloc (Obj.cells cs.toArray t)) E (L++ [Aq X.heap.size cs]):=
 h.add (ZcC _ _) ⟨Holds.new X cs t,hc⟩ ((Below.refl _ _).alloc (Nat.le_refl _) _) (fun b hb=>by rw[List.mem_singleton.1 hb];exact Nat.le_refl _)
theorem Sy.hold (h:Sy w X E L) (i:Nat) {b:Nat} {cs:List Value} (hi:L[i]? =some (Aq b cs)):Holds X b cs:=(h.get i hi).1
theorem Sy.put (h:Sy w X E L) (i:Nat) {b:Nat} {cs:List Value} (hi:L[i]? =some (Aq b cs)) (p:Nat) (vs:List Value) (hp:p+vs.length<=cs.length):Sy w (X.setCells b p vs) E (L.set i (Aq b (Bo cs p vs))):=by
 have h1:=h.get i hi
 exact h.set i hi (ZcC _ _) ⟨h1.1.put p vs hp,by rw[Zc _ _ _ hp];exact h1.2⟩ (Fr.setCells X b p vs) (fun c hc=> .inl hc)
theorem Sy.row (h:Sy w X E L) (i:Nat) {base e s n n':Nat} {v v':Value} {ys ys':List Value} (hi:L[i]? =some (Du base e s v n ys)) (hO:Y.ownsRow base e s v' n' ys') (hg:X.grownBy Y v.ownBlock) (hF:My X v v'):Sy w Y E (L.set i (Du base e s v' n' ys')):=
 h.set i hi (Mr _ _ _ _ _ _) hO (Fr.grown hg) (fun b hb=>by
  have hb':v'.ownBlock=some b:=by simpa [Du] using hb
  rcases hF with e|e
  ·exact .inl (by simp[Du,←e,hb'])
  ·rw[e] at hb'
   exact .inr (Nat.le_of_eq (Option.some.inj hb')))
theorem Sy.cell (h:Sy w X E L) (i:Nat) {base e s n g c p:Nat} {ys vs:List Value} (hi:L[i]? =some (Du base e s (.slice (some ⟨g,0,none⟩) n c) n ys)) (hp:p+vs.length<=ys.length):Sy w (X.setCells g p vs) E (L.set i (Du base e s (.slice (some ⟨g,0,none⟩) n c) n (Bo ys p vs))):=
 h.set i hi (Mr _ _ _ _ _ _) (own_set (h.get i hi) hp) (Fr.setCells X g p vs) (fun b hb=> .inl hb)
theorem Sy.apart (h:Sy w X E L) {i j:Nat} {a b:Ob} (hi:L[i]? =some a) (hj:L[j]? =some b) (hne:i≠j): ∀x∈a.bs,x ∉ b.bs:=by
 obtain⟨hil,hi'⟩:=List.getElem?_eq_some_iff.1 hi
 obtain⟨hjl,hj'⟩:=List.getElem?_eq_some_iff.1 hj
 intro x hx hxb
 rcases Nat.lt_or_gt_of_ne hne with h1|h1
 ·have:=List.pairwise_iff_getElem.1 h.dis i j hil hjl h1
  rw[hi',hj'] at this
  exact this x hx hxb
 ·have:=List.pairwise_iff_getElem.1 h.dis j i hjl hil h1
  rw[hi',hj'] at this
  exact this x hxb hx
end


theorem Sy.perm {w X:World} {E:List Nat} {L L':List Ob} (h:Sy w X E L) (hp:L.Perm L'):Sy w X E L':=
 ⟨h.fr,fun o ho=>h.ok o (hp.mem_iff.2 ho),fun o ho=>h.ho o (hp.mem_iff.2 ho),fun o ho=>h.lo o (hp.mem_iff.2 ho),hp.pairwise h.dis (fun hab x hx hxa=>hab x hxa hx)⟩
theorem Sy.front {w X:World} {E:List Nat} {L:List Ob} {o:Ob} (h:Sy w X E (L++ [o])):Sy w X E (o::L):=h.perm (List.perm_append_singleton o L)
theorem Sy.back {w X:World} {E:List Nat} {L:List Ob} {o:Ob} (h:Sy w X E (o::L)):Sy w X E (L++ [o]):=h.perm (List.perm_append_singleton o L).symm
section
variable {ops : Array Oper} {rest : List Oper} {Q : Exit → Act → World → Prop} {w w0 : World} {a : Act} {o : Oper} {E : List Nat} {L : List Ob}
theorem bxS {v:Value} {x:Operand} (ty:TypeId) (cs:List Value) (hw:Region.wanted o (yielded ops a.tmps)=true) (ho:o.op= .box ty x) (hx:a.eval x=v) (hv:v.cells.toList=cs) (hc:0<cs.length) (hL:Sy w0 w E L)
  (h: ∀X B,B=w.heap.size->Sy w0 X E (L++ [Aq B cs])->Below w.heap.size w X->wpList prog ops Q rest (a.put o.dst (.pointer (some ⟨B,0,none⟩))) X):wpList prog ops Q (o::rest) a w:=by
 refine BigFrame.wpList_want hw fun K hK=> ?_
 have e:v.cells=cs.toArray:=by rw[←hv]
 have hP:=hK _ _ (h _ _ rfl (hL.box cs ty hc) ((Below.refl _ _).alloc (Nat.le_refl _) _))
 have e2:(Instr.box ty v).run prog w= .ok (.pointer (some ⟨w.heap.size,0,none⟩)) (w.alloc (Obj.cells cs.toArray ty)):=by rw[←e];rfl
 unfold Oper.wp execOp
 simp only[ho,hx]
 simp[e2]
 exact hP
theorem alS {v:Value} (ty:TypeId) (cs:List Value) (hw:Region.wanted o (yielded ops a.tmps)=true) (ho:o.op= .alloc ty) (hz: ∀w,(zeroValue ty).run prog w= .ok v w) (hv:v.cells.toList=cs) (hc:0<cs.length) (hL:Sy w0 w E L)
  (h: ∀X B,B=w.heap.size->Sy w0 X E (L++ [Aq B cs])->Below w.heap.size w X->wpList prog ops Q rest (a.put o.dst (.pointer (some ⟨B,0,none⟩))) X):wpList prog ops Q (o::rest) a w:=by
 refine BigFrame.wpList_want hw fun K hK=> ?_
 have e:v.cells=cs.toArray:=by rw[←hv]
 have hP:=hK _ _ (h _ _ rfl (hL.box cs ty hc) ((Below.refl _ _).alloc (Nat.le_refl _) _))
 have he:(execOp a.eval o).run prog w= .ok (.value (.pointer (some ⟨w.heap.size,0,none⟩))) (w.alloc (Obj.cells cs.toArray ty)):=by
  unfold execOp
  simp only[ho]
  simp[go_sem,hz]
  show w.alloc (Obj.cells v.cells ty)=_
  rw[e]
 unfold Oper.wp
 rw[he]
 exact hP
theorem stS {b p:Nat} {cs vs:List Value} {v:Value} {x y:Operand} (i:Nat) (ty:TypeId) (hw:Region.wanted o (yielded ops a.tmps)=true) (ho:o.op= .store ty x y) (hx:a.eval x= .pointer (some ⟨b,p,none⟩)) (hy:a.eval y=v)
  (hv:v.cells.toList=vs) (h1: ∀u∈vs,u.oneCell'=true) (hi:(prog.info? ty).map (·.size)=some vs.length) (hL:Sy w0 w E L) (hg:L[i]? =some (Aq b cs)) (hp:p+vs.length<=cs.length)
  (h: ∀X,Sy w0 X E (L.set i (Aq b (Bo cs p vs)))->Fr w X [b]->X.heap.size=w.heap.size->wpList prog ops Q rest (a.put o.dst undef) X):wpList prog ops Q (o::rest) a w:=by
 refine BigFrame.wpList_want hw fun K hK=> ?_
 have hP:=hK _ _ (h _ (hL.put i hg p vs hp) (Fr.setCells w b p vs) (Ge _ _ _))
 unfold Oper.wp execOp
 simp only[ho,hx,hy,Instr.storeAt,Instr.sureAddr,Sem.run_bind,Sem.run_pure,Result.andThen_ok,Ee w b p ty v vs hv ((hL.hold i hg).there p vs.length hp) hi h1]
 exact hP
theorem apS {t e:TypeId} {size bytes k B base:Nat} {z v:Value} {xs news:List Value} {s x:Operand} (i j:Nat) (hgd:o.guard=none) (ho:o.op= .call {callee:= .builtin .append,args:= #[s,x],argTypes:= #[t,t]}) (hs:a.eval s=v) (hx:a.eval x= .slice (some ⟨B,0,none⟩) 1 1)
  (ht:prog.underlying t=some (.slice e)) (hi:(prog.info? e).map (fun i=>(i.zero,i.size,i.bytes))=some (some z,size,bytes)) (hz:z.cells.size=size) (hsz:0<size) (hL:Sy w0 w E L) (hi1:L[i]? =some (Du base e size v k xs)) (hj1:L[j]? =some (Aq B news)) (hl:news.length=size) (h1: ∀u∈news,u.oneCell'=true)
  (hn:k+1<=4000000) (hby:bytes<=10000) (hbase:base<=w.heap.size)
  (h: ∀A c X,Sy w0 X E (L.set i (Du base e size (.slice A (k+1) c) (k+1) (xs++news)))->wpList prog ops Q rest (a.put o.dst (.slice A (k+1) c)) X):wpList prog ops Q (o::rest) a w:=
 Uh (m:=1) hgd ho hs hx ht hi hz hsz (hL.get i hi1) (hL.hold j hj1) (by rw[hl];omega) h1 hn hby hbase (fun A c X h2 h3 h4=>h A c X (hL.row i hi1 h2 h3 h4))
theorem bsS {t e:TypeId} {size bytes:Nat} {z v:Value} {cs:List Value} {x:Operand} (hw:Region.wanted o (yielded ops a.tmps)=true) (ho:o.op= .buildSlice t 1 #[(0,x)]) (hx:a.eval x=v)
  (ht:prog.underlying t=some (.slice e)) (hi:(prog.info? e).map (fun i=>(i.zero,i.size,i.bytes))=some (some z,size,bytes)) (hs1:size<=100) (hv:v.cells.toList=cs) (hc:cs.length=size) (h0:0<size) (hL:Sy w0 w E L)
  (h: ∀X B,B=w.heap.size->Sy w0 X E (L++ [Aq B cs])->Below w.heap.size w X->wpList prog ops Q rest (a.put o.dst (.slice (some ⟨B,0,none⟩) 1 1)) X):wpList prog ops Q (o::rest) a w:=by
 refine BigFrame.wpList_want hw fun K hK=> ?_
 have hP:=hK _ _ (h _ _ rfl (hL.box cs e (by omega)) ((Below.refl _ _).alloc (Nat.le_refl _) _))
 unfold Oper.wp
 rw[Qs ho hx ht hi hs1 hv hc h0]
 exact hP
theorem mkS {t e:TypeId} {size bytes:Nat} {z:Value} {c x:Operand} (base n:Nat) (hw:Region.wanted o (yielded ops a.tmps)=true) (ho:o.op= .makeSlice t c x) (hc:a.eval c= .int .i64 0) (hx:a.eval x= .int .i64 (n:Nat))
  (ht:prog.underlying t=some (.slice e)) (hi:(prog.info? e).map (fun i=>(i.zero,i.size,i.bytes))=some (some z,size,bytes)) (hn:n<=100000) (hs:size<=100) (hby:bytes<=10000) (hL:Sy w0 w E L) (hb:base<=w.heap.size)
  (h: ∀X B,B=w.heap.size->Sy w0 X E (L++ [Du base e size (.slice (some ⟨B,0,none⟩) 0 n) 0 []])->Below w.heap.size w X->wpList prog ops Q rest (a.put o.dst (.slice (some ⟨B,0,none⟩) 0 n)) X):wpList prog ops Q (o::rest) a w:=
 mk_any n hw ho hc hx ht hi hn hs hby (fun wm h1 h2=>h wm _ rfl (hL.add (Mr _ _ _ _ _ _) (No h1 hb) h2 (fun b hb2=>by
  have:b=w.heap.size:=by simpa [Du,Value.ownBlock,eq_comm] using hb2
  omega)) h2)
end
theorem rwW: ∃d,prog.underlying 24=some d/\d.isRow=true:=⟨_,underlying24,rfl⟩
theorem szW:(prog.info? 24).map (·.size)=some 4:=by kernel_rfl
theorem rwK: ∃d,prog.underlying 37=some d/\d.isRow=true:=⟨_,underlying37,rfl⟩
theorem szK:(prog.info? 37).map (·.size)=some 2:=by kernel_rfl
theorem rwV: ∃d,prog.underlying 40=some d/\d.isRow=true:=⟨_,underlying40,rfl⟩
theorem szV:(prog.info? 40).map (·.size)=some 5:=by kernel_rfl
theorem rwD: ∃d,prog.underlying 43=some d/\d.isRow=true:=⟨_,underlying43,rfl⟩
theorem szD:(prog.info? 43).map (·.size)=some 18:=by kernel_rfl
theorem rwA: ∃d,prog.underlying 46=some d/\d.isRow=true:=⟨_,underlying46,rfl⟩
theorem szA:(prog.info? 46).map (·.size)=some 34:=by kernel_rfl
theorem rwT: ∃d,prog.underlying 56=some d/\d.isRow=true:=⟨_,underlying56,rfl⟩
theorem szT:(prog.info? 56).map (·.size)=some 59:=by kernel_rfl
theorem rwF: ∃d,prog.underlying 58=some d/\d.isRow=true:=⟨_,underlying58,rfl⟩
theorem szF:(prog.info? 58).map (·.size)=some 7:=by kernel_rfl
theorem rwN: ∃d,prog.underlying 60=some d/\d.isRow=true:=⟨_,underlying60,rfl⟩
theorem szN:(prog.info? 60).map (·.size)=some 34:=by kernel_rfl
theorem rwP: ∃d,prog.underlying 80=some d/\d.isRow=true:=⟨_,underlying80,rfl⟩
theorem szP:(prog.info? 80).map (·.size)=some 20:=by kernel_rfl
theorem rwS: ∃d,prog.underlying 85=some d/\d.isRow=true:=⟨_,underlying85,rfl⟩
theorem szS:(prog.info? 85).map (·.size)=some 8:=by kernel_rfl
theorem Qw (w:World):(sizeOf (prog.elem 49)).run prog w= .ok 20 w:=by kernel_rfl
theorem Qu:prog.underlying 49=some (.slice (prog.elem 49)):=by kernel_rfl
theorem idSs (w:World):(sizeOf (prog.elem 61)).run prog w= .ok 8 w:=by kernel_rfl
theorem unSs:prog.underlying 61=some (.slice (prog.elem 61)):=by kernel_rfl
theorem Rr (w:World):(sizeOf (prog.elem 44)).run prog w= .ok 5 w:=by kernel_rfl
theorem Rg:prog.underlying 44=some (.slice (prog.elem 44)):=by kernel_rfl
theorem idOs (w:World):(sizeOf (prog.elem 92)).run prog w= .ok 1 w:=by kernel_rfl
theorem unOs:prog.underlying 92=some (.slice (prog.elem 92)):=by kernel_rfl
theorem idEs (w:World):(sizeOf (prog.elem 159)).run prog w= .ok 1 w:=by kernel_rfl
theorem unEs:prog.underlying 159=some (.slice (prog.elem 159)):=by kernel_rfl
theorem sz_i:(prog.info? 3).map (·.size)=some 1:=by kernel_rfl
theorem sz_b:(prog.info? 4).map (·.size)=some 1:=by kernel_rfl
section
variable {ops : Array Oper} {rest : List Oper} {Q : Exit → Act → World → Prop} {w w0 : World} {a : Act} {o : Oper} {E : List Nat} {L : List Ob}
theorem gcB {md:Region.Mode} {S:World->Prop} {fuel:Nat} {listed:Array Bool} {f:FuncId} {args:Array Value} {v:Value} {rs:List Nat} (i:Nat) (dst:Option Tmp) (hi:ops[i]? =some o) (hd:o.dst=dst) (hL:Sy w0 w E L) (hC:Calls prog f args w fun e w'=>e= .returned v/\Below w.heap.size w w') (hT: ∀{X},Sy w0 X E L->S X)
  (h: ∀X,Sy w0 X E L->wpAnyH prog md ops Q S fuel (listed.setIfInBounds i true) (a.put dst v) X) (hs:AllReadyH prog md ops Q S fuel listed a w rs) (hw:Region.wanted o (yielded ops a.tmps)=true:=by kernel_rfl) (he:(execOp a.eval o).run prog w= .ok (.enter f args) w:=by kernel_rfl):AllReadyH prog md ops Q S fuel listed a w (i::rs):=
 gc i dst hi hd hC (fun e X hX=>⟨v,hX.1,hT (hL.on hX.2),h X (hL.on hX.2)⟩) hs hw he
theorem gcW {md:Region.Mode} {S:World->Prop} {fuel:Nat} {listed:Array Bool} {f:FuncId} {args:Array Value} {v:Value} {rs:List Nat} (i:Nat) (dst:Option Tmp) (hi:ops[i]? =some o) (hd:o.dst=dst) (hS:S w) (hC:Calls prog f args w fun e w'=>e= .returned v/\w'=w)
  (h:wpAnyH prog md ops Q S fuel (listed.setIfInBounds i true) (a.put dst v) w) (hs:AllReadyH prog md ops Q S fuel listed a w rs) (hw:Region.wanted o (yielded ops a.tmps)=true:=by kernel_rfl) (he:(execOp a.eval o).run prog w= .ok (.enter f args) w:=by kernel_rfl):AllReadyH prog md ops Q S fuel listed a w (i::rs):=
 gc i dst hi hd hC (fun e X hX=>⟨v,hX.1,hX.2▸hS,hX.2▸h⟩) hs hw he
theorem zB {v:Value} {x:Operand} (ty:TypeId) (cs:List Value) (hw:Region.wanted o (yielded ops a.tmps)=true) (ho:o.op= .box ty x) (hx:a.eval x=v) (hv:v.cells.toList=cs) (S:Hid (Sy w0 w E L))
  (h: ∀X B,Hid (Sy w0 X E (L++ [Aq B cs]))->wpList prog ops Q rest (a.put o.dst (.pointer (some ⟨B,0,none⟩))) X) (hc:0<cs.length:=by exact Nat.succ_pos _):wpList prog ops Q (o::rest) a w:=
 bxS ty cs hw ho hx hv hc S (fun X B _ S _=>h X B S)
theorem zA (ty:TypeId) (cs:List Value) (hw:Region.wanted o (yielded ops a.tmps)=true) (ho:o.op= .alloc ty) (S:Hid (Sy w0 w E L))
  (h: ∀X B,Hid (Sy w0 X E (L++ [Aq B cs]))->wpList prog ops Q rest (a.put o.dst (.pointer (some ⟨B,0,none⟩))) X) (hz: ∀w,(zeroValue ty).run prog w= .ok (.agg cs.toArray) w:=by intro w;kernel_rfl) (hc:0<cs.length:=by exact Nat.succ_pos _):wpList prog ops Q (o::rest) a w:=
 alS (v:= .agg cs.toArray) ty cs hw ho hz (by simp[Value.cells]) hc S (fun X B _ S _=>h X B S)
theorem zS {b p:Nat} {cs:List Value} {v:Value} {x y:Operand} (vs:List Value) (i:Nat) (ty:TypeId) (hw:Region.wanted o (yielded ops a.tmps)=true) (ho:o.op= .store ty x y) (hx:a.eval x= .pointer (some ⟨b,p,none⟩)) (hy:a.eval y=v)
  (hv:v.cells.toList=vs) (h1: ∀u∈vs,u.oneCell'=true) (hi:(prog.info? ty).map (·.size)=some vs.length) (S:Hid (Sy w0 w E L)) (hg:L[i]? =some (Aq b cs))
  (h: ∀X,Hid (Sy w0 X E (L.set i (Aq b (Bo cs p vs))))->wpList prog ops Q rest (a.put o.dst undef) X) (hp:p+vs.length<=cs.length:=by simp[Bo,VV.cs,KK.cs,DD.cs,zeroD,Av]):wpList prog ops Q (o::rest) a w:=
 stS i ty hw ho hx hy hv h1 hi S hg hp (fun X S _ _=>h X S)
theorem zL {B p:Nat} {x:Operand} {cs:List Value} (vs:List Value) (t:TypeId) (n i:Nat) (hu: ∃d,prog.underlying t=some d/\d.isRow=true) (hi:(prog.info? t).map (·.size)=some n) (hw:Region.wanted o (yielded ops a.tmps)=true) (ho:o.op= .load t x) (hx:a.eval x= .pointer (some ⟨B,p,none⟩)) (S:Hid (Sy w0 w E L)) (hg:L[i]? =some (Aq B cs)) (hv:(cs.drop p).take n=vs) (hn:vs.length=n) (h:wpList prog ops Q rest (a.put o.dst (.agg vs.toArray)) w):wpList prog ops Q (o::rest) a w:=
 rd hw (Af (vs:=vs) t n hu hi ho hx (Sy.hold S i hg) hv hn) h
theorem z1 {B p:Nat} {x:Operand} {cs:List Value} {v:Value} (t:TypeId) (hna: ∀w,(isAgg t).run prog w= .ok false w) (i:Nat) (hw:Region.wanted o (yielded ops a.tmps)=true) (ho:o.op= .load t x) (hx:a.eval x= .pointer (some ⟨B,p,none⟩)) (S:Hid (Sy w0 w E L)) (hg:L[i]? =some (Aq B cs)) (hv:cs[p]? =some v) (h:wpList prog ops Q rest (a.put o.dst v) w):wpList prog ops Q (o::rest) a w:=
 rd hw (Ad t hna ho hx (Sy.hold S i hg) hv) h
end
end
section
open Go Go.Proofs Go.Maps Go.RowKit FM
structure OB where
 b:Nat
 c:Int
 p:VV
 x:Bool
 T:TT
def OB.cs (o:OB):List Value:= [.int .i64 o.c]++o.p.cs++ [.bool o.x, .pointer (some ⟨o.T.t,0,none⟩), .iface 109 (.agg #[]), .nilIface]
def OB.ptr (o:OB):Value:= .pointer (some ⟨o.b,0,none⟩)
theorem Lu (o:OB):o.cs.length=10:=rfl
structure HP where
 b:Nat
 gv:Value
 l:List OB
 cap:Int
 fuel:Int
 depth:Int
 ent:Int
def hcs (h:HP):List Value:= [h.gv, .int .i64 h.cap, .int .i64 h.fuel, .int .i64 h.depth, .int .i64 h.ent]
def obO (o:OB):Ob:=⟨o.b::o.T.blocks,fun X=>Holds X o.b o.cs/\o.T.Is X/\o.b ∉ o.T.blocks⟩
theorem Zd9 (o:OB):(obO o).Ok:=⟨fun h k=>⟨k.1.block (h _ (List.mem_cons_self ..)),k.2.1.block (fun b hb=>h b (List.mem_cons_of_mem _ hb)),k.2.2⟩,fun h b hb=>by
 rcases List.mem_cons.1 hb with rfl|hb
 ·exact h.1.lt (by rw[Lu];omega)
 ·exact h.2.1.lt b hb⟩
def HP.things (h:HP):List Ob:=Aq h.b (hcs h)::Du 0 97 1 h.gv h.l.length (h.l.map OB.ptr)::h.l.map obO
def HP.blocks (h:HP):List Nat:=h.things.flatMap (·.bs)
structure HP.Is (h:HP) (X:World):Prop where
 ho: ∀o∈h.things,o.P X
 dis:h.things.Pairwise (fun a b=> ∀x∈a.bs,x ∉ b.bs)
 low: ∀b∈h.blocks,6<=b
theorem Qj (h:HP): ∀o∈h.things,o.Ok:=by
 intro o ho
 rcases List.mem_cons.1 ho with rfl|ho
 ·exact ZcC _ _
 rcases List.mem_cons.1 ho with rfl|ho
 ·exact Mr _ _ _ _ _ _
 obtain⟨q, -,rfl⟩:=List.mem_map.1 ho
 exact Zd9 q
theorem HP.mem_blocks {h:HP} {o:Ob} {b:Nat} (ho:o∈h.things) (hb:b∈o.bs):b∈h.blocks:=List.mem_flatMap.2 ⟨o,ho,hb⟩
theorem HP.Is.lt {h:HP} {X:World} (H:h.Is X): ∀b∈h.blocks,b<X.heap.size:=by
 intro b hb
 obtain⟨o,ho,hb⟩:=List.mem_flatMap.1 hb
 exact(Qj h o ho).lt (H.ho o ho) b hb
theorem HP.Is.block {h:HP} {X Y:World} (H:h.Is X) (hb: ∀b∈h.blocks,Y.heap[b]? =X.heap[b]?):h.Is Y:=
 ⟨fun o ho=>(Qj h o ho).on (fun b hb'=>hb b (HP.mem_blocks ho hb')) (H.ho o ho),H.dis,H.low⟩
theorem HP.Is.on {h:HP} {X Y:World} (H:h.Is X) (k:Below X.heap.size X Y):h.Is Y:=H.block (fun b hb=>k.block b (H.lt b hb))
theorem HP.Is.sy {h:HP} {X:World} (H:h.Is X):Sy X X h.blocks h.things:=⟨Fr.refl _ _,Qj h,H.ho,fun o ho b hb=> .inl (HP.mem_blocks ho hb),H.dis⟩
def hpO (h:HP):Ob:=⟨h.blocks,h.Is⟩
theorem Zei (h:HP):(hpO h).Ok:=⟨fun k H=>HP.Is.block H k,fun H b hb=>HP.Is.lt H b hb⟩
structure HP.To (h h':HP) (w w':World):Prop where
 is:h'.Is w'
 fr:Fr w w' h.blocks
 sub: ∀b∈h'.blocks,b∈h.blocks∨w.heap.size<=b
 hb:h'.b=h.b
theorem HP.Is.big {h:HP} {X:World} (H:h.Is X):7<=X.heap.size:=by
 have h1:h.b∈h.blocks:=HP.mem_blocks (o:=Aq h.b (hcs h)) (List.mem_cons_self ..) (List.mem_singleton.2 rfl)
 have:=H.low _ h1
 have:=H.lt _ h1
 omega
theorem HP.To.of {h h':HP} {w Y:World} (H:h.Is w) (S:Sy w Y h.blocks h'.things) (hb:h'.b=h.b):h.To h' w Y:=by
 have sub: ∀b∈h'.blocks,b∈h.blocks∨w.heap.size<=b:=fun b hb=>by
  obtain⟨o,ho,hb⟩:=List.mem_flatMap.1 hb
  exact S.lo o ho b hb
 exact⟨⟨S.ho,S.dis,fun b hb=>(sub b hb).elim (H.low b) (fun h1=>by have:=H.big;omega)⟩,S.fr,sub,hb⟩
theorem HP.To.refl {h:HP} {w w':World} (H:h.Is w) (k:Below w.heap.size w w'):h.To h w w':=⟨H.on k,Fr.of_below k _,fun b hb=> .inl hb,rfl⟩
theorem HP.To.trans {h h' h2:HP} {w w' w2:World} (A:h.To h' w w') (B:h'.To h2 w' w2):h.To h2 w w2:=
 ⟨B.is,A.fr.trans B.fr (fun b hb=>A.sub b hb),fun b hb=>(B.sub b hb).elim (A.sub b) (fun h1=> .inr (Nat.le_trans A.fr.size h1)),B.hb.trans A.hb⟩
theorem Sy.heap {w X Y:World} {E:List Nat} {L:List Ob} {h h':HP} (S:Sy w X E L) (i:Nat) (hi:L[i]? =some (hpO h)) (A:h.To h' X Y):Sy w Y E (L.set i (hpO h')):=S.set i hi (Zei h') A.is A.fr A.sub
theorem Sy.hp {w X:World} {E:List Nat} {L:List Ob} {h:HP} (S:Sy w X E L) (i:Nat) (hi:L[i]? =some (hpO h)):h.Is X:=S.get i hi
theorem HP.Is.start {h:HP} {w:World} (H:h.Is w):Sy w w h.blocks [hpO h]:=⟨Fr.refl _ _,fun o ho=>by rw[List.mem_singleton.1 ho];exact Zei h,fun o ho=>by rw[List.mem_singleton.1 ho];exact H,fun o ho b hb=> .inl (by rw[List.mem_singleton.1 ho] at hb;exact hb),by simp⟩
theorem HP.To.end {h h':HP} {w Y:World} {L:List Ob} (H:h.Is w) (S:Sy w Y h.blocks (hpO h'::L)) (hb:h'.b=h.b):h.To h' w Y:=by
 have h1:h'.Is Y:=S.get 0 rfl
 exact⟨h1,S.fr,fun b hb=>S.lo _ (List.mem_cons_self ..) b hb,hb⟩
theorem HP.Is.blk {h:HP} {X:World} (H:h.Is X):Holds X h.b (hcs h):=(H.ho _ (List.mem_cons_self ..)).1
theorem HP.Is.own {h:HP} {X:World} (H:h.Is X):X.ownsRow 0 97 1 h.gv h.l.length (h.l.map OB.ptr):=H.ho _ (List.mem_cons_of_mem _ (List.mem_cons_self ..))
theorem HP.Is.ob {h:HP} {X:World} (H:h.Is X) {j:Nat} {o:OB} (hj:h.l[j]? =some o):Holds X o.b o.cs/\o.T.Is X/\o.b ∉ o.T.blocks:=H.ho (obO o) (List.mem_cons_of_mem _ (List.mem_cons_of_mem _ (List.mem_map_of_mem (List.mem_of_getElem? hj))))
theorem HP.Is.form {h:HP} {X:World} (H:h.Is X): ∃A c,h.gv= .slice A h.l.length c:=Gl H.own
theorem HP.Is.low_tab {h:HP} {X:World} (H:h.Is X) {j:Nat} {o:OB} (hj:h.l[j]? =some o): ∀b∈o.T.blocks,6<=b:=fun b hb=>H.low b (HP.mem_blocks (o:=obO o) (List.mem_cons_of_mem _ (List.mem_cons_of_mem _ (List.mem_map_of_mem (List.mem_of_getElem? hj)))) (List.mem_cons_of_mem _ hb))
theorem HP.Is.ptr {h:HP} {X:World} (H:h.Is X) {j:Nat} {o:OB} (hj:h.l[j]? =some o): ∃g c,h.gv= .slice (some ⟨g,0,none⟩) h.l.length c/\X.cell? ⟨g,j,none⟩=some o.ptr:=by
 have ho:=H.own
 rcases ho.2 with ⟨h1,h0⟩|⟨g,cap,cur,h1,h2,h3,h4,h5,h6,h7⟩
 ·have:=(List.getElem?_eq_some_iff.1 hj).1
  omega
 ·refine⟨g,cap,h1, ?_⟩
  have hlt:=(List.getElem?_eq_some_iff.1 hj).1
  have h8:(cur.toList.take (h.l.length * 1))[j]? =(h.l.map OB.ptr)[j]? :=by rw[h7]
  rw[List.getElem?_take,if_pos (by omega),List.getElem?_map,hj] at h8
  simp[World.cell?,h3]
  simpa using h8
theorem HP.Is.head {h h':HP} {X:World} (H:h.Is X) (p:Nat) (vs:List Value) (hp:p+vs.length<=5) (hb:h'.b=h.b) (hg:h'.gv=h.gv) (hl:h'.l=h.l) (hc:Bo (hcs h) p vs=hcs h'):h.To h' X (X.setCells h.b p vs):=by
 have S:=H.sy.put 0 (b:=h.b) (cs:=hcs h) rfl p vs (by simpa [hcs] using hp)
 rw[hc] at S
 have e:h.things.set 0 (Aq h.b (hcs h'))=h'.things:=by
  unfold HP.things
  rw[hb,hg,hl]
  rfl
 rw[e] at S
 exact HP.To.of H S hb
theorem ZfS (h:HP) {j:Nat} {o:OB} (hj:h.l[j]? =some o):h.things[j+2]? =some (obO o):=by
 show (h.l.map obO)[j]? =_
 rw[List.getElem?_map,hj]
 rfl
theorem ZdK (h h':HP) (j:Nat) (o o':OB) (hj:h.l[j]? =some o) (hb:h'.b=h.b) (hg:hcs h'=hcs h) (hl:h'.l=h.l.set j o') (ho:o'.b=o.b):h.things.set (j+2) (obO o')=h'.things:=by
 have hgv:h'.gv=h.gv:=by
  have:=congrArg (fun l=>l[0]?) hg
  simpa [hcs] using this
 have hp:(h.l.set j o').map OB.ptr=h.l.map OB.ptr:=by
  rw[List.map_set]
  apply List.ext_getElem?
  intro i
  by_cases e:j=i
  ·subst e
   have hlt:=(List.getElem?_eq_some_iff.1 hj).1
   rw[List.getElem?_set_self (by simpa using hlt),List.getElem?_map,hj]
   simp[OB.ptr,ho]
  ·rw[List.getElem?_set_ne e]
 unfold HP.things
 rw[hb,hg,hl,hgv,hp,List.length_set,List.set_cons_succ,List.set_cons_succ,List.map_set]
theorem HP.Is.obj {h h':HP} {X Y:World} (H:h.Is X) {j:Nat} {o o':OB} (hj:h.l[j]? =some o) (hb:h'.b=h.b) (hg:hcs h'=hcs h) (hl:h'.l=h.l.set j o') (ho:o'.b=o.b) (hP:Holds Y o'.b o'.cs/\o'.T.Is Y/\o'.b ∉ o'.T.blocks) (hf:Fr X Y (o.b::o.T.blocks)) (hs: ∀b∈o'.T.blocks,b∈o.T.blocks∨X.heap.size<=b):h.To h' X Y:=by
 have S:=H.sy.set (j+2) (ZfS h hj) (Zd9 o') hP hf (fun b hb'=>by
  rcases List.mem_cons.1 hb' with rfl|h1
  ·exact .inl (by rw[ho];exact List.mem_cons_self ..)
  ·exact(hs b h1).imp (List.mem_cons_of_mem _) id)
 rw[ZdK h h' j o o' hj hb hg hl ho] at S
 exact HP.To.of H S hb
theorem HP.Is.cell {h h':HP} {X:World} (H:h.Is X) {j:Nat} {o o':OB} (hj:h.l[j]? =some o) (p:Nat) (vs:List Value) (hp:p+vs.length<=10) (hb:h'.b=h.b) (hg:hcs h'=hcs h) (hl:h'.l=h.l.set j o') (ho:o'.b=o.b) (hT:o'.T=o.T) (hc:Bo o.cs p vs=o'.cs):h.To h' X (X.setCells o.b p vs):=by
 obtain⟨h1,h2,h3⟩:=H.ob hj
 have hf:=Fr.setCells X o.b p vs
 refine H.obj hj hb hg hl ho ⟨?_, ?_, ?_⟩ (hf.mono (fun b hb'=> .inl (by rw[List.mem_singleton.1 hb'];exact List.mem_cons_self ..))) (fun b hb'=> .inl (hT▸hb'))
 ·rw[ho,←hc]
  exact h1.put p vs (by rw[Lu];exact hp)
 ·rw[hT]
  exact h2.block (fun b hb'=>hf.block b (h2.lt b hb') (fun e=>h3 (List.mem_singleton.1 e▸hb')))
 ·rw[hT,ho]
  exact h3
theorem HP.Is.table {h:HP} {X Y:World} (H:h.Is X) {j:Nat} {o:OB} (hj:h.l[j]? =some o) {T':TT} (hT:T'.Is Y) (ht:T'.t=o.T.t) (hf:Fr X Y o.T.blocks) (hs: ∀b∈T'.blocks,b∈o.T.blocks∨X.heap.size<=b):h.To {h with l:=h.l.set j {o with T:=T'}} X Y:=by
 obtain⟨h1,h2,h3⟩:=H.ob hj
 refine H.obj hj rfl rfl rfl (o':={o with T:=T'}) rfl ⟨?_,hT, ?_⟩ (hf.mono (fun b hb=> .inl (List.mem_cons_of_mem _ hb))) hs
 ·have e:({o with T:=T'}:OB).cs=o.cs:=by simp[OB.cs,ht]
  rw[e]
  exact h1.block (hf.block _ (h1.lt (by rw[Lu];omega)) h3)
 ·intro hb
  rcases hs _ hb with h4|h4
  ·exact h3 h4
  ·have:=h1.lt (by rw[Lu];omega)
   dsimp only at h4
   omega

section
variable {ops : Array Oper} {rest : List Oper} {Q : Exit → Act → World → Prop} {w w0 : World} {a : Act} {o : Oper} {E : List Nat} {L : List Ob}
theorem stH {h:HP} (h':HP) {p:Nat} {vs:List Value} {v:Value} {x y:Operand} (i:Nat) (ty:TypeId) (hw:Region.wanted o (yielded ops a.tmps)=true) (ho:o.op= .store ty x y) (hx:a.eval x= .pointer (some ⟨h.b,p,none⟩)) (hy:a.eval y=v)
  (hv:v.cells.toList=vs) (h1: ∀u∈vs,u.oneCell'=true) (hi:(Tryz.prog.info? ty).map (·.size)=some vs.length) (hL:Sy w0 w E L) (hg:L[i]? =some (hpO h)) (hp:p+vs.length<=5) (hb:h'.b=h.b) (hgv:h'.gv=h.gv) (hl:h'.l=h.l) (hc:Bo (hcs h) p vs=hcs h')
  (hh: ∀X,Sy w0 X E (L.set i (hpO h'))->wpList Tryz.prog ops Q rest (a.put o.dst undef) X):wpList Tryz.prog ops Q (o::rest) a w:=by
 refine BigFrame.wpList_want hw fun K hK=> ?_
 have H:=hL.hp i hg
 have hP:=hK _ _ (hh _ (hL.heap i hg (H.head p vs hp hb hgv hl hc)))
 unfold Oper.wp execOp
 simp only[ho,hx,hy,Instr.storeAt,Instr.sureAddr,Sem.run_bind,Sem.run_pure,Result.andThen_ok,Ee w h.b p ty v vs hv (H.blk.there p vs.length (by simpa [hcs] using hp)) hi h1]
 exact hP
theorem stO {h:HP} (h':HP) {j:Nat} {q q':OB} {p:Nat} {vs:List Value} {v:Value} {x y:Operand} (i:Nat) (ty:TypeId) (hw:Region.wanted o (yielded ops a.tmps)=true) (ho:o.op= .store ty x y) (hx:a.eval x= .pointer (some ⟨q.b,p,none⟩)) (hy:a.eval y=v)
  (hv:v.cells.toList=vs) (h1: ∀u∈vs,u.oneCell'=true) (hi:(Tryz.prog.info? ty).map (·.size)=some vs.length) (hL:Sy w0 w E L) (hg:L[i]? =some (hpO h)) (hj:h.l[j]? =some q) (hp:p+vs.length<=10) (hb:h'.b=h.b) (hgv:hcs h'=hcs h) (hl:h'.l=h.l.set j q') (hq:q'.b=q.b) (hT:q'.T=q.T) (hc:Bo q.cs p vs=q'.cs)
  (hh: ∀X,Sy w0 X E (L.set i (hpO h'))->wpList Tryz.prog ops Q rest (a.put o.dst undef) X):wpList Tryz.prog ops Q (o::rest) a w:=by
 refine BigFrame.wpList_want hw fun K hK=> ?_
 have H:=hL.hp i hg
 have hP:=hK _ _ (hh _ (hL.heap i hg (H.cell hj p vs hp hb hgv hl hq hT hc)))
 unfold Oper.wp execOp
 simp only[ho,hx,hy,Instr.storeAt,Instr.sureAddr,Sem.run_bind,Sem.run_pure,Result.andThen_ok,Ee w q.b p ty v vs hv ((H.ob hj).1.there p vs.length (by rw[Lu];exact hp)) hi h1]
 exact hP
end
end
section
open Go Go.Proofs Go.Maps Go.RowKit FM Tryz
theorem Mc (h:HP) (w:World) (H:h.Is w):Calls prog 22 #[.pointer (some ⟨h.b,0,none⟩)] w fun e w'=>e= .returned (.int .i64 (h.l.length:Nat))/\w'=w:=by
 obtain⟨A,c,hgv⟩:=H.form
 have HB:Hid (Holds w h.b [.slice A h.l.length c, .int .i64 h.cap, .int .i64 h.fuel, .int .i64 h.depth, .int .i64 h.ent]):=Ab (by have:=H.blk;unfold hcs at this;rw[hgv] at this;exact this)
 clear hgv H
 go_enter func22,ntmps22
 go_wp2_with (first|go_skip|((with_reducible show wpList ..);first|(refine rd rfl (Ad 92 isAgg92 rfl rfl (Aa HB) rfl) ?_)|(refine rd rfl (Bm 92 97 underlying92 rfl rfl) ?_)))
 go_ret
 exact⟨rfl,rfl⟩
theorem Zek (h:HP) (w:World) (H:h.Is w):Calls prog 18 #[.pointer (some ⟨h.b,0,none⟩)] w fun e w'=>e= .returned (.int .i64 h.fuel)/\w'=w:=by
 have HB:=Ab H.blk
 clear H
 go_enter func18,ntmps18
 go_wp2_with (first|go_skip|((with_reducible show wpList ..);first|(refine rd rfl (Ad 3 isAgg3 rfl rfl (Aa HB) rfl) ?_)))
 go_ret
 exact⟨rfl,rfl⟩
def Qx (o:Int) (n:Nat):Bool:=decide (1<=o) && decide (o<=(n:Int))
theorem Zfs (h:HP) (o:Int) (w:World) (H:h.Is w):Calls prog 89 #[.pointer (some ⟨h.b,0,none⟩), .int .i64 o] w fun e w'=>e= .returned (.bool (Qx o h.l.length))/\w'=w:=by
 have HL:=Ab (Mc h w H)
 clear H
 unfold Qx
 by_cases h1:1<=o
 ·have e:(decide (1<=o) && decide (o<=(h.l.length:Int)))=decide (o<=(h.l.length:Int)):=by simp[h1]
  rw[e]
  clear e
  go_enter func89,ntmps89
  go_wp2_with fail
  refine(Aa HL).mono ?_
  rintro _ _ ⟨rfl,rfl⟩
  go_wp2
  go_ret
  exact⟨rfl,rfl⟩
 ·have e:(decide (1<=o) && decide (o<=(h.l.length:Int)))=false:=by simp[h1]
  rw[e]
  clear e
  go_enter func89,ntmps89
  go_wp2
  go_ret
  exact⟨rfl,rfl⟩
def thE (o:Int) (n:Nat):Int:=if Qx o n then 0 else 4
theorem Kf (h:HP) (o:Int) (w:World) (H:h.Is w):Calls prog 37 #[.pointer (some ⟨h.b,0,none⟩), .int .i64 o] w fun e w'=>e= .returned (.int .i64 (thE o h.l.length))/\w'=w:=by
 have HL:=Ab (Zfs h o w H)
 clear H
 unfold thE
 generalize Qx o h.l.length=z at *
 cases z
 ·go_enter func37,ntmps37
  go_wp2_with fail
  refine(Aa HL).mono ?_
  rintro _ _ ⟨rfl,rfl⟩
  go_wp2
  go_ret
  exact⟨rfl,rfl⟩
 ·go_enter func37,ntmps37
  go_wp2_with fail
  refine(Aa HL).mono ?_
  rintro _ _ ⟨rfl,rfl⟩
  go_wp2
  go_ret
  exact⟨rfl,rfl⟩
theorem Nv {h:HP} {o:Int} (ho:Qx o h.l.length=true): ∃(j:Nat) (q:OB),o=(j:Int)+1/\h.l[j]? =some q:=by
 unfold Qx at ho
 simp at ho
 refine⟨(o - 1).toNat,h.l[(o - 1).toNat]'(by omega),by omega,List.getElem?_eq_getElem _⟩
theorem Zbx {o:Oper} {a:Act} {w:World} {x ix:Operand} {g n cap:Nat} (t:TypeId) (j:Nat) (hk:prog.underlying t=some (.slice (prog.elem t))) (he: ∀w,(sizeOf (prog.elem t)).run prog w= .ok 1 w) (ho:o.op= .indexAddr t x ix) (hx:a.eval x= .slice (some ⟨g,0,none⟩) n cap) (hix:a.eval ix= .int .i64 (j:Nat)) (hj:j<n):(execOp a.eval o).run prog w= .ok (.value (.pointer (some ⟨g,j,none⟩))) w:=by
 have h1:(Instr.indexAt t (.slice (some ⟨g,0,none⟩) n cap) (.int .i64 (j:Nat))).run prog w= .ok (.pointer (some ⟨g,j,none⟩)) w:=by
  rw[run_indexAt_slice (h:=hk),if_pos ⟨by omega,by omega⟩,he]
  have e2:(Addr.add ⟨g,0,none⟩ ((j:Int).toNat * 1))=⟨g,j,none⟩:=by
   rw[Addr.add_mid]
   simp
  show Result.ok (Value.pointer (some (Addr.add ⟨g,0,none⟩ ((j:Int).toNat * 1)))) w=_
  rw[e2]
 unfold execOp
 simp only[ho,hx,hix]
 simp[h1]
theorem Vm {o:Oper} {a:Act} {w:World} {x:Operand} {b p:Nat} {v:Value} (t:TypeId) (ht: ∀w,(isAgg t).run prog w= .ok false w) (ho:o.op= .load t x) (hx:a.eval x= .pointer (some ⟨b,p,none⟩)) (hv:w.cell? ⟨b,p,none⟩=some v):(execOp a.eval o).run prog w= .ok (.value v) w:=by
 unfold execOp
 simp only[ho,hx]
 simp[go_sem,ht,hv]
theorem Jq (h:HP) (j:Nat) (q:OB) (w:World) (H:h.Is w) (hj:h.l[j]? =some q) (hn:h.l.length<=65536):Calls prog 105 #[.pointer (some ⟨h.b,0,none⟩), .int .i64 ((j:Int)+1)] w fun e w'=>e= .returned (.pointer (some ⟨q.b,0,none⟩))/\w'=w:=by
 obtain⟨g,c,hgv,hcell⟩:=H.ptr hj
 have hlt:=(List.getElem?_eq_some_iff.1 hj).1
 have HB:Hid (Holds w h.b [.slice (some ⟨g,0,none⟩) h.l.length c, .int .i64 h.cap, .int .i64 h.fuel, .int .i64 h.depth, .int .i64 h.ent]):=Ab (by have:=H.blk;unfold hcs at this;rw[hgv] at this;exact this)
 have HC:Hid (w.cell? ⟨g,j,none⟩=some (.pointer (some ⟨q.b,0,none⟩))):=Ab hcell
 have z1:IntKind.i64.wrap ((j:Int)+1 - 1)=(j:Int):=by rw[IntKind.wrap_i64];omega
 clear hgv H hcell hj
 go_enter func105,ntmps105
 go_wp2_with (first|go_skip|((with_reducible show wpList ..);first|(refine rd rfl (Ad 92 isAgg92 rfl rfl (Aa HB) rfl) ?_)|(refine rd rfl (Zbx 92 j unOs idOs rfl rfl rfl hlt) ?_)|(refine rd rfl (Vm 97 isAgg97 rfl rfl (Aa HC)) ?_)))
 go_ret
 exact⟨rfl,rfl⟩
structure HP.Ok (h:HP):Prop where
 len:h.l.length<=65536
 f0:0<=h.fuel
 f1:h.fuel<=9223372036854775807
 e0:0<=h.ent
 e1:h.ent<=h.depth
 d1:h.depth<=100000000
def HP.less (h:HP):HP:={h with fuel:=h.fuel - 1}
def HP.inn (h:HP):HP:={h with fuel:=h.fuel - 1,ent:=h.ent+1}
def HP.out (h:HP):HP:={h with ent:=h.ent - 1}
def Zi:Value:= .iface 109 (.agg #[])
theorem Kn (h:HP) (o:Int) (w:World) (H:h.Is w) (hf:h.fuel=0):Calls prog 94 #[.pointer (some ⟨h.b,0,none⟩), .int .i64 o] w fun e w'=>e= .returned (.tuple #[.nilIface, .int .i64 1])/\w'=w:=by
 have HB:Hid (Holds w h.b [h.gv, .int .i64 h.cap, .int .i64 0, .int .i64 h.depth, .int .i64 h.ent]):=Ab (by have:=H.blk;unfold hcs at this;rw[hf] at this;exact this)
 clear H
 go_enter func94,ntmps94
 go_wp2_with (first|go_skip|((with_reducible show wpList ..);first|(refine rd rfl (Ad 3 isAgg3 rfl rfl (Aa HB) rfl) ?_)))
 go_ret2
 exact⟨rfl,rfl⟩
theorem Zfy {o:Oper} {a:Act} {w:World} {x y:Operand} (h:HP) (ho:o.op= .binOp .sub 3 x y 3) (hx:a.eval x= .int .i64 h.fuel) (hc:a.eval y= .int .i64 1) (hF:0<=h.fuel/\h.fuel<=9223372036854775807):(execOp a.eval o).run prog w= .ok (.value (.int .i64 (h.fuel - 1))) w:=by
 have z:IntKind.i64.wrap (h.fuel - 1)=h.fuel - 1:=by rw[IntKind.wrap_i64];omega
 unfold execOp
 simp only[ho,hx,hc]
 simp[go_sem,z]
theorem ex_addE {o:Oper} {a:Act} {w:World} {x y:Operand} (h:HP) (ho:o.op= .binOp .add 3 x y 3) (hx:a.eval x= .int .i64 h.ent) (hc:a.eval y= .int .i64 1) (hF:0<=h.ent/\h.ent<=100000000):(execOp a.eval o).run prog w= .ok (.value (.int .i64 (h.ent+1))) w:=by
 have z:IntKind.i64.wrap (h.ent+1)=h.ent+1:=by rw[IntKind.wrap_i64];omega
 unfold execOp
 simp only[ho,hx,hc]
 simp[go_sem,z]
theorem ex_subE {o:Oper} {a:Act} {w:World} {x y:Operand} (h:HP) (ho:o.op= .binOp .sub 3 x y 3) (hx:a.eval x= .int .i64 h.ent) (hc:a.eval y= .int .i64 1) (hF:0<=h.ent/\h.ent<=100000001):(execOp a.eval o).run prog w= .ok (.value (.int .i64 (h.ent - 1))) w:=by
 have z:IntKind.i64.wrap (h.ent - 1)=h.ent - 1:=by rw[IntKind.wrap_i64];omega
 unfold execOp
 simp only[ho,hx,hc]
 simp[go_sem,z]
theorem Km (h:HP) (o:Int) (w:World) (H:h.Is w) (K:h.Ok) (hf:h.fuel≠0) (hd:h.ent=h.depth):Calls prog 94 #[.pointer (some ⟨h.b,0,none⟩), .int .i64 o] w fun e w'=>e= .returned (.tuple #[.nilIface, .int .i64 2])/\h.To h.less w w':=by
 have hF:0<=h.fuel/\h.fuel<=9223372036854775807:=⟨K.f0,K.f1⟩
 have SS:=Ab H.start
 go_enter func94,ntmps94
 go_wp2_with (first|go_skip|((with_reducible show wpList ..);first|(refine rd rfl (Ad 3 isAgg3 rfl rfl (((Aa SS).hp 0 rfl).blk) rfl) ?_)|(refine rd rfl (Ju rfl rfl rfl hf) ?_)|(refine rd rfl (Zfy h rfl rfl rfl hF) ?_)|((refine stH (vs:= [.int .i64 (h.fuel - 1)]) (h.less) 0 3 (by rfl) rfl rfl rfl rfl (by simp[Value.oneCell']) sz_i (Aa SS) rfl (by simp) rfl rfl rfl (by simp[Bo,hcs,HP.less,HP.inn,HP.out]) ?_);intro X1 S1;replace SS:=Ab S1;clear S1;simp only[nn])))
 have hS:Sy w _ h.blocks [hpO h.less]:=(Aa SS).drew
 refine wp_region_held_drew (P:=prog) (S:=fun X=>Sy w X h.blocks [hpO h.less]) (by kernel_rfl) hS (fun hS0=> ?_)
 refine y0 0 (some 18) (.pointer (some ⟨h.b,0,none⟩)) rfl hS ?_
 refine y0 1 (some 19) (.pointer (some ⟨h.b,0,none⟩)) rfl hS ?_
 refine y0 2 (some 20) (.pointer (some ⟨h.b,4,none⟩)) rfl hS ?_
 refine y1 3 (some 21) (.int .i64 h.ent) rfl (fun X hX=>Ad 3 isAgg3 rfl rfl ((Sy.hp hX 0 rfl).blk) rfl) hS ?_
 refine y0 4 (some 22) (.pointer (some ⟨h.b,0,none⟩)) rfl hS ?_
 refine y0 5 (some 23) (.pointer (some ⟨h.b,0,none⟩)) rfl hS ?_
 refine y0 6 (some 24) (.pointer (some ⟨h.b,3,none⟩)) rfl hS ?_
 refine y1 7 (some 25) (.int .i64 h.depth) rfl (fun X hX=>Ad 3 isAgg3 rfl rfl ((Sy.hp hX 0 rfl).blk) rfl) hS ?_
 refine y1 8 (some 26) (.bool true) rfl (fun X hX=>Gb rfl rfl rfl hd) hS ?_
 refine dn ?_
 try simp only[nn]
 have SE:=Ab hS
 go_wp2
 go_ret2
 exact⟨rfl,HP.To.end H (Aa SE) rfl⟩
theorem Kl (h:HP) (j:Nat) (q:OB) (w:World) (H:h.Is w) (K:h.Ok) (hj:h.l[j]? =some q) (hf:h.fuel≠0) (hd:h.ent≠h.depth):Calls prog 94 #[.pointer (some ⟨h.b,0,none⟩), .int .i64 ((j:Int)+1)] w fun e w'=>e= .returned (.tuple #[Zi, .int .i64 0])/\h.To h.inn w w':=by
 have hF:0<=h.fuel/\h.fuel<=9223372036854775807:=⟨K.f0,K.f1⟩
 have hE:0<=h.ent/\h.ent<=100000000:=⟨K.e0,by have:=K.e1;have:=K.d1;omega⟩
 have hl:=K.len
 have SS:=Ab H.start
 go_enter func94,ntmps94
 go_wp2_with (first|go_skip|((with_reducible show wpList ..);first|(refine rd rfl (Ad 3 isAgg3 rfl rfl (((Aa SS).hp 0 rfl).blk) rfl) ?_)|(refine rd rfl (Ju rfl rfl rfl hf) ?_)|(refine rd rfl (Zfy h rfl rfl rfl hF) ?_)|((refine stH (vs:= [.int .i64 (h.fuel - 1)]) (h.less) 0 3 (by rfl) rfl rfl rfl rfl (by simp[Value.oneCell']) sz_i (Aa SS) rfl (by simp) rfl rfl rfl (by simp[Bo,hcs,HP.less,HP.inn,HP.out]) ?_);intro X1 S1;replace SS:=Ab S1;clear S1;simp only[nn])))
 have hS:Sy w _ h.blocks [hpO h.less]:=(Aa SS).drew
 refine wp_region_held_drew (P:=prog) (S:=fun X=>Sy w X h.blocks [hpO h.less]) (by kernel_rfl) hS (fun hS0=> ?_)
 refine y0 0 (some 18) (.pointer (some ⟨h.b,0,none⟩)) rfl hS ?_
 refine y0 1 (some 19) (.pointer (some ⟨h.b,0,none⟩)) rfl hS ?_
 refine y0 2 (some 20) (.pointer (some ⟨h.b,4,none⟩)) rfl hS ?_
 refine y1 3 (some 21) (.int .i64 h.ent) rfl (fun X hX=>Ad 3 isAgg3 rfl rfl ((Sy.hp hX 0 rfl).blk) rfl) hS ?_
 refine y0 4 (some 22) (.pointer (some ⟨h.b,0,none⟩)) rfl hS ?_
 refine y0 5 (some 23) (.pointer (some ⟨h.b,0,none⟩)) rfl hS ?_
 refine y0 6 (some 24) (.pointer (some ⟨h.b,3,none⟩)) rfl hS ?_
 refine y1 7 (some 25) (.int .i64 h.depth) rfl (fun X hX=>Ad 3 isAgg3 rfl rfl ((Sy.hp hX 0 rfl).blk) rfl) hS ?_
 refine y1 8 (some 26) (.bool false) rfl (fun X hX=>Ju rfl rfl rfl hd) hS ?_
 refine dn ?_
 try simp only[nn]
 replace SS:=Ab hS
 go_wp2_with (first|go_skip|((with_reducible show wpList ..);first|(refine rd rfl (Ad 3 isAgg3 rfl rfl (((Aa SS).hp 0 rfl).blk) rfl) ?_)|(refine rd rfl (ex_addE h rfl rfl rfl hE) ?_)|((refine stH (h:=h.less) (vs:= [.int .i64 (h.ent+1)]) (h.inn) 0 3 (by rfl) rfl rfl rfl rfl (by simp[Value.oneCell']) sz_i (Aa SS) rfl (by simp) rfl rfl rfl (by simp[Bo,hcs,HP.less,HP.inn,HP.out]) ?_);intro X2 S2;replace SS:=Ab S2;clear S2;simp only[nn])))
 have HI:=(Aa SS).hp 0 rfl
 refine(Jq h.inn j q _ HI hj hl).mono ?_
 rintro _ _ ⟨rfl,rfl⟩
 have HO:=Ab (HI.ob (j:=j) (o:=q) hj).1
 go_wp2_with (first|go_skip|((with_reducible show wpList ..);first|(refine rd rfl (Ad 153 isAgg153 rfl rfl (Aa HO) rfl) ?_)))
 go_ret2
 exact⟨rfl,HP.To.end H (Aa SS) rfl⟩
theorem Ki (h:HP) (u:FrameMode) (w:World) (H:h.Is w) (hF:0<=h.ent/\h.ent<=100000001):CallsD prog 95 #[.pointer (some ⟨h.b,0,none⟩)] u w fun e u' w'=>u'=u/\(e= .returned (.tuple #[])/\h.To h.out w w'):=by
 have SS:=Ab H.start
 go_enter_d func95,ntmps95
 go_wp2_with (first|go_skip|((with_reducible show wpList ..);first|(refine rd rfl (Ad 3 isAgg3 rfl rfl (((Aa SS).hp 0 rfl).blk) rfl) ?_)|(refine rd rfl (ex_subE h rfl rfl rfl hF) ?_)|((refine stH (vs:= [.int .i64 (h.ent - 1)]) (h.out) 0 3 (by rfl) rfl rfl rfl rfl (by simp[Value.oneCell']) sz_i (Aa SS) rfl (by simp) rfl rfl rfl (by simp[Bo,hcs,HP.less,HP.inn,HP.out]) ?_);intro X1 S1;replace SS:=Ab S1;clear S1;simp only[nn])))
 go_end0
 exact⟨rfl,HP.To.end H (Aa SS) rfl⟩
