import Derived.Test.YthcmamjpfigdfaaGreatDoorQk
import Derived.Test.YthcmamjpfigdfaaGreatDoorQl
import Derived.Deep.MidRow
import Derived.BigFrame
import Derived.Laws.AppendOwnNone
import Derived.OwnWalk
import Derived.Great.BuildSlice
import Derived.RangeFuncRecord
set_option linter.all false
namespace Go.Proofs.YthcmamjpfigdfaaGreatDoor
set_option maxRecDepth 100000
set_option maxHeartbeats 0
section
open Go Go.Proofs Go.RowKit
theorem two2 {w w1:World} {c0 c1 d0 d1:Value} {t u:TypeId} (hb:Below ((w.alloc (Obj.cells #[c0,c1] t)).alloc (Obj.cells #[d0,d1] u)).drew.heap.size ((w.alloc (Obj.cells #[c0,c1] t)).alloc (Obj.cells #[d0,d1] u)).drew w1):
  w1.cell? ⟨w.heap.size,1,none⟩=some c1/\w1.cell? ⟨w.heap.size+1,0,none⟩=some d0/\w1.cell? ⟨w.heap.size+1,1,none⟩=some d1/\w1.frozen? ⟨w.heap.size+1,0,none⟩=false/\w1.frozen? ⟨w.heap.size+1,1,none⟩=false/\
  Below w.heap.size w w1/\w1.heap[w.heap.size+1]? =some (Obj.cells #[d0,d1] u):=by
 have h1:=hb.cell (p:=⟨w.heap.size,1,none⟩) (by simp;omega)
 have h2:=hb.cell (p:=⟨w.heap.size+1,0,none⟩) (by simp)
 have h3:=hb.cell (p:=⟨w.heap.size+1,1,none⟩) (by simp)
 have h4:=hb.frozen (p:=⟨w.heap.size+1,0,none⟩) (by simp)
 have h5:=hb.frozen (p:=⟨w.heap.size+1,1,none⟩) (by simp)
 have h6:=hb.block (w.heap.size+1) (by simp)
 simp[go_sem] at h1 h2 h3 h4 h5
 refine⟨h1,h2,h3,h4,h5,((Zcp w _ _).drew).trans (hb.mono (by simp;omega)), ?_⟩
 rw[h6]
 have e:=heap_alloc_new (w.alloc (Obj.cells #[c0,c1] t)) (Obj.cells #[d0,d1] u)
 rw[show (w.alloc (Obj.cells #[c0,c1] t)).heap.size=w.heap.size+1 by simp] at e
 exact e
theorem anew30 (s:ByteArray) (n:Int) (h:s.size<=1048576) (w:World):Calls Tryz.prog 226 #[Zbi s n] w fun e w'=>e= .returned (Zbi s n)/\Below w.heap.size w w':=by
 have HC:=Ab (fun w=>ZbM s w h)
 unfold Zbi
 go_enter Tryz.func226,Tryz.ntmps226
 go_wp2_with fail
 go_region_with (go_at_call 146;refine(Aa HC _).mono ?_;rintro e w1 ⟨rfl,hb⟩;obtain⟨c1,d0,d1,f0,f1,hB,hO⟩:=two2 hb;have HB:=Ab hB;have HO:=Ab hO;clear hb hB hO)
 all_goals
  have g0:((w1.setCell ⟨w.heap.size+1,0,none⟩ (.string s)).setCell ⟨w.heap.size+1,1,none⟩ (.int .i64 n)).cell? ⟨w.heap.size+1,0,none⟩=some (.string s):=by
   simp[World.cell?,World.setCell,Array.getElem?_modify,Aa HO]
  have g1:((w1.setCell ⟨w.heap.size+1,0,none⟩ (.string s)).setCell ⟨w.heap.size+1,1,none⟩ (.int .i64 n)).cell? ⟨w.heap.size+1,1,none⟩=some (.int .i64 n):=by
   simp[World.cell?,World.setCell,Array.getElem?_modify,Aa HO]
  have HG:=Ab (((Aa HB).setCell (p:=⟨w.heap.size+1,0,none⟩) (by simp) (.string s)).setCell (p:=⟨w.heap.size+1,1,none⟩) (by simp) (.int .i64 n))
  generalize (w1.setCell ⟨w.heap.size+1,0,none⟩ (.string s)).setCell ⟨w.heap.size+1,1,none⟩ (.int .i64 n)=W at *
  clear HB HO f0 f1 d0 d1 c1 HC
  go_wp2
  simp[bodyPost,results,Tryz.results226,go_sem,g0,g1]
  exact Aa HG
theorem Zgi {s:ByteArray} {n:Int} (h:(Rh s n).good=true):s.size<=1048576:=by
 unfold Rh at h
 by_cases hn:n=0
 ·rw[if_pos hn] at h
  rcases hf:ZaL s with _|_
  ·simp[VV.good,Ml,inG,hf] at h
  ·unfold ZaL at hf
   simp at hf
   exact hf.1
 ·rw[if_neg hn] at h
  have:s.toList.isEmpty=true:=by
   cases he:s.toList.isEmpty
   ·simp[VV.good,Ml,inG,Zbc,he] at h
   ·rfl
  rw[Nx this]
  decide
end
section
open Go Go.Proofs Go.RowKit Tryz
structure KK where
 s:ByteArray
 n:Int
def KK.agg (k:KK):Value:= .agg #[.string k.s, .int .i64 k.n]
def KK.cs (k:KK):List Value:= [.string k.s, .int .i64 k.n]
def KK.obj (k:KK):Obj:=Obj.cells #[.string k.s, .int .i64 k.n] 37
theorem KK.ext' {a b:KK} (h1:a.s=b.s) (h2:a.n=b.n):a=b:=by cases a;cases b;cases h1;cases h2;rfl
theorem ZfF (k:KK):Zbi k.s k.n=k.agg:=rfl
def Jg:KK:=⟨ByteArray.empty,0⟩
def KLies (W:World) (B:Nat) (k:KK):Prop:=(∀j,W.frozen? ⟨B,j,none⟩=false)/\W.cell? ⟨B,0,none⟩=some (.string k.s)/\W.cell? ⟨B,1,none⟩=some (.int .i64 k.n)
theorem KLies.new (w:World) (B:Nat) (hB:B=w.heap.size) (k:KK):KLies (w.alloc k.obj) B k:=by
 subst hB
 unfold KLies KK.obj
 simp[go_sem]
theorem KLies.block {W W1:World} {B:Nat} {k:KK} (h:KLies W B k) (he:W1.heap[B]? =W.heap[B]?):KLies W1 B k:=by
 have hc: ∀j,W1.cell? ⟨B,j,none⟩=W.cell? ⟨B,j,none⟩:=fun j=>World.cell?_of_block he
 have hf: ∀j,W1.frozen? ⟨B,j,none⟩=W.frozen? ⟨B,j,none⟩:=fun j=>World.frozen?_of_block he
 unfold KLies at *
 simp only[hc,hf]
 exact h
theorem KLies.range {W:World} {B:Nat} {k:KK} (h:KLies W B k):W.rangeAt B 0 k.cs:=by
 intro j v hv
 obtain⟨-,h0,h1⟩:=h
 match j,hv with
 |0,hv=>exact(Option.some.inj hv)▸h0
 |1,hv=>exact(Option.some.inj hv)▸h1
 |_+2,hv=>exact absurd hv (by simp[KK.cs])
theorem KLies.there {W:World} {B:Nat} {k:KK} (h:KLies W B k):W.there B 0 2:=by
 obtain⟨f,h0,h1⟩:=h
 intro j hj
 match j,hj with
 |0,_=>exact⟨h0▸rfl,f _⟩
 |1,_=>exact⟨h1▸rfl,f _⟩
theorem Gj (b:Nat): ∀(vs:List Value) (o:Nat) (X:World) (g:Nat),g≠b->(X.setCells b o vs).heap[g]? =X.heap[g]?
 | [],_,_,_,_=>rfl
 |v::vs,o,X,g,h=>by
  rw[World.setCells,Gj b vs _ _ g h]
  simp[World.setCell,Array.getElem?_modify,Ne.symm h]
theorem Eu {b:Nat}: ∀(vs:List Value) (o:Nat) (W:World),(W.setCells b o vs).heap.size=W.heap.size
 | [],_,_=>rfl
 |v::vs,o,W=>by
  rw[World.setCells,Eu vs]
  simp[World.setCell]
theorem Mp {w:World} {b:Nat} (hb:w.heap.size<=b): ∀(vs:List Value) (o:Nat) (W:World),Below w.heap.size w W->Below w.heap.size w (W.setCells b o vs)
 | [],_,_,h=>h
 |v::vs,o,W,h=>Mp hb vs _ _ (h.setCell (by exact hb) _)
structure Kq (w X:World) (l:List (Nat×KK)):Prop where
 below:Below w.heap.size w X
 all: ∀q∈l,w.heap.size<=q.1/\q.1<X.heap.size/\KLies X q.1 q.2
theorem Kq.nil (w:World):Kq w w []:=⟨Below.refl _ _,fun q hq=>by cases hq⟩
theorem Kq.on {w X X1:World} {l:List (Nat×KK)} (h:Kq w X l) (hb:Below X.heap.size X X1):Kq w X1 l:=
 ⟨h.below.trans (hb.mono h.below.size),fun q hq=>⟨(h.all q hq).1,Nat.lt_of_lt_of_le (h.all q hq).2.1 hb.size,(h.all q hq).2.2.block (hb.block _ (h.all q hq).2.1)⟩⟩
theorem Kq.get {w X:World} {l:List (Nat×KK)} (h:Kq w X l) (i:Nat) {b:Nat} {k:KK} (hi:l[i]? =some (b,k)):KLies X b k:=(h.all _ (List.mem_of_getElem? hi)).2.2
theorem Kq.new {w X:World} {l:List (Nat×KK)} (h:Kq w X l) (k:KK):Kq w (X.alloc k.obj) (l++ [(X.heap.size,k)]):=by
 have hb:Below X.heap.size X (X.alloc k.obj):=(Below.refl _ _).alloc (Nat.le_refl _) _
 refine⟨(h.on hb).below,fun q hq=> ?_⟩
 rcases List.mem_append.1 hq with hq|hq
 ·exact(h.on hb).all q hq
 ·obtain rfl:q=(X.heap.size,k):=by simpa using hq
  exact⟨h.below.size,by simp,KLies.new X _ rfl k⟩
theorem KLies.setK {W:World} {B:Nat} {k u:KK} (h:KLies W B k):KLies (W.setCells B 0 u.cs) B u:=by
 obtain⟨f,h0,h1⟩:=h
 refine⟨fun j=> ?_, ?_, ?_⟩
 ·simp[KK.cs,World.setCells,go_sem,f]
 ·simp[KK.cs,World.setCells,go_sem,h0,h1]
 ·simp[KK.cs,World.setCells,go_sem,h0,h1]
theorem Zct:(prog.info? 37).map (·.size)=some 2:=by kernel_rfl
theorem Zcq: ∃d,prog.underlying 37=some d/\d.isRow=true:=⟨_,underlying37,rfl⟩
section
variable {ops:Array Oper} {rest:List Oper} {o:Oper} {a:Act} {w w0:World} {Q:Exit->Act->World->Prop} {l:List (Nat×KK)} {x y:Operand} {b:Nat} {d u:KK}
theorem Rz (hw:Region.wanted o (yielded ops a.tmps)=true) (ho:o.op= .load 37 x) (hx:a.eval x= .pointer (some ⟨b,0,none⟩)) (hc:KLies w b d) (h:wpList prog ops Q rest (a.put o.dst d.agg) w):wpList prog ops Q (o::rest) a w:=by
 obtain⟨t,hu,hd⟩:=Zcq
 refine BigFrame.wpList_want hw fun K hK=> ?_
 exact wp_load_mid 37 x ho b 0 hx _ t hc.range hu hd Zct (hK _ _ h)
theorem Nt (hw:Region.wanted o (yielded ops a.tmps)=true) (ho:o.op= .alloc 37) (hL:Kq w0 w l)
  (h: ∀X,Kq w0 X (l++ [(w.heap.size,Jg)])->Below w.heap.size w X->wpList prog ops Q rest (a.put o.dst (.pointer (some ⟨w.heap.size,0,none⟩))) X):wpList prog ops Q (o::rest) a w:=by
 refine BigFrame.wpList_want hw fun K hK=> ?_
 have hP:=hK _ _ (h _ (hL.new Jg) ((Below.refl _ _).alloc (Nat.le_refl _) _))
 unfold Oper.wp execOp
 simp only[ho]
 simp[go_sem,Tryz.zeroValue37]
 exact hP
theorem Ns {m:List (Nat×KK)} (hw:Region.wanted o (yielded ops a.tmps)=true) (ho:o.op= .store 37 x y) (hL:Kq w0 w m) (hx:a.eval x= .pointer (some ⟨b,0,none⟩)) (hy:a.eval y=u.agg) (hm:m=l++ [(b,d)]) (hne: ∀q∈l,q.1≠b)
  (h: ∀X,Kq w0 X (l++ [(b,u)])->(∀g,g≠b->X.heap[g]? =w.heap[g]?)->X.heap.size=w.heap.size->wpList prog ops Q rest (a.put o.dst undef) X):wpList prog ops Q (o::rest) a w:=by
 subst hm
 refine BigFrame.wpList_want hw fun K hK=> ?_
 have hb:=hL.all (b,d) (by simp)
 refine wp_store_mid 37 x y ho _ 0 u.cs.toArray hx hy (KLies.there hb.2.2) Zct (by simp[KK.cs,Value.oneCell']) (hK _ _ (h _ ?_ (fun g hg=>Gj _ _ _ _ _ hg) (Eu _ _ _)))
 refine⟨Mp hb.1 _ _ _ hL.below,fun q hq=> ?_⟩
 rw[Eu]
 rcases List.mem_append.1 hq with hq|hq
 ·have hq0:=hL.all q (List.mem_append_left _ hq)
  exact⟨hq0.1,hq0.2.1,hq0.2.2.block (Gj _ _ _ _ _ (hne q hq))⟩
 ·obtain rfl:q=(b,u):=by simpa using hq
  exact⟨hb.1,hb.2.1,KLies.setK hb.2.2⟩
end
def Gm (l:List KK):List Value:=l.flatMap KK.cs
theorem Vi (l m:List KK):Gm (l++m)=Gm l++Gm m:=by unfold Gm;rw[List.flatMap_append]
theorem Zgm (d:KK):Gm [d]=d.cs:=by simp[Gm]
theorem Mj (d:KK):d.cs.length=2:=rfl
theorem Ly: ∀l:List KK,(Gm l).length=l.length * 2
 | []=>rfl
 |v::l=>by
  have:Gm (v::l)=v.cs++Gm l:=rfl
  rw[this,List.length_append,Ly l,List.length_cons,Mj]
  omega
theorem Xw: ∀(l:List KK) (j t:Nat) (hj:j<l.length),t<2->(Gm l)[j * 2+t]? =(l[j]).cs[t]?
 | [],j,t,hj,_=>by cases hj
 |v::l,0,t,_,ht=>by
  have:Gm (v::l)=v.cs++Gm l:=rfl
  rw[this,List.getElem?_append_left (by rw[Mj];omega)]
  simp
 |v::l,j+1,t,hj,ht=>by
  have:Gm (v::l)=v.cs++Gm l:=rfl
  rw[this,List.getElem?_append_right (by rw[Mj];omega)]
  have e:(j+1) * 2+t - v.cs.length=j * 2+t:=by rw[Mj];omega
  rw[e,Xw l j t (by simpa using hj) ht]
  simp
theorem ZaK: ∀(l:List KK),∀u∈Gm l,u.oneCell'=true
 | [],u,hu=>by cases hu
 |v::l,u,hu=>by
  have:Gm (v::l)=v.cs++Gm l:=rfl
  rw[this,List.mem_append] at hu
  rcases hu with hu|hu
  ·simp[KK.cs] at hu
   rcases hu with rfl|rfl<;>rfl
  ·exact ZaK l u hu
def RowsK (w:World) (b off:Nat) (l:List KK):Prop:= ∀j,(h:j<l.length)->w.rangeAt b (off+j * 2) l[j].cs
theorem RowsK.keep {w w':World} {b off:Nat} {l:List KK} (h:RowsK w b off l) (he:w'.heap[b]? =w.heap[b]?):RowsK w' b off l:=by
 intro j hj k v hv
 have:=h j hj k v hv
 rw[←this]
 exact World.cell?_of_block he
theorem Zbw {w:World} {b off:Nat} {l:List KK}:RowsK w b off l↔ ∀j u,(Gm l)[j]? =some u->w.cell? ⟨b,off+j,none⟩=some u:=by
 constructor
 ·intro h j u hu
  have hlt:j<(Gm l).length:=(List.getElem?_eq_some_iff.1 hu).1
  rw[Ly] at hlt
  have hd:j=j / 2 * 2+j % 2:=by omega
  have hm:j % 2<2:=Nat.mod_lt _ (by omega)
  have:=h (j / 2) (by omega) (j % 2) u
  rw[hd,Xw l (j / 2) (j % 2) (by omega) hm] at hu
  have h2:=this hu
  rw[Nat.add_assoc,←hd] at h2
  exact h2
 ·intro h j hj t u hu
  have ht:t<2:=by
   have:=(List.getElem?_eq_some_iff.1 hu).1
   rwa [Mj] at this
  rw[Nat.add_assoc]
  exact h _ u (by rw[Xw l j t hj ht];exact hu)
def Ym (w:World) (v:Value) (l:List KK):Prop:=(∃A c,v= .slice A 0 c/\l= [])∨ ∃b off cap,v= .slice (some ⟨b,off,none⟩) l.length cap/\b<w.heap.size/\RowsK w b off l
def OwnK (w:World) (base:Nat) (v:Value) (l:List KK):Prop:=w.ownsRow base 37 2 v l.length (Gm l)
theorem OwnK.nil (w:World) (base:Nat):OwnK w base (.slice none 0 0) []:=⟨rfl, .inl ⟨rfl,rfl⟩⟩
theorem OwnK.form {w:World} {base:Nat} {v:Value} {l:List KK} (h:OwnK w base v l):(v= .slice none 0 0/\l= [])∨ ∃g c,v= .slice (some ⟨g,0,none⟩) l.length c/\l.length<=c/\base<=g/\g<w.heap.size/\RowsK w g 0 l:=by
 rcases h.2 with ⟨rfl,h0⟩|⟨g,c,cur,rfl,h1,h2,h3,_,h5,h6⟩
 ·exact .inl ⟨rfl,List.length_eq_zero_iff.1 h0⟩
 ·refine .inr ⟨g,c,rfl,h3,h1,(Array.getElem?_eq_some_iff.1 h2).1,Zbw.2 ?_⟩
  intro j u hu
  have hlt:j<l.length * 2:=by
   have:=(List.getElem?_eq_some_iff.1 hu).1
   rwa [Ly] at this
  rw[←h6,List.getElem?_take_of_lt hlt] at hu
  rw[Nat.zero_add]
  simp[World.cell?,h2]
  simpa using hu
theorem OwnK.reads {w:World} {base:Nat} {v:Value} {l:List KK} (h:OwnK w base v l):Ym w v l:=by
 rcases h.form with ⟨rfl,rfl⟩|⟨g,c,rfl,_,_,h4,h5⟩
 ·exact .inl ⟨none,0,rfl,rfl⟩
 ·exact .inr ⟨g,0,c,rfl,h4,h5⟩
theorem OwnK.mono {w:World} {base base':Nat} {v:Value} {l:List KK} (h:OwnK w base v l) (hb:base'<=base):OwnK w base' v l:=
 ⟨h.1,h.2.imp id fun ⟨g,cap,cur,h1,h2,h3⟩=>⟨g,cap,cur,h1,Nat.le_trans hb h2,h3⟩⟩
theorem OwnK.own {w:World} {base:Nat} {v:Value} {l:List KK} (h:OwnK w base v l): ∀g,v.ownBlock=some g->base<=g/\g<w.heap.size:=by
 intro g hg
 rcases h.form with ⟨rfl,_⟩|⟨g',c,rfl,_,h3,h4,_⟩
 ·simp[Value.ownBlock] at hg
 ·have e:g'=g:=by simpa [Value.ownBlock] using hg
  subst e
  exact⟨h3,h4⟩
theorem OwnK.block {w w':World} {base:Nat} {v:Value} {l:List KK} (h:OwnK w base v l) (he: ∀g,v.ownBlock=some g->w'.heap[g]? =w.heap[g]?):OwnK w' base v l:=by
 refine⟨h.1, ?_⟩
 rcases h.2 with h|⟨g',c',cur,rfl,h1,h2,h3⟩
 ·exact .inl h
 ·exact .inr ⟨_,c',cur,rfl,h1,(he g' rfl).trans h2,h3⟩
theorem OwnK.on {w w':World} {base:Nat} {v:Value} {l:List KK} (h:OwnK w base v l) (hb:Below w.heap.size w w'):OwnK w' base v l:=h.block (fun g hg=>hb.block g (h.own g hg).2)
theorem Rd:(prog.info? 37).map (fun i=>(i.zero,i.size,i.bytes))=some (some Jg.agg,2,24):=by kernel_rfl
section
variable {ops:Array Oper} {rest:List Oper} {o:Oper} {a:Act} {w:World} {Q:Exit->Act->World->Prop} {s x:Operand} {base:Nat} {l m:List KK} {v u:Value}
theorem ZfH {K:Act->World->Prop} {d:KK} (ho:o.op= .buildSlice 48 1 #[(0,x)]) (hx:a.eval x=d.agg) (h:K (a.put o.dst (.slice (some ⟨w.heap.size,0,none⟩) 1 1)) (w.alloc d.obj)):o.wp prog a w K Q:=by
 obtain⟨i0,hi,hz0,hz1,hz2⟩:=info_parts Rd
 refine wp_buildSlice 48 37 1 _ ho #[.string d.s, .int .i64 d.n] i0 _ underlying48 hi hz0 (by rw[hz1];decide) (by rw[hz1];decide) ?_ h
 rw[hz1]
 simp only[List.map_toArray,List.map_cons,List.map_nil,hx]
 kernel_rfl
theorem Zco {d:KK} (hw:Region.wanted o (yielded ops a.tmps)=true) (ho:o.op= .buildSlice 48 1 #[(0,x)]) (hx:a.eval x=d.agg)
  (h: ∀X,Ym X (.slice (some ⟨w.heap.size,0,none⟩) 1 1) [d]->X.heap.size=w.heap.size+1->Below w.heap.size w X->wpList prog ops Q rest (a.put o.dst (.slice (some ⟨w.heap.size,0,none⟩) 1 1)) X):wpList prog ops Q (o::rest) a w:=by
 refine BigFrame.wpList_want hw fun K hK=> ?_
 refine ZfH ho hx (hK _ _ (h _ ?_ (by simp) ((Below.refl _ _).alloc (Nat.le_refl _) _)))
 refine .inr ⟨w.heap.size,0,1,rfl,by simp,fun j hj=> ?_⟩
 obtain rfl:j=0:=by simpa using hj
 exact KLies.range (KLies.new w _ rfl d)
end
section
variable {md:Region.Mode} {ops:Array Oper} {Q:Exit->Act->World->Prop} {S:World->Prop} {w:World} {fuel:Nat} {listed:Array Bool} {a:Act} {o:Oper}
theorem index24 (b off n cap j:Nat) (hj:j<n) (w:World):(Instr.indexAt 48 (.slice (some ⟨b,off,none⟩) n cap) (.int .i64 j)).run prog w= .ok (.pointer (some ⟨b,off+j * 2,none⟩)) w:=by
 rw[run_indexAt_slice (h:=by kernel_rfl),if_pos ⟨by omega,by omega⟩]
 have e:(sizeOf (prog.elem 48)).run prog w= .ok 2 w:=by kernel_rfl
 rw[e]
 have e2:(Addr.add ⟨b,off,none⟩ ((j:Int).toNat * 2))=⟨b,off+j * 2,none⟩:=by
  unfold Addr.add
  by_cases h:j=0
  ·subst h;simp
  ·have h2: ¬j * 2=0:=by omega
   simp[h2]
 show Result.ok (Value.pointer (some (Addr.add ⟨b,off,none⟩ ((j:Int).toNat * 2)))) w=_
 rw[e2]
end
section
variable {ops:Array Oper} {rest:List Oper} {o:Oper} {a:Act} {w:World} {Q:Exit->Act->World->Prop} {x ix:Operand} {b off n cap j p:Nat} {d:KK}
theorem ZaA (hw:Region.wanted o (yielded ops a.tmps)=true) (ho:o.op= .indexAddr 48 x ix) (hx:a.eval x= .slice (some ⟨b,off,none⟩) n cap) (hix:a.eval ix= .int .i64 (j:Nat)) (hj:j<n) (h:wpList prog ops Q rest (a.put o.dst (.pointer (some ⟨b,off+j * 2,none⟩))) w):wpList prog ops Q (o::rest) a w:=by
 refine BigFrame.wpList_want hw fun K hK=> ?_
 unfold Oper.wp execOp
 simp only[ho,hx,hix]
 simp[index24 b off n cap j hj w]
 exact hK _ _ h
theorem Zdn (hw:Region.wanted o (yielded ops a.tmps)=true) (ho:o.op= .load 37 x) (hx:a.eval x= .pointer (some ⟨b,p,none⟩)) (hc:w.rangeAt b p d.cs) (h:wpList prog ops Q rest (a.put o.dst d.agg) w):wpList prog ops Q (o::rest) a w:=by
 obtain⟨t,hu,hd⟩:=Zcq
 refine BigFrame.wpList_want hw fun K hK=> ?_
 exact wp_load_mid 37 x ho b p hx _ t hc hu hd Zct (hK _ _ h)
end
end
section
open Go Go.Proofs Go.Maps Go.RowKit Tryz
def ptrR:Value->Option (DataW Unit×List MemPlace)
 | .pointer none=>some (.nil, [])
 | .pointer (some ⟨b,0,none⟩)=>some (.lit (.int .i64 (b:Nat)), [])
 |_=>none
def pv:Option Nat->Value
 |none=> .pointer none
 |some b=> .pointer (some ⟨b,0,none⟩)
def pd:Option Nat->DataW Unit
 |none=> .nil
 |some b=> .lit (.int .i64 (b:Nat))
theorem Ze5 (o:Option Nat):ptrR (pv o)=some (pd o, []):=by cases o<;>rfl
theorem pd_inj {o o':Option Nat} (h:pd o=pd o'):o=o':=by
 cases o<;>cases o'<;>simp[pd] at h ⊢
 omega
theorem ptrR_inv {v:Value} {o:Option Nat} {ps:List MemPlace} (h:ptrR v=some (pd o,ps)):v=pv o:=by
 unfold ptrR at h
 split at h
 ·have e:=congrArg Prod.fst (Option.some.inj h)
  rw[←pd_inj (o:=none) (o':=o) e];rfl
 ·rename_i b
  have e:=congrArg Prod.fst (Option.some.inj h)
  rw[←pd_inj (o:=some b) (o':=o) e];rfl
 ·cases h
def OkK (k:KK):Prop:=k.s.size<=maxLen/\(Lit.int .i64 k.n).wf=true
def kl (k:KK):Lit:=Zaz k.s k.n
theorem Zen {k:KK} (h:OkK k):keyOf prog 37 k.agg=some (kl k):=Zn k.s k.n h.1 h.2
theorem kl_inj {k k':KK} (h:OkK k) (h':OkK k') (e:kl k=kl k'):k=k':=by
 obtain⟨h1,h2⟩:=klit_inj h.1 h.2 h'.1 h'.2 e
 exact KK.ext' h1 h2
theorem kl_key {k:KK} (h:OkK k):WideAt.IsKeyLit (kl k):=klit_key h.1 h.2
def MapIs (w:World) (b n sz:Nat) (F:KK->Option Nat):Prop:=
 ∃D:DataW Unit,w.ownsMap prog 37 ptrR b n D/\Maps.size D=sz/\ ∀k,OkK k->D.atKey (kl k) .nil=pd (F k)/\Maps.has D (kl k)=(F k).isSome
theorem MapIs.made (w:World):MapIs (w.alloc (.map #[] 0)) w.heap.size 0 0 (fun _=>none):=
 ⟨_,World.ownsMap_made w _ _ _,rfl,fun k _=>⟨rfl,rfl⟩⟩
theorem MapIs.lt {w:World} {b n sz:Nat} {F:KK->Option Nat} (h:MapIs w b n sz F):b<w.heap.size:=by
 obtain⟨D,h, -⟩:=h
 exact h.lt
theorem MapIs.block {w w':World} {b n sz:Nat} {F:KK->Option Nat} (h:MapIs w b n sz F) (he:w'.heap[b]? =w.heap[b]?):MapIs w' b n sz F:=by
 obtain⟨D,⟨es,clock,hb,Ft,hs,hD⟩,h2,h3⟩:=h
 exact⟨D,⟨es,clock,he.trans hb,Ft,hs,hD⟩,h2,h3⟩
theorem MapIs.mono {w:World} {b n n' sz:Nat} {F:KK->Option Nat} (h:MapIs w b n sz F) (hn:n<=n'):MapIs w b n' sz F:=by
 obtain⟨D,h,h2⟩:=h
 exact⟨D,h.mono hn,h2⟩
theorem zero74 (w:World):(zeroValue 203).run prog w= .ok (.pointer none) w:=by kernel_rfl
theorem MapIs.look {w:World} {b n sz:Nat} {F:KK->Option Nat} (h:MapIs w b n sz F) {k:KK} (hk:OkK k):
  (Instr.lookup 190 (.map (some b)) k.agg true).run prog w= .ok (.tuple #[pv (F k), .bool (F k).isSome]) w:=by
 obtain⟨D,h,h2,h3⟩:=h
 obtain⟨v,ps,hrun,hv⟩:=h.look_ok Zay underlying190 (zero74 w) (Ze5 none) (Zen hk)
 obtain⟨h4,h5⟩:=h3 k hk
 have hv':ptrR v=some (pd (F k),ps):=by rw[←h4];exact hv
 rw[hrun,h5,ptrR_inv hv']
theorem MapIs.len {w:World} {b n sz:Nat} {F:KK->Option Nat} (h:MapIs w b n sz F) (ty:TypeId):(Builtin.len_ #[190] ty #[.map (some b)]).run prog w= .ok (.int .i64 sz) w:=by
 obtain⟨D,h,h2,h3⟩:=h
 rw[h.len underlying190 ty,h2]
def Rg (F:KK->Option Nat) (k:KK) (r:Option Nat):KK->Option Nat:=fun q=>if q.s=k.s/\q.n=k.n then r else F q
theorem No (F:KK->Option Nat) (k:KK) (r:Option Nat):Rg F k r k=r:=by simp[Rg]
theorem Mg {F:KK->Option Nat} {k q:KK} (h:q≠k) (r:Option Nat):Rg F k r q=F q:=by
 unfold Rg
 rw[if_neg (fun e=>h (KK.ext' e.1 e.2))]
theorem MapIs.store {w:World} {b n sz:Nat} {F:KK->Option Nat} (h:MapIs w b n sz F) {k:KK} (hk:OkK k) (hn:n<maxLen) (r:Nat):
  ∃w',(Instr.mapUpdate 190 (.map (some b)) k.agg (pv (some r))).run prog w= .ok () w'/\MapIs w' b (n+1) (if (F k).isSome then sz else sz+1) (Rg F k (some r))/\w.mapTurned w' b:=by
 obtain⟨D,h,h2,h3⟩:=h
 obtain⟨w',hrun,ho,ht⟩:=h.store Zay underlying190 hn (Zen hk) (Ze5 (some r))
 have ti:=h.tidy Zay
 refine⟨w',hrun,⟨_,ho, ?_,fun q hq=> ?_⟩,ht⟩
 ·rw[size_put ti,(h3 k hk).2,h2]
 ·by_cases e:q=k
  ·subst e
   rw[atKey_put_same ti.isMap (kl_key hk),has_put_same ti.isMap (kl_key hk),No]
   exact⟨rfl,rfl⟩
  ·have ne:kl q≠kl k:=fun e'=>e (kl_inj hq hk e')
   rw[atKey_put_other ne,has_put_other ne,Mg e]
   exact h3 q hq
theorem MapIs.drop {w:World} {b n sz:Nat} {F:KK->Option Nat} (h:MapIs w b n sz F) {k:KK} (hk:OkK k) (ty:TypeId):
  ∃w',(Builtin.delete_ #[190,37] ty #[.map (some b),k.agg]).run prog w= .ok (.tuple #[]) w'/\MapIs w' b n (if (F k).isSome then sz - 1 else sz) (Rg F k none)/\w.mapTurned w' b:=by
 obtain⟨D,h,h2,h3⟩:=h
 obtain⟨w',hrun,ho,ht⟩:=h.drop Zay underlying190 (Zen hk) ty
 have ti:=h.tidy Zay
 have hs:=size_del (k:=kl k) ti
 refine⟨w',hrun,⟨_,ho, ?_,fun q hq=> ?_⟩,ht⟩
 ·rw[(h3 k hk).2] at hs
  split at hs<;>rename_i hc<;>simp[hc]<;>omega
 ·by_cases e:q=k
  ·subst e
   rw[atKey_del_same,has_del_same,No]
   exact⟨rfl,rfl⟩
  ·have ne:kl q≠kl k:=fun e'=>e (kl_inj hq hk e')
   rw[atKey_del_other ne,has_del_other ne,Mg e]
   exact h3 q hq
