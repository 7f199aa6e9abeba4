import Derived.Test.YthcmamjpfigdfaaGreatDoorQv
set_option linter.all false
namespace Go.Proofs.YthcmamjpfigdfaaGreatDoor
set_option maxRecDepth 100000
set_option maxHeartbeats 0
section
open Go Go.Proofs Go.RowKit
def kd (k:KK):Int:=Zbj k.s k.n
def kn (k:KK):Nat:=Zcm k.s k.n
def ixs (l:List KK):List Nat:=(l.filter (fun k=>kd k==0)).map kn
def Oe (l:List KK):List KK:=l.filter (fun k=>kd k==1)
def Od (l:List KK):List KK:=l.filter (fun k=>kd k==2)
theorem ZfU (l:List KK) (j:Nat) (h:j<l.length):l.take (j+1)=l.take j++ [l[j]]:=List.take_succ_eq_append_getElem h
theorem Zfl (l:List KK):(ixs l).length<=l.length:=by unfold ixs;rw[List.length_map];exact List.length_filter_le _ _
theorem ZcX (l:List KK):(Oe l).length<=l.length:=List.length_filter_le _ _
theorem ZcW (l:List KK):(Od l).length<=l.length:=List.length_filter_le _ _
theorem step_0 (l:List KK) (k:KK) (h:kd k=0):ixs (l++ [k])=ixs l++ [kn k]/\Oe (l++ [k])=Oe l/\Od (l++ [k])=Od l:=by
 unfold ixs Oe Od
 simp[List.filter_append,h]
theorem step_1 (l:List KK) (k:KK) (h:kd k=1):ixs (l++ [k])=ixs l/\Oe (l++ [k])=Oe l++ [k]/\Od (l++ [k])=Od l:=by
 unfold ixs Oe Od
 simp[List.filter_append,h]
theorem step_2 (l:List KK) (k:KK) (h:kd k=2):ixs (l++ [k])=ixs l/\Oe (l++ [k])=Oe l/\Od (l++ [k])=Od l++ [k]:=by
 unfold ixs Oe Od
 simp[List.filter_append,h]
theorem My {w:World} {base:Nat} {v:Value} {l:List KK} (h:OwnK w base v l): ∀c,v= .slice none 0 c->c=0:=by
 intro c hc
 rcases h.form with ⟨rfl,_⟩|⟨g,c',rfl,_⟩
 ·cases hc;rfl
 ·cases hc
def G3 (w W:World) (v3 v4 v5:Value) (l:List KK):Prop:=R3 w W v3 v4 v5 (ixs l) (Oe l) (Od l)
def mg (d:List Nat):List Nat:=d.mergeSort (fun x y=> !ltN y x)
theorem mg_len (d:List Nat):(mg d).length=d.length:=List.length_mergeSort d
theorem ZcY (v:Value) (d:List Nat) (base:Nat) (w:World) (h:OwnU w base v d) (hlen:d.length<=1500000):
  Calls Tryz.prog 227 #[v] w fun e w'=>e= .returned (.tuple #[])/\w.grownBy w' v.ownBlock/\(∀g,v.ownBlock=some g-> ∃c,v= .slice (some ⟨g,0,none⟩) d.length c/\LiesU w' g (mg d).toArray)/\(v.ownBlock=none->v= .slice none 0 0/\d= []):=by
 rcases h.2 with ⟨rfl,h0⟩|⟨g,c,cur,rfl,h1,h2,h3,h4,h5,h6⟩
 ·have hd:d= []:=List.length_eq_zero_iff.1 h0
  exact(ZdY w).mono (fun e w' hh=>⟨hh.1,hh.2,(fun g hg=>by cases hg),fun _=>⟨rfl,hd⟩⟩)
 ·have hL:LiesU w g d.toArray:=by
   refine⟨(cur.toList.drop d.length).toArray, ?_⟩
   rw[h2]
   congr 2
   apply Array.toList_inj.1
   simp only[Array.toList_append,Array.toList_map]
   rw[←h6,Nat.mul_one]
   exact(List.take_append_drop _ _).symm
  have hs:=sort31 g c d.toArray w hL (by simpa using hlen)
  rw[List.size_toArray] at hs
  refine hs.mono ?_
  rintro e w' ⟨rfl,d',hd',hl',hg'⟩
  refine⟨rfl,hg',fun g' hgg=> ?_,fun hn=>by cases hn⟩
  have eg:g=g':=by simpa [Value.ownBlock] using hgg
  subst eg
  refine⟨c,rfl, ?_⟩
  have:d'=(mg d).toArray:=Array.toList_inj.1 (by rw[hd'];rfl)
  rw[←this]
  exact hl'
theorem Zfi {ops:Array Oper} {rest:List Oper} {o:Oper} {a:Act} {w:World} {Q:Exit->Act->World->Prop} {x:Operand} {c base:Nat} (hw:Region.wanted o (yielded ops a.tmps)=true) (ho:o.op= .makeSlice 48 (.const (.int .i64 0)) x) (hx:a.eval x= .int .i64 (c:Nat)) (hc:c<=1500000) (hb:base<=w.heap.size)
  (h: ∀X B,w.heap.size<=B->OwnK X base (.slice (some ⟨B,0,none⟩) 0 c) []->w.grownBy X none->wpList Tryz.prog ops Q rest (a.put o.dst (.slice (some ⟨B,0,none⟩) 0 c)) X):wpList Tryz.prog ops Q (o::rest) a w:=by
 refine BigFrame.wpList_want hw fun K hK=> ?_
 obtain⟨i0,hi,hz0,hz1,hz2⟩:=info_parts Rd
 obtain⟨w',hrun,h1,h2⟩:=run_makeSlice_owned w base 48 37 i0 _ 2 Tryz.underlying48 hi hz0 hz1 .i64 .i64 c (by omega) (by rw[hz2];omega) (by unfold maxLen;omega) hb
 have hP:=hK _ _ (h w' _ (Nat.le_refl _) h1 h2)
 unfold Oper.wp execOp
 simp only[ho,hx]
 simp[Act.eval,hrun]
 exact hP
structure R4 (w W:World) (v4 v5 v10:Value) (ks ys out:List KK) (gb:Option Nat) (ob:Option Obj):Prop where
 below:Below w.heap.size w W
 o4:OwnK W w.heap.size v4 ks
 o5:OwnK W w.heap.size v5 ys
 o10:OwnK W w.heap.size v10 out
 a45:Apart v4 v5
 a104:Apart v10 v4
 a105:Apart v10 v5
 idx: ∀g,gb=some g->g<W.heap.size/\W.heap[g]? =ob/\v10.ownBlock≠some g
section
variable {w W W':World} {v4 v5 v10 v':Value} {ks ys out:List KK} {gb:Option Nat} {ob:Option Obj}
theorem R4.on (h:R4 w W v4 v5 v10 ks ys out gb ob) (hb:Below W.heap.size W W'):R4 w W' v4 v5 v10 ks ys out gb ob:=
 ⟨h.below.trans (hb.mono h.below.size),h.o4.on hb,h.o5.on hb,h.o10.on hb,h.a45,h.a104,h.a105,fun g hg=>⟨Nat.lt_of_lt_of_le (h.idx g hg).1 hb.size,(hb.block g (h.idx g hg).1).trans (h.idx g hg).2.1,(h.idx g hg).2.2⟩⟩
theorem R4.put {n:List KK} (h:R4 w W v4 v5 v10 ks ys out gb ob) (ho:OwnK W' w.heap.size v' (out++n)) (hg:W.grownBy W' v10.ownBlock) (hf:Kz W v10 v'):R4 w W' v4 v5 v' ks ys (out++n) gb ob:=
 ⟨h.below.grown hg h.below.size (fun k hk=>(h.o10.own k hk).1),h.o4.block (fun g hg'=>hg.block g (h.o4.own g hg').2 (fun e=>h.a104 g e.symm hg')),h.o5.block (fun g hg'=>hg.block g (h.o5.own g hg').2 (fun e=>h.a105 g e.symm hg')),ho,
  h.a45,h.a104.fresh hf (fun g hg=>(h.o4.own g hg).2),h.a105.fresh hf (fun g hg=>(h.o5.own g hg).2),fun g hgb=>⟨Nat.lt_of_lt_of_le (h.idx g hgb).1 hg.size,(hg.block g (h.idx g hgb).1 (fun e=>(h.idx g hgb).2.2 e.symm)).trans (h.idx g hgb).2.1,fun he=>by
   rcases hf with e|e
   ·exact(h.idx g hgb).2.2 (e▸he)
   ·rw[e] at he
    have h2:W.heap.size=g:=by simpa using he
    have:=(h.idx g hgb).1
    omega⟩⟩
end
theorem R3.sorted {w W W' X:World} {v3 v4 v5:Value} {d:List Nat} {ks ys:List KK} {B c:Nat} (h:R3 w W v3 v4 v5 d ks ys) (hg:W.grownBy W' v3.ownBlock) (hB:W'.heap.size<=B) (ho:OwnK X w.heap.size (.slice (some ⟨B,0,none⟩) 0 c) []) (hX:W'.grownBy X none):
  R4 w X v4 v5 (.slice (some ⟨B,0,none⟩) 0 c) ks ys [] v3.ownBlock (v3.ownBlock.bind fun g=>W'.heap[g]?):=by
 have hs:=hg.size
 refine⟨(h.below.grown hg h.below.size (fun k hk=>(h.o3.own k hk).1)).grown hX (Nat.le_trans h.below.size hs) (fun k hk=>by cases hk), ?_, ?_,ho,h.a45, ?_, ?_, ?_⟩
 ·refine h.o4.block (fun g hg'=> ?_)
  have hl:=(h.o4.own g hg').2
  rw[hX.block g (by omega) (by simp),hg.block g hl (fun e=>h.a34 g e.symm hg')]
 ·refine h.o5.block (fun g hg'=> ?_)
  have hl:=(h.o5.own g hg').2
  rw[hX.block g (by omega) (by simp),hg.block g hl (fun e=>h.a35 g e.symm hg')]
 ·intro g h1 h2
  have e:B=g:=by simpa [Value.ownBlock] using h1
  have:=(h.o4.own g h2).2
  omega
 ·intro g h1 h2
  have e:B=g:=by simpa [Value.ownBlock] using h1
  have:=(h.o5.own g h2).2
  omega
 ·intro g hgb
  have hl:=(h.o3.own g hgb).2
  refine⟨Nat.lt_of_lt_of_le (Nat.lt_of_lt_of_le hl hs) hX.size, ?_, ?_⟩
  ·rw[hX.block g (by omega) (by simp),hgb]
   rfl
  ·intro he
   have e:B=g:=by simpa [Value.ownBlock] using he
   omega
theorem mg_le (l:List KK): ∀u∈mg (ixs l),u<=4294967295:=by
 intro u hu
 unfold mg at hu
 rw[List.mem_mergeSort] at hu
 unfold ixs at hu
 obtain⟨k,_,rfl⟩:=List.mem_map.1 hu
 have:=kn_le k.s k.n
 unfold kn
 omega
theorem LiesU.blk {w w':World} {g:Nat} {d:Array Nat} {ob:Option Obj} (h:LiesU w g d) (he:w'.heap[g]? =ob) (h2:ob=w.heap[g]?):LiesU w' g d:=by
 obtain⟨r,hr⟩:=h
 exact⟨r,by rw[he,h2,hr]⟩
