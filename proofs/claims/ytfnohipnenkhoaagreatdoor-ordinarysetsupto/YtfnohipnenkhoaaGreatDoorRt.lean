import Derived.Test.YtfnohipnenkhoaaGreatDoorRs
set_option linter.all false
namespace Go.Proofs.YtfnohipnenkhoaaGreatDoor
set_option maxRecDepth 100000
set_option maxHeartbeats 0
section
open Go Go.Proofs Go.Maps Go.RowKit FM
attribute [local go_sem] Am Al Ar Ah Ao Ai Aw Do Dn Bq Aj Bo
theorem Zcl {X:World} {base e s g n c q:Nat} {ys:List Value} {u:Value} (h:X.ownsRow base e s (.slice (some ⟨g,0,none⟩) n c) n ys) (hq:ys[q]? =some u):X.cell? ⟨g,q,none⟩=some u/\X.frozen? ⟨g,q,none⟩=false/\g<X.heap.size:=by
 have hlt:=(List.getElem?_eq_some_iff.1 hq).1
 rcases h.2 with ⟨h1,h0⟩|⟨g',cap,cur,h1,h2,h3,h4,h5,h6,h7⟩
 ·cases h1
 ·cases h1
  have hl:=h.1
  have h8:(cur.toList.take (n * s))[q]? =some u:=by rw[h7];exact hq
  rw[List.getElem?_take,if_pos (by omega)] at h8
  have e2:cur[q]? =some u:=by simpa using h8
  exact⟨by simp[World.cell?,h3,e2],by simp[World.frozen?,h3],(Array.getElem?_eq_some_iff.1 h3).1⟩
section
variable {ops : Array Oper} {rest : List Oper} {Q : Exit → Act → World → Prop} {w w0 : World} {a : Act} {o : Oper} {E : List Nat} {L : List Ob}
theorem stR {base e s n g c p:Nat} {ys:List Value} {v:Value} {x y:Operand} (i:Nat) (ty:TypeId) (hw:Region.wanted o (yielded ops a.tmps)=true) (ho:o.op= .store ty x y) (hx:a.eval x= .pointer (some ⟨g,p,none⟩)) (hy:a.eval y=v)
  (hv:v.cells.toList= [v]) (h1:v.oneCell'=true) (hi:(Tryz.prog.info? ty).map (·.size)=some 1) (hL:Sy w0 w E L) (hg:L[i]? =some (Eg base e s (.slice (some ⟨g,0,none⟩) n c) n ys)) (hp:p+1<=ys.length)
  (h: ∀X,Sy w0 X E (L.set i (Eg base e s (.slice (some ⟨g,0,none⟩) n c) n (Bw ys p [v])))->wpList Tryz.prog ops Q rest (a.put o.dst undef) X):wpList Tryz.prog ops Q (o::rest) a w:=by
 refine BigFrame.wpList_want hw fun K hK=> ?_
 have hP:=hK _ _ (h _ (hL.cell i (vs:= [v]) hg hp))
 have ht:w.there g p [v].length:=fun j hj=>by
  obtain rfl:j=0:=by simpa using hj
  have:=Zcl (hL.get i hg) (List.getElem?_eq_getElem (show p+0<ys.length by omega))
  exact⟨by rw[this.1];rfl,this.2.1⟩
 unfold Oper.wp execOp
 simp only[ho,hx,hy,Instr.storeAt,Instr.sureAddr,Sem.run_bind,Sem.run_pure,Result.andThen_ok,Ev w g p ty v [v] hv ht hi (by simpa using h1)]
 exact hP
end
theorem reads_fr {α:Type} {f:α->List Value} {k:Nat} {X Y:World} {E:List Nat} {g:Nat} {l:List α} (h:ReadsG f k Y (some ⟨g,0,none⟩) l) (hg:g ∉ E) (hF:Fr Y X E):ReadsG f k X (some ⟨g,0,none⟩) l:=fun j x hx=>by
 obtain⟨b,off,h1,h2,h3⟩:=h j x hx
 cases h1
 refine⟨g,0,rfl,Nat.lt_of_lt_of_le h2 hF.size,fun j v hv=> ?_⟩
 have e:=h3 j v hv
 have h1:=hF.block g h2 hg
 unfold World.cell? at e ⊢
 dsimp only at e ⊢
 rw[h1]
 exact e
def RowFrom (ys:List Value) (ds:List (KK×DD)) (i:Nat):Prop:=ys.length=(ds.length+1) * 20/\ ∀(j:Nat) (e:KK×DD),i<=j->ds[j]? =some e-> ∀t u,(prC e)[t]? =some u->ys[j * 20+t]? =some u
theorem Ul (e:KK×DD):(prC e).length=20:=rfl
theorem RowFrom.start (ds:List (KK×DD)) (e9:KK×DD):RowFrom (ds.flatMap prC++ [e9].flatMap prC) ds 0:=by
 refine⟨?_,fun j e _ hj t u hu=> ?_⟩
 ·rw[←List.flatMap_append,Ge prC 20 Ul]
  simp
 ·have hlt:=(List.getElem?_eq_some_iff.1 hj).1
  have he:=(List.getElem?_eq_some_iff.1 hj).2
  have ht:t<20:=(List.getElem?_eq_some_iff.1 hu).1
  have h1:=Qd prC 20 Ul ds j t hlt ht
  rw[he,hu] at h1
  rw[List.getElem?_append_left (List.getElem?_eq_some_iff.1 h1).1]
  exact h1
theorem RowFrom.step {ys:List Value} {ds:List (KK×DD)} {i p:Nat} (v:Value) (h:RowFrom ys ds i) (hi:i<ds.length) (hp:p=i * 20+1):RowFrom (Bw ys p [v]) ds (i+1):=by
 have hl:p<ys.length:=by rw[h.1];omega
 have e:Bw ys p [v]=ys.set p v:=by
  unfold Bw
  rw[List.set_eq_take_append_cons_drop,if_pos hl]
  simp
 refine⟨by rw[e,List.length_set];exact h.1,fun j x hj hx t u hu=> ?_⟩
 rw[e,List.getElem?_set_ne (by omega)]
 exact h.2 j x (by omega) hx t u hu
theorem RowFrom.range {X:World} {base e g c:Nat} {ys:List Value} {ds:List (KK×DD)} {i j:Nat} {x:KK×DD} (hO:X.ownsRow base e 20 (.slice (some ⟨g,0,none⟩) (ds.length+1) c) (ds.length+1) ys) (h:RowFrom ys ds i) (hj:i<=j) (hx:ds[j]? =some x):X.rangeAt g (0+j * 20) (prC x):=fun t u hu=>by
 rw[Nat.zero_add]
 exact(Zcl hO (h.2 j x hj hx t u hu)).1
def k9:KK:=⟨⟨#[]⟩, -9⟩
def e9:KK×DD:=(k9,Ak)
theorem ZbL:(Tryz.prog.info? 69).map (fun i=>(i.zero,i.size,i.bytes))=some (some (.agg (prC Nt).toArray),20,192):=by kernel_rfl
theorem ex_bk9 {o:Oper} {a:Act} {w:World} (ho:o.op= .build 48 #[(1, .const (.int .i64 (-9)))]):(execOp a.eval o).run Tryz.prog w= .ok (.value (.agg k9.cs.toArray)) w:=by
 have e:(Instr.build 48 #[(1, .int .i64 (-9))]).run Tryz.prog w= .ok (.agg k9.cs.toArray) w:=by kernel_rfl
 unfold execOp
 simp only[ho,List.map_toArray,List.map_cons,List.map_nil,show a.eval (.const (.int .i64 (-9)))= .int .i64 (-9) from rfl]
 simp[e]
theorem ex_be9 {o:Oper} {a:Act} {w:World} {x:Operand} (ho:o.op= .build 69 #[(0,x)]) (hx:a.eval x= .agg k9.cs.toArray):(execOp a.eval o).run Tryz.prog w= .ok (.value (.agg (prC e9).toArray)) w:=by
 have e:(Instr.build 69 #[(0, .agg k9.cs.toArray)]).run Tryz.prog w= .ok (.agg (prC e9).toArray) w:=by kernel_rfl
 unfold execOp
 simp only[ho,List.map_toArray,List.map_cons,List.map_nil,hx]
 simp[e]
theorem Za1 (l:List (KK×DD)): ∀u∈l.flatMap prC,u.oneCell'=true:=by
 intro u hu
 obtain⟨v, -,h⟩:=List.mem_flatMap.1 hu
 exact Qq v u h
theorem own_rp {X:World} {base e:Nat} {A:Option Addr} {c:Nat} {l:List (KK×DD)} {v:KK×DD} (h:X.ownsRow base e 20 (.slice A (l.length+1) c) (l.length+1) (l.flatMap prC++ [v].flatMap prC)):ReadsP X A (l++ [v]):=Om (f:=prC) Ul (by rw[List.flatMap_append];exact h) (by simp)
theorem own_rpA {X:World} {base e:Nat} {A:Option Addr} {c:Nat} {n:Nat} {ys:List Value} (h:X.ownsRow base e 20 (.slice A (n+1) c) (n+1) ys): ∃g,A=some ⟨g,0,none⟩/\n+1<=c:=by
 rcases h.2 with ⟨h1,h0⟩|⟨g,cap,cur,h1,h2,h3,h4,h5⟩
 ·omega
 ·cases h1
  exact⟨g,rfl,h4⟩
theorem ZeQ {X:World} {base e g:Nat} {c:Nat} {l:List (KK×DD)} {v:KK×DD} (h:X.ownsRow base e 20 (.slice (some ⟨g,0,none⟩) (l.length+1) c) (l.length+1) (l.flatMap prC++ [v].flatMap prC)):X.rangeAt g (0+l.length * 20) (prC v):=by
 obtain⟨b,off,h1, -,h3⟩:=own_rp h l.length v (by simp)
 cases h1
 exact h3
theorem ZdF {w X Y:World} {h:HP} {L:List Ob} {base e g c i:Nat} {l:List (KK×DD)} {v:KK×DD} (S:Sy w X h.blocks (hpO h::L)) (hi:L[i]? =some (Eg base e 20 (.slice (some ⟨g,0,none⟩) (l.length+1) c) (l.length+1) (l.flatMap prC++ [v].flatMap prC))) (k:Fr X Y h.blocks):ReadsP Y (some ⟨g,0,none⟩) l:=by
 have hr:ReadsG prC 20 X (some ⟨g,0,none⟩) l:=ReadsG.left (m:= [v]) (own_rp (S.get (i+1) hi))
 exact reads_fr hr (fun hg=>S.apart (i:=0) (j:=i+1) rfl hi (by omega) g hg (by simp[Eg,Value.ownBlock])) k
