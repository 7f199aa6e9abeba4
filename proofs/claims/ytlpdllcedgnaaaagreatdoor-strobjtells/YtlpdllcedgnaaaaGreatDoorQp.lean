import Derived.Test.YtlpdllcedgnaaaaGreatDoorQo
set_option linter.all false
namespace Go.Proofs.YtlpdllcedgnaaaaGreatDoor
set_option maxRecDepth 100000
set_option maxHeartbeats 0
section
open Go Go.Proofs Go.RowKit FM Tryz
theorem Lies.there {W:World} {B:Nat} {d:DD} (h:Lies W B d):W.there B 0 18:=by
 obtain⟨f,h0,h1,h2,h3,h4,h5,h6,h7,h8,h9,h10,h11,h12,h13,h14,h15,h16,h17⟩:=h
 intro j hj
 match j,hj with
 |0,_=>exact⟨h0▸rfl,f _⟩
 |1,_=>exact⟨h1▸rfl,f _⟩
 |2,_=>exact⟨h2▸rfl,f _⟩
 |3,_=>exact⟨h3▸rfl,f _⟩
 |4,_=>exact⟨h4▸rfl,f _⟩
 |5,_=>exact⟨h5▸rfl,f _⟩
 |6,_=>exact⟨h6▸rfl,f _⟩
 |7,_=>exact⟨h7▸rfl,f _⟩
 |8,_=>exact⟨h8▸rfl,f _⟩
 |9,_=>exact⟨h9▸rfl,f _⟩
 |10,_=>exact⟨h10▸rfl,f _⟩
 |11,_=>exact⟨h11▸rfl,f _⟩
 |12,_=>exact⟨h12▸rfl,f _⟩
 |13,_=>exact⟨h13▸rfl,f _⟩
 |14,_=>exact⟨h14▸rfl,f _⟩
 |15,_=>exact⟨h15▸rfl,f _⟩
 |16,_=>exact⟨h16▸rfl,f _⟩
 |17,_=>exact⟨h17▸rfl,f _⟩
 |j+18,hj=>exact absurd hj (by omega)
theorem Da {ops:Array Oper} {rest:List Oper} {o:Oper} {a:Act} {w w0:World} {Q:Exit->Act->World->Prop} {x y:Operand} {l:List PB} (i:Nat) {d:DD} {u:DD} (hw:Region.wanted o (yielded ops a.tmps)=true) (ho:o.op= .store 43 x y) (hL:Lie w0 w l) (hi:l[i]? =some (.D d))
  (hx:a.eval x= .pointer (some ⟨w0.heap.size+i,0,none⟩)) (hy:a.eval y=u.agg) (h: ∀X,Lie w0 X (l.set i (.D u))->wpList prog ops Q rest (a.put o.dst undef) X):wpList prog ops Q (o::rest) a w:=by
 refine BigFrame.wpList_want hw fun K hK=> ?_
 have hc:=hL.holds.at hi
 exact wp_store_mid 43 x y ho _ 0 u.cs.toArray hx hy (Lies.there hc) Po (by simp[DD.cs,VV.cs,Value.oneCell']) (hK _ _ (h _ (hL.put hi fun hq=>Lies.setD hq)))
theorem Og {W:World} {b j:Nat} {v c:Value} {m:Mode} (hc:W.cell? ⟨b,j,none⟩=some c) (hf:W.frozen? ⟨b,j,none⟩=false):stored prog W ⟨b,j,none⟩ v m= .ok () (W.setCells b j [v]):=by
 unfold stored
 rw[hc]
 simp[hf,World.setCells]
theorem Zaf {ops:Array Oper} {rest:List Oper} {o:Oper} {a:Act} {w w0:World} {Q:Exit->Act->World->Prop} {x y:Operand} {l:List PB} (i:Nat) {d:DD} {n:Int} (hw:Region.wanted o (yielded ops a.tmps)=true) (ho:o.op= .store 41 x y) (hL:Lie w0 w l) (hi:l[i]? =some (.D d))
  (hx:a.eval x= .pointer (some ⟨w0.heap.size+i,15,none⟩)) (hy:a.eval y= .int .i64 n) (h: ∀X,Lie w0 X (l.set i (.D {d with w:=n}))->wpList prog ops Q rest (a.put o.dst undef) X):wpList prog ops Q (o::rest) a w:=by
 refine BigFrame.wpList_want hw fun K hK=> ?_
 have hc:=hL.holds.at hi
 have hP:=hK _ _ (h _ (hL.put hi fun hq=>Lies.setw (n:=n) hq))
 obtain⟨f,h0,h1,h2,h3,h4,h5,h6,h7,h8,h9,h10,h11,h12,h13,h14,h15,h16,h17⟩:=hc
 have hs: ∀m,stored prog w ⟨w0.heap.size+i,15,none⟩ (.int .i64 n) m= .ok () (w.setCells (w0.heap.size+i) 15 [.int .i64 n]):=fun m=>Og h15 (f _)
 unfold Oper.wp execOp
 simp only[ho,hx,hy]
 simp only[go_sem] at hs
 simp[go_sem,Tryz.sizeOf41]
 simp[hs]
 exact hP
theorem Od {ops:Array Oper} {rest:List Oper} {o:Oper} {a:Act} {w w0:World} {Q:Exit->Act->World->Prop} {x y:Operand} {l:List PB} (i:Nat) {d:DD} {n:Int} (hw:Region.wanted o (yielded ops a.tmps)=true) (ho:o.op= .store 41 x y) (hL:Lie w0 w l) (hi:l[i]? =some (.D d))
  (hx:a.eval x= .pointer (some ⟨w0.heap.size+i,16,none⟩)) (hy:a.eval y= .int .i64 n) (h: ∀X,Lie w0 X (l.set i (.D {d with e:=n}))->wpList prog ops Q rest (a.put o.dst undef) X):wpList prog ops Q (o::rest) a w:=by
 refine BigFrame.wpList_want hw fun K hK=> ?_
 have hc:=hL.holds.at hi
 have hP:=hK _ _ (h _ (hL.put hi fun hq=>Lies.sete (n:=n) hq))
 obtain⟨f,h0,h1,h2,h3,h4,h5,h6,h7,h8,h9,h10,h11,h12,h13,h14,h15,h16,h17⟩:=hc
 have hs: ∀m,stored prog w ⟨w0.heap.size+i,16,none⟩ (.int .i64 n) m= .ok () (w.setCells (w0.heap.size+i) 16 [.int .i64 n]):=fun m=>Og h16 (f _)
 unfold Oper.wp execOp
 simp only[ho,hx,hy]
 simp only[go_sem] at hs
 simp[go_sem,Tryz.sizeOf41]
 simp[hs]
 exact hP
theorem Oe {ops:Array Oper} {rest:List Oper} {o:Oper} {a:Act} {w w0:World} {Q:Exit->Act->World->Prop} {x y:Operand} {l:List PB} (i:Nat) {d:DD} {n:Int} (hw:Region.wanted o (yielded ops a.tmps)=true) (ho:o.op= .store 41 x y) (hL:Lie w0 w l) (hi:l[i]? =some (.D d))
  (hx:a.eval x= .pointer (some ⟨w0.heap.size+i,17,none⟩)) (hy:a.eval y= .int .i64 n) (h: ∀X,Lie w0 X (l.set i (.D {d with c:=n}))->wpList prog ops Q rest (a.put o.dst undef) X):wpList prog ops Q (o::rest) a w:=by
 refine BigFrame.wpList_want hw fun K hK=> ?_
 have hc:=hL.holds.at hi
 have hP:=hK _ _ (h _ (hL.put hi fun hq=>Lies.setc (n:=n) hq))
 obtain⟨f,h0,h1,h2,h3,h4,h5,h6,h7,h8,h9,h10,h11,h12,h13,h14,h15,h16,h17⟩:=hc
 have hs: ∀m,stored prog w ⟨w0.heap.size+i,17,none⟩ (.int .i64 n) m= .ok () (w.setCells (w0.heap.size+i) 17 [.int .i64 n]):=fun m=>Og h17 (f _)
 unfold Oper.wp execOp
 simp only[ho,hx,hy]
 simp only[go_sem] at hs
 simp[go_sem,Tryz.sizeOf41]
 simp[hs]
 exact hP
theorem store9 {ops:Array Oper} {rest:List Oper} {o:Oper} {a:Act} {w w0:World} {Q:Exit->Act->World->Prop} {x y:Operand} {l:List PB} (i:Nat) {d:DD} {n:ByteArray} (hw:Region.wanted o (yielded ops a.tmps)=true) (ho:o.op= .store 9 x y) (hL:Lie w0 w l) (hi:l[i]? =some (.D d))
  (hx:a.eval x= .pointer (some ⟨w0.heap.size+i,3,none⟩)) (hy:a.eval y= .string n) (h: ∀X,Lie w0 X (l.set i (.D {d with v:={d.v with s:=n}}))->wpList prog ops Q rest (a.put o.dst undef) X):wpList prog ops Q (o::rest) a w:=by
 refine BigFrame.wpList_want hw fun K hK=> ?_
 have hc:=hL.holds.at hi
 have hP:=hK _ _ (h _ (hL.put hi fun hq=>Lies.setstr (n:=n) hq))
 obtain⟨f,h0,h1,h2,h3,h4,h5,h6,h7,h8,h9,h10,h11,h12,h13,h14,h15,h16,h17⟩:=hc
 have hs: ∀m,stored prog w ⟨w0.heap.size+i,3,none⟩ (.string n) m= .ok () (w.setCells (w0.heap.size+i) 3 [.string n]):=fun m=>Og h3 (f _)
 unfold Oper.wp execOp
 simp only[ho,hx,hy]
 simp only[go_sem] at hs
 simp[go_sem,Tryz.sizeOf9]
 simp[hs]
 exact hP
theorem Zam {fn:Func} {R:Ending->World->Prop} {a:Act} {w:World} {b r:Nat} {d:DD} (hr:fn.results= #[.cell r 43]) (hdf:a.defers= [])
  (hx:a.tmps.getD r undef= .pointer (some ⟨b,0,none⟩)) (hc:Lies w b d) (h:R (.returned (d.agg)) w):bodyPost prog fn R .ret a w:=by
 obtain⟨t,hu,hd⟩:=Qy
 have hl:=run_loadVar_mid (P:=prog) w b 0 43 _ t hc.range hu hd Po
 refine⟨hdf,_, ?_,h⟩
 simp only[Array.getD_eq_getD_getElem?] at hx
 unfold results
 simp[hr,hx,hl,asAddr]
 try rfl
theorem Li {fn:Func} {R:Ending->World->Prop} {a:Act} {w:World} {b r:Nat} {d:DD} {t t2:Nat} {v v2:Value} (hr:fn.results= #[.cell r 43, .tmp t, .tmp t2]) (hdf:a.defers= [])
  (hx:a.tmps.getD r undef= .pointer (some ⟨b,0,none⟩)) (hv:a.tmps.getD t undef=v) (hv2:a.tmps.getD t2 undef=v2) (hc:Lies w b d) (h:R (.returned (.tuple #[d.agg,v,v2])) w):bodyPost prog fn R .ret a w:=by
 obtain⟨t,hu,hd⟩:=Qy
 have hl:=run_loadVar_mid (P:=prog) w b 0 43 _ t hc.range hu hd Po
 refine⟨hdf,_, ?_,h⟩
 simp only[Array.getD_eq_getD_getElem?] at hx hv hv2
 unfold results
 simp[hr,hx,hl,asAddr,hv,hv2]
 try rfl
