import Derived.Test.YtfefpbjkbmaicaaGreatDoorQo
set_option linter.all false
namespace Go.Proofs.YtfefpbjkbmaicaaGreatDoor
set_option maxRecDepth 100000
set_option maxHeartbeats 0
section
open Go Go.Proofs Go.RowKit FM Tryz
theorem Lies.there {W:World} {B:Nat} {d:DD} (h:Lies W B d):W.there B 0 18:=by
 obtain⟨f,h0,h1,h2,h3,h4,h5,h6,h7,h8,h9,h10,h11,h12,h13,h14,h15,h16,h17⟩:=h
 intro j hj
 match j,hj with
 |0,_=>exact⟨h0▸rfl,f _⟩
 |1,_=>exact⟨h1▸rfl,f _⟩
 |2,_=>exact⟨h2▸rfl,f _⟩
 |3,_=>exact⟨h3▸rfl,f _⟩
 |4,_=>exact⟨h4▸rfl,f _⟩
 |5,_=>exact⟨h5▸rfl,f _⟩
 |6,_=>exact⟨h6▸rfl,f _⟩
 |7,_=>exact⟨h7▸rfl,f _⟩
 |8,_=>exact⟨h8▸rfl,f _⟩
 |9,_=>exact⟨h9▸rfl,f _⟩
 |10,_=>exact⟨h10▸rfl,f _⟩
 |11,_=>exact⟨h11▸rfl,f _⟩
 |12,_=>exact⟨h12▸rfl,f _⟩
 |13,_=>exact⟨h13▸rfl,f _⟩
 |14,_=>exact⟨h14▸rfl,f _⟩
 |15,_=>exact⟨h15▸rfl,f _⟩
 |16,_=>exact⟨h16▸rfl,f _⟩
 |17,_=>exact⟨h17▸rfl,f _⟩
 |j+18,hj=>exact absurd hj (by omega)
theorem Do {ops:Array Oper} {rest:List Oper} {o:Oper} {a:Act} {w w0:World} {Q:Exit->Act->World->Prop} {x y:Operand} {l:List PB} (i:Nat) {d:DD} {u:DD} (hw:Region.wanted o (yielded ops a.tmps)=true) (ho:o.op= .store 29 x y) (hL:Lie w0 w l) (hi:l[i]? =some (.D d))
  (hx:a.eval x= .pointer (some ⟨w0.heap.size+i,0,none⟩)) (hy:a.eval y=u.agg) (h: ∀X,Lie w0 X (l.set i (.D u))->wpList prog ops Q rest (a.put o.dst undef) X):wpList prog ops Q (o::rest) a w:=by
 refine BigFrame.wpList_want hw fun K hK=> ?_
 have hc:=hL.holds.at hi
 exact wp_store_mid 29 x y ho _ 0 u.cs.toArray hx hy (Lies.there hc) Qh (by simp[DD.cs,VV.cs,Value.oneCell']) (hK _ _ (h _ (hL.put hi fun hq=>Lies.setD hq)))
theorem Pf {W:World} {b j:Nat} {v c:Value} {m:Mode} (hc:W.cell? ⟨b,j,none⟩=some c) (hf:W.frozen? ⟨b,j,none⟩=false):stored prog W ⟨b,j,none⟩ v m= .ok () (W.setCells b j [v]):=by
 unfold stored
 rw[hc]
 simp[hf,World.setCells]
theorem Yt {ops:Array Oper} {rest:List Oper} {o:Oper} {a:Act} {w w0:World} {Q:Exit->Act->World->Prop} {x y:Operand} {l:List PB} (i:Nat) {d:DD} {n:Int} (hw:Region.wanted o (yielded ops a.tmps)=true) (ho:o.op= .store 27 x y) (hL:Lie w0 w l) (hi:l[i]? =some (.D d))
  (hx:a.eval x= .pointer (some ⟨w0.heap.size+i,15,none⟩)) (hy:a.eval y= .int .i64 n) (h: ∀X,Lie w0 X (l.set i (.D {d with w:=n}))->wpList prog ops Q rest (a.put o.dst undef) X):wpList prog ops Q (o::rest) a w:=by
 refine BigFrame.wpList_want hw fun K hK=> ?_
 have hc:=hL.holds.at hi
 have hP:=hK _ _ (h _ (hL.put hi fun hq=>Lies.setw (n:=n) hq))
 obtain⟨f,h0,h1,h2,h3,h4,h5,h6,h7,h8,h9,h10,h11,h12,h13,h14,h15,h16,h17⟩:=hc
 have hs: ∀m,stored prog w ⟨w0.heap.size+i,15,none⟩ (.int .i64 n) m= .ok () (w.setCells (w0.heap.size+i) 15 [.int .i64 n]):=fun m=>Pf h15 (f _)
 unfold Oper.wp execOp
 simp only[ho,hx,hy]
 simp only[go_sem] at hs
 simp[go_sem,Tryz.sizeOf27]
 simp[hs]
 exact hP
theorem Pc {ops:Array Oper} {rest:List Oper} {o:Oper} {a:Act} {w w0:World} {Q:Exit->Act->World->Prop} {x y:Operand} {l:List PB} (i:Nat) {d:DD} {n:Int} (hw:Region.wanted o (yielded ops a.tmps)=true) (ho:o.op= .store 27 x y) (hL:Lie w0 w l) (hi:l[i]? =some (.D d))
  (hx:a.eval x= .pointer (some ⟨w0.heap.size+i,16,none⟩)) (hy:a.eval y= .int .i64 n) (h: ∀X,Lie w0 X (l.set i (.D {d with e:=n}))->wpList prog ops Q rest (a.put o.dst undef) X):wpList prog ops Q (o::rest) a w:=by
 refine BigFrame.wpList_want hw fun K hK=> ?_
 have hc:=hL.holds.at hi
 have hP:=hK _ _ (h _ (hL.put hi fun hq=>Lies.sete (n:=n) hq))
 obtain⟨f,h0,h1,h2,h3,h4,h5,h6,h7,h8,h9,h10,h11,h12,h13,h14,h15,h16,h17⟩:=hc
 have hs: ∀m,stored prog w ⟨w0.heap.size+i,16,none⟩ (.int .i64 n) m= .ok () (w.setCells (w0.heap.size+i) 16 [.int .i64 n]):=fun m=>Pf h16 (f _)
 unfold Oper.wp execOp
 simp only[ho,hx,hy]
 simp only[go_sem] at hs
 simp[go_sem,Tryz.sizeOf27]
 simp[hs]
 exact hP
theorem Pd {ops:Array Oper} {rest:List Oper} {o:Oper} {a:Act} {w w0:World} {Q:Exit->Act->World->Prop} {x y:Operand} {l:List PB} (i:Nat) {d:DD} {n:Int} (hw:Region.wanted o (yielded ops a.tmps)=true) (ho:o.op= .store 27 x y) (hL:Lie w0 w l) (hi:l[i]? =some (.D d))
  (hx:a.eval x= .pointer (some ⟨w0.heap.size+i,17,none⟩)) (hy:a.eval y= .int .i64 n) (h: ∀X,Lie w0 X (l.set i (.D {d with c:=n}))->wpList prog ops Q rest (a.put o.dst undef) X):wpList prog ops Q (o::rest) a w:=by
 refine BigFrame.wpList_want hw fun K hK=> ?_
 have hc:=hL.holds.at hi
 have hP:=hK _ _ (h _ (hL.put hi fun hq=>Lies.setc (n:=n) hq))
 obtain⟨f,h0,h1,h2,h3,h4,h5,h6,h7,h8,h9,h10,h11,h12,h13,h14,h15,h16,h17⟩:=hc
 have hs: ∀m,stored prog w ⟨w0.heap.size+i,17,none⟩ (.int .i64 n) m= .ok () (w.setCells (w0.heap.size+i) 17 [.int .i64 n]):=fun m=>Pf h17 (f _)
 unfold Oper.wp execOp
 simp only[ho,hx,hy]
 simp only[go_sem] at hs
 simp[go_sem,Tryz.sizeOf27]
 simp[hs]
 exact hP
theorem store9 {ops:Array Oper} {rest:List Oper} {o:Oper} {a:Act} {w w0:World} {Q:Exit->Act->World->Prop} {x y:Operand} {l:List PB} (i:Nat) {d:DD} {n:ByteArray} (hw:Region.wanted o (yielded ops a.tmps)=true) (ho:o.op= .store 9 x y) (hL:Lie w0 w l) (hi:l[i]? =some (.D d))
  (hx:a.eval x= .pointer (some ⟨w0.heap.size+i,3,none⟩)) (hy:a.eval y= .string n) (h: ∀X,Lie w0 X (l.set i (.D {d with v:={d.v with s:=n}}))->wpList prog ops Q rest (a.put o.dst undef) X):wpList prog ops Q (o::rest) a w:=by
 refine BigFrame.wpList_want hw fun K hK=> ?_
 have hc:=hL.holds.at hi
 have hP:=hK _ _ (h _ (hL.put hi fun hq=>Lies.setstr (n:=n) hq))
 obtain⟨f,h0,h1,h2,h3,h4,h5,h6,h7,h8,h9,h10,h11,h12,h13,h14,h15,h16,h17⟩:=hc
 have hs: ∀m,stored prog w ⟨w0.heap.size+i,3,none⟩ (.string n) m= .ok () (w.setCells (w0.heap.size+i) 3 [.string n]):=fun m=>Pf h3 (f _)
 unfold Oper.wp execOp
 simp only[ho,hx,hy]
 simp only[go_sem] at hs
 simp[go_sem,Tryz.sizeOf9]
 simp[hs]
 exact hP
theorem Ze {fn:Func} {R:Ending->World->Prop} {a:Act} {w:World} {b r:Nat} {d:DD} (hr:fn.results= #[.cell r 29]) (hdf:a.defers= [])
  (hx:a.tmps.getD r undef= .pointer (some ⟨b,0,none⟩)) (hc:Lies w b d) (h:R (.returned (d.agg)) w):bodyPost prog fn R .ret a w:=by
 obtain⟨t,hu,hd⟩:=Rf
 have hl:=run_loadVar_mid (P:=prog) w b 0 29 _ t hc.range hu hd Qh
 refine⟨hdf,_, ?_,h⟩
 simp only[Array.getD_eq_getD_getElem?] at hx
 unfold results
 simp[hr,hx,hl,asAddr]
 try rfl
theorem Ma {fn:Func} {R:Ending->World->Prop} {a:Act} {w:World} {b r:Nat} {d:DD} {t t2:Nat} {v v2:Value} (hr:fn.results= #[.cell r 29, .tmp t, .tmp t2]) (hdf:a.defers= [])
  (hx:a.tmps.getD r undef= .pointer (some ⟨b,0,none⟩)) (hv:a.tmps.getD t undef=v) (hv2:a.tmps.getD t2 undef=v2) (hc:Lies w b d) (h:R (.returned (.tuple #[d.agg,v,v2])) w):bodyPost prog fn R .ret a w:=by
 obtain⟨t,hu,hd⟩:=Rf
 have hl:=run_loadVar_mid (P:=prog) w b 0 29 _ t hc.range hu hd Qh
 refine⟨hdf,_, ?_,h⟩
 simp only[Array.getD_eq_getD_getElem?] at hx hv hv2
 unfold results
 simp[hr,hx,hl,asAddr,hv,hv2]
 try rfl
def noV (d:DD):Bool:=Df d==1 && !(d.e !=0) && !(d.c !=0)
def stV (d:DD):Bool:=noV d||Od d
def Eh (d:DD):Int:=if Gv d==0 then 5 else 0
theorem Ry (d:DD) (hd:FD d) (w:World) (hT:Lib.Utf8Tabs 4 5 w):Calls prog 65 #[d.agg] w fun e w'=>e= .returned (.int .i64 (Gv d))/\Below w.heap.size w w':=by
 have HA:=Ac (fun w hT=>ZbY d hd w hT)
 have HB:=Ac (Di d hd)
 have HT:=Ac hT
 clear hT
 clear hd
 have LL:=Ac (Lie.new1 w (.D d))
 unfold Gv
 generalize Gf d=so at *
 generalize Df d=sh at *
 have hq0:=Gi d
 rw[hq0]
 clear hq0
 go_enter func65,ntmps65
 go_wp2_with (first|((with_reducible apply Bh);(case ho=>rfl);(case hx=>rfl);(case hw=>rfl);(case hc=>first|exact(Aa LL).one);simp only[nn])|((with_reducible apply Bo);(case ho=>rfl);(case hx=>rfl);(case hw=>rfl);(case hc=>first|exact(Aa LL).one);simp only[nn])|((with_reducible apply Bt);(case ho=>rfl);(case hx=>rfl);(case hw=>rfl);(case hc=>first|exact(Aa LL).one);simp only[nn])|((with_reducible apply Bq);(case ho=>rfl);(case hx=>rfl);(case hw=>rfl);(case hc=>first|exact(Aa LL).one);simp only[nn])|((with_reducible apply Bl);(case ho=>rfl);(case hx=>rfl);(case hw=>rfl);(case hc=>first|exact(Aa LL).one);simp only[nn])|((with_reducible apply Bj);(case ho=>rfl);(case hx=>rfl);(case hw=>rfl);(case hc=>first|exact(Aa LL).one);simp only[nn])|((with_reducible apply At);(case ho=>rfl);(case hx=>rfl);(case hw=>rfl);(case hc=>first|exact(Aa LL).one);simp only[nn])|(go_at_call 100;refine(Ae _ _).mono ?_;rintro _ _ ⟨rfl,rfl⟩)|(go_at_call 99;refine(Ab _ _).mono ?_;rintro _ _ ⟨rfl,rfl⟩)|(go_at_call 72;refine(Ad _ _).mono ?_;rintro _ _ ⟨rfl,rfl⟩))
 refine(Aa HA _ (Bf (Aa HT) (Aa LL).below)).mono ?_
 rintro _ w1 ⟨rfl,hb⟩
 replace LL:=Ac ((Aa LL).on hb)
 clear hb
 cases so
 ·go_wp2_with (first|((with_reducible apply Bh);(case ho=>rfl);(case hx=>rfl);(case hw=>rfl);(case hc=>first|exact(Aa LL).one);simp only[nn])|((with_reducible apply Bo);(case ho=>rfl);(case hx=>rfl);(case hw=>rfl);(case hc=>first|exact(Aa LL).one);simp only[nn])|((with_reducible apply Bt);(case ho=>rfl);(case hx=>rfl);(case hw=>rfl);(case hc=>first|exact(Aa LL).one);simp only[nn])|((with_reducible apply Bq);(case ho=>rfl);(case hx=>rfl);(case hw=>rfl);(case hc=>first|exact(Aa LL).one);simp only[nn])|((with_reducible apply Bl);(case ho=>rfl);(case hx=>rfl);(case hw=>rfl);(case hc=>first|exact(Aa LL).one);simp only[nn])|((with_reducible apply Bj);(case ho=>rfl);(case hx=>rfl);(case hw=>rfl);(case hc=>first|exact(Aa LL).one);simp only[nn])|((with_reducible apply At);(case ho=>rfl);(case hx=>rfl);(case hw=>rfl);(case hc=>first|exact(Aa LL).one);simp only[nn])|(go_at_call 100;refine(Ae _ _).mono ?_;rintro _ _ ⟨rfl,rfl⟩)|(go_at_call 99;refine(Ab _ _).mono ?_;rintro _ _ ⟨rfl,rfl⟩)|(go_at_call 72;refine(Ad _ _).mono ?_;rintro _ _ ⟨rfl,rfl⟩))
  go_ret
  exact⟨rfl,(Aa LL).below⟩
 ·go_wp2_with (first|((with_reducible apply Bh);(case ho=>rfl);(case hx=>rfl);(case hw=>rfl);(case hc=>first|exact(Aa LL).one);simp only[nn])|((with_reducible apply Bo);(case ho=>rfl);(case hx=>rfl);(case hw=>rfl);(case hc=>first|exact(Aa LL).one);simp only[nn])|((with_reducible apply Bt);(case ho=>rfl);(case hx=>rfl);(case hw=>rfl);(case hc=>first|exact(Aa LL).one);simp only[nn])|((with_reducible apply Bq);(case ho=>rfl);(case hx=>rfl);(case hw=>rfl);(case hc=>first|exact(Aa LL).one);simp only[nn])|((with_reducible apply Bl);(case ho=>rfl);(case hx=>rfl);(case hw=>rfl);(case hc=>first|exact(Aa LL).one);simp only[nn])|((with_reducible apply Bj);(case ho=>rfl);(case hx=>rfl);(case hw=>rfl);(case hc=>first|exact(Aa LL).one);simp only[nn])|((with_reducible apply At);(case ho=>rfl);(case hx=>rfl);(case hw=>rfl);(case hc=>first|exact(Aa LL).one);simp only[nn])|(go_at_call 100;refine(Ae _ _).mono ?_;rintro _ _ ⟨rfl,rfl⟩)|(go_at_call 99;refine(Ab _ _).mono ?_;rintro _ _ ⟨rfl,rfl⟩)|(go_at_call 72;refine(Ad _ _).mono ?_;rintro _ _ ⟨rfl,rfl⟩))
  refine(Aa HB _).mono ?_
  rintro _ w2 ⟨rfl,hb⟩
  replace LL:=Ac ((Aa LL).on hb)
  clear hb
  go_wp2_with (first|((with_reducible apply Bh);(case ho=>rfl);(case hx=>rfl);(case hw=>rfl);(case hc=>first|exact(Aa LL).one);simp only[nn])|((with_reducible apply Bo);(case ho=>rfl);(case hx=>rfl);(case hw=>rfl);(case hc=>first|exact(Aa LL).one);simp only[nn])|((with_reducible apply Bt);(case ho=>rfl);(case hx=>rfl);(case hw=>rfl);(case hc=>first|exact(Aa LL).one);simp only[nn])|((with_reducible apply Bq);(case ho=>rfl);(case hx=>rfl);(case hw=>rfl);(case hc=>first|exact(Aa LL).one);simp only[nn])|((with_reducible apply Bl);(case ho=>rfl);(case hx=>rfl);(case hw=>rfl);(case hc=>first|exact(Aa LL).one);simp only[nn])|((with_reducible apply Bj);(case ho=>rfl);(case hx=>rfl);(case hw=>rfl);(case hc=>first|exact(Aa LL).one);simp only[nn])|((with_reducible apply At);(case ho=>rfl);(case hx=>rfl);(case hw=>rfl);(case hc=>first|exact(Aa LL).one);simp only[nn])|(go_at_call 100;refine(Ae _ _).mono ?_;rintro _ _ ⟨rfl,rfl⟩)|(go_at_call 99;refine(Ab _ _).mono ?_;rintro _ _ ⟨rfl,rfl⟩)|(go_at_call 72;refine(Ad _ _).mono ?_;rintro _ _ ⟨rfl,rfl⟩))
  go_ret
  exact⟨rfl,(Aa LL).below⟩
theorem Zax (d:DD) (hd:FD d) (w:World) (hT:Lib.Utf8Tabs 4 5 w):Calls prog 38 #[d.agg] w fun e w'=>e= .returned (.int .i64 (Eh d))/\Below w.heap.size w w':=by
 have HK:=Ac (fun w hT=>Ry d hd w hT)
 have HT:=Ac hT
 clear hT
 clear hd
 have LL:=Ac (Lie.new1 w (.D d))
 unfold Eh
 generalize Gv d=k at *
 have hq0:=Gi d
 rw[hq0]
 clear hq0
 by_cases hk:k=0
 ·subst hk
  go_enter func38,ntmps38
  go_wp2_with (first|((with_reducible apply Bh);(case ho=>rfl);(case hx=>rfl);(case hw=>rfl);(case hc=>first|exact(Aa LL).one);simp only[nn])|((with_reducible apply Bo);(case ho=>rfl);(case hx=>rfl);(case hw=>rfl);(case hc=>first|exact(Aa LL).one);simp only[nn])|((with_reducible apply Bt);(case ho=>rfl);(case hx=>rfl);(case hw=>rfl);(case hc=>first|exact(Aa LL).one);simp only[nn])|((with_reducible apply Bq);(case ho=>rfl);(case hx=>rfl);(case hw=>rfl);(case hc=>first|exact(Aa LL).one);simp only[nn])|((with_reducible apply Bl);(case ho=>rfl);(case hx=>rfl);(case hw=>rfl);(case hc=>first|exact(Aa LL).one);simp only[nn])|((with_reducible apply Bj);(case ho=>rfl);(case hx=>rfl);(case hw=>rfl);(case hc=>first|exact(Aa LL).one);simp only[nn])|((with_reducible apply At);(case ho=>rfl);(case hx=>rfl);(case hw=>rfl);(case hc=>first|exact(Aa LL).one);simp only[nn])|(go_at_call 100;refine(Ae _ _).mono ?_;rintro _ _ ⟨rfl,rfl⟩)|(go_at_call 99;refine(Ab _ _).mono ?_;rintro _ _ ⟨rfl,rfl⟩)|(go_at_call 72;refine(Ad _ _).mono ?_;rintro _ _ ⟨rfl,rfl⟩))
  refine(Aa HK _ (Bf (Aa HT) (Aa LL).below)).mono ?_
  rintro _ w3 ⟨rfl,hb⟩
  replace LL:=Ac ((Aa LL).on hb)
  clear hb
  go_wp2_with (first|((with_reducible apply Bh);(case ho=>rfl);(case hx=>rfl);(case hw=>rfl);(case hc=>first|exact(Aa LL).one);simp only[nn])|((with_reducible apply Bo);(case ho=>rfl);(case hx=>rfl);(case hw=>rfl);(case hc=>first|exact(Aa LL).one);simp only[nn])|((with_reducible apply Bt);(case ho=>rfl);(case hx=>rfl);(case hw=>rfl);(case hc=>first|exact(Aa LL).one);simp only[nn])|((with_reducible apply Bq);(case ho=>rfl);(case hx=>rfl);(case hw=>rfl);(case hc=>first|exact(Aa LL).one);simp only[nn])|((with_reducible apply Bl);(case ho=>rfl);(case hx=>rfl);(case hw=>rfl);(case hc=>first|exact(Aa LL).one);simp only[nn])|((with_reducible apply Bj);(case ho=>rfl);(case hx=>rfl);(case hw=>rfl);(case hc=>first|exact(Aa LL).one);simp only[nn])|((with_reducible apply At);(case ho=>rfl);(case hx=>rfl);(case hw=>rfl);(case hc=>first|exact(Aa LL).one);simp only[nn])|(go_at_call 100;refine(Ae _ _).mono ?_;rintro _ _ ⟨rfl,rfl⟩)|(go_at_call 99;refine(Ab _ _).mono ?_;rintro _ _ ⟨rfl,rfl⟩)|(go_at_call 72;refine(Ad _ _).mono ?_;rintro _ _ ⟨rfl,rfl⟩))
  go_ret
  exact⟨rfl,(Aa LL).below⟩
 ·have hk2:(k==0)=false:=by simp[hk]
  rw[hk2]
  go_enter func38,ntmps38
  go_wp2_with (first|((with_reducible apply Bh);(case ho=>rfl);(case hx=>rfl);(case hw=>rfl);(case hc=>first|exact(Aa LL).one);simp only[nn])|((with_reducible apply Bo);(case ho=>rfl);(case hx=>rfl);(case hw=>rfl);(case hc=>first|exact(Aa LL).one);simp only[nn])|((with_reducible apply Bt);(case ho=>rfl);(case hx=>rfl);(case hw=>rfl);(case hc=>first|exact(Aa LL).one);simp only[nn])|((with_reducible apply Bq);(case ho=>rfl);(case hx=>rfl);(case hw=>rfl);(case hc=>first|exact(Aa LL).one);simp only[nn])|((with_reducible apply Bl);(case ho=>rfl);(case hx=>rfl);(case hw=>rfl);(case hc=>first|exact(Aa LL).one);simp only[nn])|((with_reducible apply Bj);(case ho=>rfl);(case hx=>rfl);(case hw=>rfl);(case hc=>first|exact(Aa LL).one);simp only[nn])|((with_reducible apply At);(case ho=>rfl);(case hx=>rfl);(case hw=>rfl);(case hc=>first|exact(Aa LL).one);simp only[nn])|(go_at_call 100;refine(Ae _ _).mono ?_;rintro _ _ ⟨rfl,rfl⟩)|(go_at_call 99;refine(Ab _ _).mono ?_;rintro _ _ ⟨rfl,rfl⟩)|(go_at_call 72;refine(Ad _ _).mono ?_;rintro _ _ ⟨rfl,rfl⟩))
  refine(Aa HK _ (Bf (Aa HT) (Aa LL).below)).mono ?_
  rintro _ w4 ⟨rfl,hb⟩
  replace LL:=Ac ((Aa LL).on hb)
  clear hb
  go_wp2_with (first|((with_reducible apply Bh);(case ho=>rfl);(case hx=>rfl);(case hw=>rfl);(case hc=>first|exact(Aa LL).one);simp only[nn])|((with_reducible apply Bo);(case ho=>rfl);(case hx=>rfl);(case hw=>rfl);(case hc=>first|exact(Aa LL).one);simp only[nn])|((with_reducible apply Bt);(case ho=>rfl);(case hx=>rfl);(case hw=>rfl);(case hc=>first|exact(Aa LL).one);simp only[nn])|((with_reducible apply Bq);(case ho=>rfl);(case hx=>rfl);(case hw=>rfl);(case hc=>first|exact(Aa LL).one);simp only[nn])|((with_reducible apply Bl);(case ho=>rfl);(case hx=>rfl);(case hw=>rfl);(case hc=>first|exact(Aa LL).one);simp only[nn])|((with_reducible apply Bj);(case ho=>rfl);(case hx=>rfl);(case hw=>rfl);(case hc=>first|exact(Aa LL).one);simp only[nn])|((with_reducible apply At);(case ho=>rfl);(case hx=>rfl);(case hw=>rfl);(case hc=>first|exact(Aa LL).one);simp only[nn])|(go_at_call 100;refine(Ae _ _).mono ?_;rintro _ _ ⟨rfl,rfl⟩)|(go_at_call 99;refine(Ab _ _).mono ?_;rintro _ _ ⟨rfl,rfl⟩)|(go_at_call 72;refine(Ad _ _).mono ?_;rintro _ _ ⟨rfl,rfl⟩))
  go_ret
  exact⟨rfl,(Aa LL).below⟩
theorem ZbR (d:DD) (hd:FD d) (w:World) (hT:Lib.Utf8Tabs 4 5 w):Calls prog 120 #[d.agg] w fun e w'=>e= .returned (.bool (Od d))/\Below w.heap.size w w':=by
 have HK:=Ac (fun w hT=>Ry d hd w hT)
 have HV:=Ac (Ey d.v hd.1)
 have HG:=Ac (Ey d.g hd.2.1)
 have HS:=Ac (Ey d.s hd.2.2)
 have HT:=Ac hT
 clear hT
 clear hd
 have LL:=Ac (Lie.new1 w (.D d))
 unfold Od
 generalize Gv d=k at *
 generalize thV d.v=tv at *
 generalize thV d.g=tg at *
 generalize thV d.s=ts at *
 generalize hqa:(d.w !=0)=qa at *
 generalize hqe:(d.e !=0)=qe at *
 generalize hqc:(d.c !=0)=qc at *
 have hq0:=Gi d
 rw[hq0]
 clear hq0
 by_cases h3:k=3
 ·subst h3
  cases qe
  ·go_enter func120,ntmps120
   go_wp2_with (first|((with_reducible apply Bh);(case ho=>rfl);(case hx=>rfl);(case hw=>rfl);(case hc=>first|exact(Aa LL).one);simp only[nn])|((with_reducible apply Bo);(case ho=>rfl);(case hx=>rfl);(case hw=>rfl);(case hc=>first|exact(Aa LL).one);simp only[nn])|((with_reducible apply Bt);(case ho=>rfl);(case hx=>rfl);(case hw=>rfl);(case hc=>first|exact(Aa LL).one);simp only[nn])|((with_reducible apply Bq);(case ho=>rfl);(case hx=>rfl);(case hw=>rfl);(case hc=>first|exact(Aa LL).one);simp only[nn])|((with_reducible apply Bl);(case ho=>rfl);(case hx=>rfl);(case hw=>rfl);(case hc=>first|exact(Aa LL).one);simp only[nn])|((with_reducible apply Bj);(case ho=>rfl);(case hx=>rfl);(case hw=>rfl);(case hc=>first|exact(Aa LL).one);simp only[nn])|((with_reducible apply At);(case ho=>rfl);(case hx=>rfl);(case hw=>rfl);(case hc=>first|exact(Aa LL).one);simp only[nn])|(go_at_call 100;refine(Ae _ _).mono ?_;rintro _ _ ⟨rfl,rfl⟩)|(go_at_call 99;refine(Ab _ _).mono ?_;rintro _ _ ⟨rfl,rfl⟩)|(go_at_call 72;refine(Ad _ _).mono ?_;rintro _ _ ⟨rfl,rfl⟩))
   refine(Aa HK _ (Bf (Aa HT) (Aa LL).below)).mono ?_
   rintro _ w8 ⟨rfl,hb⟩
   replace LL:=Ac ((Aa LL).on hb)
   clear hb
   go_wp2_with (first|((with_reducible apply Bh);(case ho=>rfl);(case hx=>rfl);(case hw=>rfl);(case hc=>first|exact(Aa LL).one);simp only[nn])|((with_reducible apply Bo);(case ho=>rfl);(case hx=>rfl);(case hw=>rfl);(case hc=>first|exact(Aa LL).one);simp only[nn])|((with_reducible apply Bt);(case ho=>rfl);(case hx=>rfl);(case hw=>rfl);(case hc=>first|exact(Aa LL).one);simp only[nn])|((with_reducible apply Bq);(case ho=>rfl);(case hx=>rfl);(case hw=>rfl);(case hc=>first|exact(Aa LL).one);simp only[nn])|((with_reducible apply Bl);(case ho=>rfl);(case hx=>rfl);(case hw=>rfl);(case hc=>first|exact(Aa LL).one);simp only[nn])|((with_reducible apply Bj);(case ho=>rfl);(case hx=>rfl);(case hw=>rfl);(case hc=>first|exact(Aa LL).one);simp only[nn])|((with_reducible apply At);(case ho=>rfl);(case hx=>rfl);(case hw=>rfl);(case hc=>first|exact(Aa LL).one);simp only[nn])|(go_at_call 100;refine(Ae _ _).mono ?_;rintro _ _ ⟨rfl,rfl⟩)|(go_at_call 99;refine(Ab _ _).mono ?_;rintro _ _ ⟨rfl,rfl⟩)|(go_at_call 72;refine(Ad _ _).mono ?_;rintro _ _ ⟨rfl,rfl⟩))
   go_ret
   exact⟨rfl,(Aa LL).below⟩
  ·cases qc
   ·go_enter func120,ntmps120
    go_wp2_with (first|((with_reducible apply Bh);(case ho=>rfl);(case hx=>rfl);(case hw=>rfl);(case hc=>first|exact(Aa LL).one);simp only[nn])|((with_reducible apply Bo);(case ho=>rfl);(case hx=>rfl);(case hw=>rfl);(case hc=>first|exact(Aa LL).one);simp only[nn])|((with_reducible apply Bt);(case ho=>rfl);(case hx=>rfl);(case hw=>rfl);(case hc=>first|exact(Aa LL).one);simp only[nn])|((with_reducible apply Bq);(case ho=>rfl);(case hx=>rfl);(case hw=>rfl);(case hc=>first|exact(Aa LL).one);simp only[nn])|((with_reducible apply Bl);(case ho=>rfl);(case hx=>rfl);(case hw=>rfl);(case hc=>first|exact(Aa LL).one);simp only[nn])|((with_reducible apply Bj);(case ho=>rfl);(case hx=>rfl);(case hw=>rfl);(case hc=>first|exact(Aa LL).one);simp only[nn])|((with_reducible apply At);(case ho=>rfl);(case hx=>rfl);(case hw=>rfl);(case hc=>first|exact(Aa LL).one);simp only[nn])|(go_at_call 100;refine(Ae _ _).mono ?_;rintro _ _ ⟨rfl,rfl⟩)|(go_at_call 99;refine(Ab _ _).mono ?_;rintro _ _ ⟨rfl,rfl⟩)|(go_at_call 72;refine(Ad _ _).mono ?_;rintro _ _ ⟨rfl,rfl⟩))
    refine(Aa HK _ (Bf (Aa HT) (Aa LL).below)).mono ?_
    rintro _ w9 ⟨rfl,hb⟩
    replace LL:=Ac ((Aa LL).on hb)
    clear hb
    go_wp2_with (first|((with_reducible apply Bh);(case ho=>rfl);(case hx=>rfl);(case hw=>rfl);(case hc=>first|exact(Aa LL).one);simp only[nn])|((with_reducible apply Bo);(case ho=>rfl);(case hx=>rfl);(case hw=>rfl);(case hc=>first|exact(Aa LL).one);simp only[nn])|((with_reducible apply Bt);(case ho=>rfl);(case hx=>rfl);(case hw=>rfl);(case hc=>first|exact(Aa LL).one);simp only[nn])|((with_reducible apply Bq);(case ho=>rfl);(case hx=>rfl);(case hw=>rfl);(case hc=>first|exact(Aa LL).one);simp only[nn])|((with_reducible apply Bl);(case ho=>rfl);(case hx=>rfl);(case hw=>rfl);(case hc=>first|exact(Aa LL).one);simp only[nn])|((with_reducible apply Bj);(case ho=>rfl);(case hx=>rfl);(case hw=>rfl);(case hc=>first|exact(Aa LL).one);simp only[nn])|((with_reducible apply At);(case ho=>rfl);(case hx=>rfl);(case hw=>rfl);(case hc=>first|exact(Aa LL).one);simp only[nn])|(go_at_call 100;refine(Ae _ _).mono ?_;rintro _ _ ⟨rfl,rfl⟩)|(go_at_call 99;refine(Ab _ _).mono ?_;rintro _ _ ⟨rfl,rfl⟩)|(go_at_call 72;refine(Ad _ _).mono ?_;rintro _ _ ⟨rfl,rfl⟩))
    go_ret
    exact⟨rfl,(Aa LL).below⟩
   ·go_enter func120,ntmps120
    go_wp2_with (first|((with_reducible apply Bh);(case ho=>rfl);(case hx=>rfl);(case hw=>rfl);(case hc=>first|exact(Aa LL).one);simp only[nn])|((with_reducible apply Bo);(case ho=>rfl);(case hx=>rfl);(case hw=>rfl);(case hc=>first|exact(Aa LL).one);simp only[nn])|((with_reducible apply Bt);(case ho=>rfl);(case hx=>rfl);(case hw=>rfl);(case hc=>first|exact(Aa LL).one);simp only[nn])|((with_reducible apply Bq);(case ho=>rfl);(case hx=>rfl);(case hw=>rfl);(case hc=>first|exact(Aa LL).one);simp only[nn])|((with_reducible apply Bl);(case ho=>rfl);(case hx=>rfl);(case hw=>rfl);(case hc=>first|exact(Aa LL).one);simp only[nn])|((with_reducible apply Bj);(case ho=>rfl);(case hx=>rfl);(case hw=>rfl);(case hc=>first|exact(Aa LL).one);simp only[nn])|((with_reducible apply At);(case ho=>rfl);(case hx=>rfl);(case hw=>rfl);(case hc=>first|exact(Aa LL).one);simp only[nn])|(go_at_call 100;refine(Ae _ _).mono ?_;rintro _ _ ⟨rfl,rfl⟩)|(go_at_call 99;refine(Ab _ _).mono ?_;rintro _ _ ⟨rfl,rfl⟩)|(go_at_call 72;refine(Ad _ _).mono ?_;rintro _ _ ⟨rfl,rfl⟩))
    refine(Aa HK _ (Bf (Aa HT) (Aa LL).below)).mono ?_
    rintro _ w10 ⟨rfl,hb⟩
    replace LL:=Ac ((Aa LL).on hb)
    clear hb
    go_wp2_with (first|((with_reducible apply Bh);(case ho=>rfl);(case hx=>rfl);(case hw=>rfl);(case hc=>first|exact(Aa LL).one);simp only[nn])|((with_reducible apply Bo);(case ho=>rfl);(case hx=>rfl);(case hw=>rfl);(case hc=>first|exact(Aa LL).one);simp only[nn])|((with_reducible apply Bt);(case ho=>rfl);(case hx=>rfl);(case hw=>rfl);(case hc=>first|exact(Aa LL).one);simp only[nn])|((with_reducible apply Bq);(case ho=>rfl);(case hx=>rfl);(case hw=>rfl);(case hc=>first|exact(Aa LL).one);simp only[nn])|((with_reducible apply Bl);(case ho=>rfl);(case hx=>rfl);(case hw=>rfl);(case hc=>first|exact(Aa LL).one);simp only[nn])|((with_reducible apply Bj);(case ho=>rfl);(case hx=>rfl);(case hw=>rfl);(case hc=>first|exact(Aa LL).one);simp only[nn])|((with_reducible apply At);(case ho=>rfl);(case hx=>rfl);(case hw=>rfl);(case hc=>first|exact(Aa LL).one);simp only[nn])|(go_at_call 100;refine(Ae _ _).mono ?_;rintro _ _ ⟨rfl,rfl⟩)|(go_at_call 99;refine(Ab _ _).mono ?_;rintro _ _ ⟨rfl,rfl⟩)|(go_at_call 72;refine(Ad _ _).mono ?_;rintro _ _ ⟨rfl,rfl⟩))
    refine(Aa HG _).mono ?_
    rintro _ w11 ⟨rfl,hb⟩
    replace LL:=Ac ((Aa LL).on hb)
    clear hb
    cases tg
    ·go_wp2_with (first|((with_reducible apply Bh);(case ho=>rfl);(case hx=>rfl);(case hw=>rfl);(case hc=>first|exact(Aa LL).one);simp only[nn])|((with_reducible apply Bo);(case ho=>rfl);(case hx=>rfl);(case hw=>rfl);(case hc=>first|exact(Aa LL).one);simp only[nn])|((with_reducible apply Bt);(case ho=>rfl);(case hx=>rfl);(case hw=>rfl);(case hc=>first|exact(Aa LL).one);simp only[nn])|((with_reducible apply Bq);(case ho=>rfl);(case hx=>rfl);(case hw=>rfl);(case hc=>first|exact(Aa LL).one);simp only[nn])|((with_reducible apply Bl);(case ho=>rfl);(case hx=>rfl);(case hw=>rfl);(case hc=>first|exact(Aa LL).one);simp only[nn])|((with_reducible apply Bj);(case ho=>rfl);(case hx=>rfl);(case hw=>rfl);(case hc=>first|exact(Aa LL).one);simp only[nn])|((with_reducible apply At);(case ho=>rfl);(case hx=>rfl);(case hw=>rfl);(case hc=>first|exact(Aa LL).one);simp only[nn])|(go_at_call 100;refine(Ae _ _).mono ?_;rintro _ _ ⟨rfl,rfl⟩)|(go_at_call 99;refine(Ab _ _).mono ?_;rintro _ _ ⟨rfl,rfl⟩)|(go_at_call 72;refine(Ad _ _).mono ?_;rintro _ _ ⟨rfl,rfl⟩))
     go_ret
     exact⟨rfl,(Aa LL).below⟩
    ·go_wp2_with (first|((with_reducible apply Bh);(case ho=>rfl);(case hx=>rfl);(case hw=>rfl);(case hc=>first|exact(Aa LL).one);simp only[nn])|((with_reducible apply Bo);(case ho=>rfl);(case hx=>rfl);(case hw=>rfl);(case hc=>first|exact(Aa LL).one);simp only[nn])|((with_reducible apply Bt);(case ho=>rfl);(case hx=>rfl);(case hw=>rfl);(case hc=>first|exact(Aa LL).one);simp only[nn])|((with_reducible apply Bq);(case ho=>rfl);(case hx=>rfl);(case hw=>rfl);(case hc=>first|exact(Aa LL).one);simp only[nn])|((with_reducible apply Bl);(case ho=>rfl);(case hx=>rfl);(case hw=>rfl);(case hc=>first|exact(Aa LL).one);simp only[nn])|((with_reducible apply Bj);(case ho=>rfl);(case hx=>rfl);(case hw=>rfl);(case hc=>first|exact(Aa LL).one);simp only[nn])|((with_reducible apply At);(case ho=>rfl);(case hx=>rfl);(case hw=>rfl);(case hc=>first|exact(Aa LL).one);simp only[nn])|(go_at_call 100;refine(Ae _ _).mono ?_;rintro _ _ ⟨rfl,rfl⟩)|(go_at_call 99;refine(Ab _ _).mono ?_;rintro _ _ ⟨rfl,rfl⟩)|(go_at_call 72;refine(Ad _ _).mono ?_;rintro _ _ ⟨rfl,rfl⟩))
     refine(Aa HS _).mono ?_
     rintro _ w12 ⟨rfl,hb⟩
     replace LL:=Ac ((Aa LL).on hb)
     clear hb
     go_wp2_with (first|((with_reducible apply Bh);(case ho=>rfl);(case hx=>rfl);(case hw=>rfl);(case hc=>first|exact(Aa LL).one);simp only[nn])|((with_reducible apply Bo);(case ho=>rfl);(case hx=>rfl);(case hw=>rfl);(case hc=>first|exact(Aa LL).one);simp only[nn])|((with_reducible apply Bt);(case ho=>rfl);(case hx=>rfl);(case hw=>rfl);(case hc=>first|exact(Aa LL).one);simp only[nn])|((with_reducible apply Bq);(case ho=>rfl);(case hx=>rfl);(case hw=>rfl);(case hc=>first|exact(Aa LL).one);simp only[nn])|((with_reducible apply Bl);(case ho=>rfl);(case hx=>rfl);(case hw=>rfl);(case hc=>first|exact(Aa LL).one);simp only[nn])|((with_reducible apply Bj);(case ho=>rfl);(case hx=>rfl);(case hw=>rfl);(case hc=>first|exact(Aa LL).one);simp only[nn])|((with_reducible apply At);(case ho=>rfl);(case hx=>rfl);(case hw=>rfl);(case hc=>first|exact(Aa LL).one);simp only[nn])|(go_at_call 100;refine(Ae _ _).mono ?_;rintro _ _ ⟨rfl,rfl⟩)|(go_at_call 99;refine(Ab _ _).mono ?_;rintro _ _ ⟨rfl,rfl⟩)|(go_at_call 72;refine(Ad _ _).mono ?_;rintro _ _ ⟨rfl,rfl⟩))
     go_ret
     exact⟨rfl,(Aa LL).below⟩
 ·have e3:(k==3)=false:=by simp[h3]
  rw[e3]
  by_cases h2:k=2
  ·subst h2
   cases qe
   ·go_enter func120,ntmps120
    go_wp2_with (first|((with_reducible apply Bh);(case ho=>rfl);(case hx=>rfl);(case hw=>rfl);(case hc=>first|exact(Aa LL).one);simp only[nn])|((with_reducible apply Bo);(case ho=>rfl);(case hx=>rfl);(case hw=>rfl);(case hc=>first|exact(Aa LL).one);simp only[nn])|((with_reducible apply Bt);(case ho=>rfl);(case hx=>rfl);(case hw=>rfl);(case hc=>first|exact(Aa LL).one);simp only[nn])|((with_reducible apply Bq);(case ho=>rfl);(case hx=>rfl);(case hw=>rfl);(case hc=>first|exact(Aa LL).one);simp only[nn])|((with_reducible apply Bl);(case ho=>rfl);(case hx=>rfl);(case hw=>rfl);(case hc=>first|exact(Aa LL).one);simp only[nn])|((with_reducible apply Bj);(case ho=>rfl);(case hx=>rfl);(case hw=>rfl);(case hc=>first|exact(Aa LL).one);simp only[nn])|((with_reducible apply At);(case ho=>rfl);(case hx=>rfl);(case hw=>rfl);(case hc=>first|exact(Aa LL).one);simp only[nn])|(go_at_call 100;refine(Ae _ _).mono ?_;rintro _ _ ⟨rfl,rfl⟩)|(go_at_call 99;refine(Ab _ _).mono ?_;rintro _ _ ⟨rfl,rfl⟩)|(go_at_call 72;refine(Ad _ _).mono ?_;rintro _ _ ⟨rfl,rfl⟩))
    refine(Aa HK _ (Bf (Aa HT) (Aa LL).below)).mono ?_
    rintro _ w13 ⟨rfl,hb⟩
    replace LL:=Ac ((Aa LL).on hb)
    clear hb
    go_wp2_with (first|((with_reducible apply Bh);(case ho=>rfl);(case hx=>rfl);(case hw=>rfl);(case hc=>first|exact(Aa LL).one);simp only[nn])|((with_reducible apply Bo);(case ho=>rfl);(case hx=>rfl);(case hw=>rfl);(case hc=>first|exact(Aa LL).one);simp only[nn])|((with_reducible apply Bt);(case ho=>rfl);(case hx=>rfl);(case hw=>rfl);(case hc=>first|exact(Aa LL).one);simp only[nn])|((with_reducible apply Bq);(case ho=>rfl);(case hx=>rfl);(case hw=>rfl);(case hc=>first|exact(Aa LL).one);simp only[nn])|((with_reducible apply Bl);(case ho=>rfl);(case hx=>rfl);(case hw=>rfl);(case hc=>first|exact(Aa LL).one);simp only[nn])|((with_reducible apply Bj);(case ho=>rfl);(case hx=>rfl);(case hw=>rfl);(case hc=>first|exact(Aa LL).one);simp only[nn])|((with_reducible apply At);(case ho=>rfl);(case hx=>rfl);(case hw=>rfl);(case hc=>first|exact(Aa LL).one);simp only[nn])|(go_at_call 100;refine(Ae _ _).mono ?_;rintro _ _ ⟨rfl,rfl⟩)|(go_at_call 99;refine(Ab _ _).mono ?_;rintro _ _ ⟨rfl,rfl⟩)|(go_at_call 72;refine(Ad _ _).mono ?_;rintro _ _ ⟨rfl,rfl⟩))
    go_ret
    exact⟨rfl,(Aa LL).below⟩
   ·cases qc
    ·go_enter func120,ntmps120
     go_wp2_with (first|((with_reducible apply Bh);(case ho=>rfl);(case hx=>rfl);(case hw=>rfl);(case hc=>first|exact(Aa LL).one);simp only[nn])|((with_reducible apply Bo);(case ho=>rfl);(case hx=>rfl);(case hw=>rfl);(case hc=>first|exact(Aa LL).one);simp only[nn])|((with_reducible apply Bt);(case ho=>rfl);(case hx=>rfl);(case hw=>rfl);(case hc=>first|exact(Aa LL).one);simp only[nn])|((with_reducible apply Bq);(case ho=>rfl);(case hx=>rfl);(case hw=>rfl);(case hc=>first|exact(Aa LL).one);simp only[nn])|((with_reducible apply Bl);(case ho=>rfl);(case hx=>rfl);(case hw=>rfl);(case hc=>first|exact(Aa LL).one);simp only[nn])|((with_reducible apply Bj);(case ho=>rfl);(case hx=>rfl);(case hw=>rfl);(case hc=>first|exact(Aa LL).one);simp only[nn])|((with_reducible apply At);(case ho=>rfl);(case hx=>rfl);(case hw=>rfl);(case hc=>first|exact(Aa LL).one);simp only[nn])|(go_at_call 100;refine(Ae _ _).mono ?_;rintro _ _ ⟨rfl,rfl⟩)|(go_at_call 99;refine(Ab _ _).mono ?_;rintro _ _ ⟨rfl,rfl⟩)|(go_at_call 72;refine(Ad _ _).mono ?_;rintro _ _ ⟨rfl,rfl⟩))
     refine(Aa HK _ (Bf (Aa HT) (Aa LL).below)).mono ?_
     rintro _ w14 ⟨rfl,hb⟩
     replace LL:=Ac ((Aa LL).on hb)
     clear hb
     go_wp2_with (first|((with_reducible apply Bh);(case ho=>rfl);(case hx=>rfl);(case hw=>rfl);(case hc=>first|exact(Aa LL).one);simp only[nn])|((with_reducible apply Bo);(case ho=>rfl);(case hx=>rfl);(case hw=>rfl);(case hc=>first|exact(Aa LL).one);simp only[nn])|((with_reducible apply Bt);(case ho=>rfl);(case hx=>rfl);(case hw=>rfl);(case hc=>first|exact(Aa LL).one);simp only[nn])|((with_reducible apply Bq);(case ho=>rfl);(case hx=>rfl);(case hw=>rfl);(case hc=>first|exact(Aa LL).one);simp only[nn])|((with_reducible apply Bl);(case ho=>rfl);(case hx=>rfl);(case hw=>rfl);(case hc=>first|exact(Aa LL).one);simp only[nn])|((with_reducible apply Bj);(case ho=>rfl);(case hx=>rfl);(case hw=>rfl);(case hc=>first|exact(Aa LL).one);simp only[nn])|((with_reducible apply At);(case ho=>rfl);(case hx=>rfl);(case hw=>rfl);(case hc=>first|exact(Aa LL).one);simp only[nn])|(go_at_call 100;refine(Ae _ _).mono ?_;rintro _ _ ⟨rfl,rfl⟩)|(go_at_call 99;refine(Ab _ _).mono ?_;rintro _ _ ⟨rfl,rfl⟩)|(go_at_call 72;refine(Ad _ _).mono ?_;rintro _ _ ⟨rfl,rfl⟩))
     go_ret
     exact⟨rfl,(Aa LL).below⟩
    ·go_enter func120,ntmps120
     go_wp2_with (first|((with_reducible apply Bh);(case ho=>rfl);(case hx=>rfl);(case hw=>rfl);(case hc=>first|exact(Aa LL).one);simp only[nn])|((with_reducible apply Bo);(case ho=>rfl);(case hx=>rfl);(case hw=>rfl);(case hc=>first|exact(Aa LL).one);simp only[nn])|((with_reducible apply Bt);(case ho=>rfl);(case hx=>rfl);(case hw=>rfl);(case hc=>first|exact(Aa LL).one);simp only[nn])|((with_reducible apply Bq);(case ho=>rfl);(case hx=>rfl);(case hw=>rfl);(case hc=>first|exact(Aa LL).one);simp only[nn])|((with_reducible apply Bl);(case ho=>rfl);(case hx=>rfl);(case hw=>rfl);(case hc=>first|exact(Aa LL).one);simp only[nn])|((with_reducible apply Bj);(case ho=>rfl);(case hx=>rfl);(case hw=>rfl);(case hc=>first|exact(Aa LL).one);simp only[nn])|((with_reducible apply At);(case ho=>rfl);(case hx=>rfl);(case hw=>rfl);(case hc=>first|exact(Aa LL).one);simp only[nn])|(go_at_call 100;refine(Ae _ _).mono ?_;rintro _ _ ⟨rfl,rfl⟩)|(go_at_call 99;refine(Ab _ _).mono ?_;rintro _ _ ⟨rfl,rfl⟩)|(go_at_call 72;refine(Ad _ _).mono ?_;rintro _ _ ⟨rfl,rfl⟩))
     refine(Aa HK _ (Bf (Aa HT) (Aa LL).below)).mono ?_
     rintro _ w15 ⟨rfl,hb⟩
     replace LL:=Ac ((Aa LL).on hb)
     clear hb
     go_wp2_with (first|((with_reducible apply Bh);(case ho=>rfl);(case hx=>rfl);(case hw=>rfl);(case hc=>first|exact(Aa LL).one);simp only[nn])|((with_reducible apply Bo);(case ho=>rfl);(case hx=>rfl);(case hw=>rfl);(case hc=>first|exact(Aa LL).one);simp only[nn])|((with_reducible apply Bt);(case ho=>rfl);(case hx=>rfl);(case hw=>rfl);(case hc=>first|exact(Aa LL).one);simp only[nn])|((with_reducible apply Bq);(case ho=>rfl);(case hx=>rfl);(case hw=>rfl);(case hc=>first|exact(Aa LL).one);simp only[nn])|((with_reducible apply Bl);(case ho=>rfl);(case hx=>rfl);(case hw=>rfl);(case hc=>first|exact(Aa LL).one);simp only[nn])|((with_reducible apply Bj);(case ho=>rfl);(case hx=>rfl);(case hw=>rfl);(case hc=>first|exact(Aa LL).one);simp only[nn])|((with_reducible apply At);(case ho=>rfl);(case hx=>rfl);(case hw=>rfl);(case hc=>first|exact(Aa LL).one);simp only[nn])|(go_at_call 100;refine(Ae _ _).mono ?_;rintro _ _ ⟨rfl,rfl⟩)|(go_at_call 99;refine(Ab _ _).mono ?_;rintro _ _ ⟨rfl,rfl⟩)|(go_at_call 72;refine(Ad _ _).mono ?_;rintro _ _ ⟨rfl,rfl⟩))
     refine(Aa HV _).mono ?_
     rintro _ w16 ⟨rfl,hb⟩
     replace LL:=Ac ((Aa LL).on hb)
     clear hb
     cases tv
     ·go_wp2_with (first|((with_reducible apply Bh);(case ho=>rfl);(case hx=>rfl);(case hw=>rfl);(case hc=>first|exact(Aa LL).one);simp only[nn])|((with_reducible apply Bo);(case ho=>rfl);(case hx=>rfl);(case hw=>rfl);(case hc=>first|exact(Aa LL).one);simp only[nn])|((with_reducible apply Bt);(case ho=>rfl);(case hx=>rfl);(case hw=>rfl);(case hc=>first|exact(Aa LL).one);simp only[nn])|((with_reducible apply Bq);(case ho=>rfl);(case hx=>rfl);(case hw=>rfl);(case hc=>first|exact(Aa LL).one);simp only[nn])|((with_reducible apply Bl);(case ho=>rfl);(case hx=>rfl);(case hw=>rfl);(case hc=>first|exact(Aa LL).one);simp only[nn])|((with_reducible apply Bj);(case ho=>rfl);(case hx=>rfl);(case hw=>rfl);(case hc=>first|exact(Aa LL).one);simp only[nn])|((with_reducible apply At);(case ho=>rfl);(case hx=>rfl);(case hw=>rfl);(case hc=>first|exact(Aa LL).one);simp only[nn])|(go_at_call 100;refine(Ae _ _).mono ?_;rintro _ _ ⟨rfl,rfl⟩)|(go_at_call 99;refine(Ab _ _).mono ?_;rintro _ _ ⟨rfl,rfl⟩)|(go_at_call 72;refine(Ad _ _).mono ?_;rintro _ _ ⟨rfl,rfl⟩))
      go_ret
      exact⟨rfl,(Aa LL).below⟩
     ·go_wp2_with (first|((with_reducible apply Bh);(case ho=>rfl);(case hx=>rfl);(case hw=>rfl);(case hc=>first|exact(Aa LL).one);simp only[nn])|((with_reducible apply Bo);(case ho=>rfl);(case hx=>rfl);(case hw=>rfl);(case hc=>first|exact(Aa LL).one);simp only[nn])|((with_reducible apply Bt);(case ho=>rfl);(case hx=>rfl);(case hw=>rfl);(case hc=>first|exact(Aa LL).one);simp only[nn])|((with_reducible apply Bq);(case ho=>rfl);(case hx=>rfl);(case hw=>rfl);(case hc=>first|exact(Aa LL).one);simp only[nn])|((with_reducible apply Bl);(case ho=>rfl);(case hx=>rfl);(case hw=>rfl);(case hc=>first|exact(Aa LL).one);simp only[nn])|((with_reducible apply Bj);(case ho=>rfl);(case hx=>rfl);(case hw=>rfl);(case hc=>first|exact(Aa LL).one);simp only[nn])|((with_reducible apply At);(case ho=>rfl);(case hx=>rfl);(case hw=>rfl);(case hc=>first|exact(Aa LL).one);simp only[nn])|(go_at_call 100;refine(Ae _ _).mono ?_;rintro _ _ ⟨rfl,rfl⟩)|(go_at_call 99;refine(Ab _ _).mono ?_;rintro _ _ ⟨rfl,rfl⟩)|(go_at_call 72;refine(Ad _ _).mono ?_;rintro _ _ ⟨rfl,rfl⟩))
      go_ret
      exact⟨rfl,(Aa LL).below⟩
  ·have e2:(k==2)=false:=by simp[h2]
   rw[e2]
   cases qe
   ·go_enter func120,ntmps120
    go_wp2_with (first|((with_reducible apply Bh);(case ho=>rfl);(case hx=>rfl);(case hw=>rfl);(case hc=>first|exact(Aa LL).one);simp only[nn])|((with_reducible apply Bo);(case ho=>rfl);(case hx=>rfl);(case hw=>rfl);(case hc=>first|exact(Aa LL).one);simp only[nn])|((with_reducible apply Bt);(case ho=>rfl);(case hx=>rfl);(case hw=>rfl);(case hc=>first|exact(Aa LL).one);simp only[nn])|((with_reducible apply Bq);(case ho=>rfl);(case hx=>rfl);(case hw=>rfl);(case hc=>first|exact(Aa LL).one);simp only[nn])|((with_reducible apply Bl);(case ho=>rfl);(case hx=>rfl);(case hw=>rfl);(case hc=>first|exact(Aa LL).one);simp only[nn])|((with_reducible apply Bj);(case ho=>rfl);(case hx=>rfl);(case hw=>rfl);(case hc=>first|exact(Aa LL).one);simp only[nn])|((with_reducible apply At);(case ho=>rfl);(case hx=>rfl);(case hw=>rfl);(case hc=>first|exact(Aa LL).one);simp only[nn])|(go_at_call 100;refine(Ae _ _).mono ?_;rintro _ _ ⟨rfl,rfl⟩)|(go_at_call 99;refine(Ab _ _).mono ?_;rintro _ _ ⟨rfl,rfl⟩)|(go_at_call 72;refine(Ad _ _).mono ?_;rintro _ _ ⟨rfl,rfl⟩))
    refine(Aa HK _ (Bf (Aa HT) (Aa LL).below)).mono ?_
    rintro _ w17 ⟨rfl,hb⟩
    replace LL:=Ac ((Aa LL).on hb)
    clear hb
    go_wp2_with (first|((with_reducible apply Bh);(case ho=>rfl);(case hx=>rfl);(case hw=>rfl);(case hc=>first|exact(Aa LL).one);simp only[nn])|((with_reducible apply Bo);(case ho=>rfl);(case hx=>rfl);(case hw=>rfl);(case hc=>first|exact(Aa LL).one);simp only[nn])|((with_reducible apply Bt);(case ho=>rfl);(case hx=>rfl);(case hw=>rfl);(case hc=>first|exact(Aa LL).one);simp only[nn])|((with_reducible apply Bq);(case ho=>rfl);(case hx=>rfl);(case hw=>rfl);(case hc=>first|exact(Aa LL).one);simp only[nn])|((with_reducible apply Bl);(case ho=>rfl);(case hx=>rfl);(case hw=>rfl);(case hc=>first|exact(Aa LL).one);simp only[nn])|((with_reducible apply Bj);(case ho=>rfl);(case hx=>rfl);(case hw=>rfl);(case hc=>first|exact(Aa LL).one);simp only[nn])|((with_reducible apply At);(case ho=>rfl);(case hx=>rfl);(case hw=>rfl);(case hc=>first|exact(Aa LL).one);simp only[nn])|(go_at_call 100;refine(Ae _ _).mono ?_;rintro _ _ ⟨rfl,rfl⟩)|(go_at_call 99;refine(Ab _ _).mono ?_;rintro _ _ ⟨rfl,rfl⟩)|(go_at_call 72;refine(Ad _ _).mono ?_;rintro _ _ ⟨rfl,rfl⟩))
    go_ret
    exact⟨rfl,(Aa LL).below⟩
   ·cases qc
    ·go_enter func120,ntmps120
     go_wp2_with (first|((with_reducible apply Bh);(case ho=>rfl);(case hx=>rfl);(case hw=>rfl);(case hc=>first|exact(Aa LL).one);simp only[nn])|((with_reducible apply Bo);(case ho=>rfl);(case hx=>rfl);(case hw=>rfl);(case hc=>first|exact(Aa LL).one);simp only[nn])|((with_reducible apply Bt);(case ho=>rfl);(case hx=>rfl);(case hw=>rfl);(case hc=>first|exact(Aa LL).one);simp only[nn])|((with_reducible apply Bq);(case ho=>rfl);(case hx=>rfl);(case hw=>rfl);(case hc=>first|exact(Aa LL).one);simp only[nn])|((with_reducible apply Bl);(case ho=>rfl);(case hx=>rfl);(case hw=>rfl);(case hc=>first|exact(Aa LL).one);simp only[nn])|((with_reducible apply Bj);(case ho=>rfl);(case hx=>rfl);(case hw=>rfl);(case hc=>first|exact(Aa LL).one);simp only[nn])|((with_reducible apply At);(case ho=>rfl);(case hx=>rfl);(case hw=>rfl);(case hc=>first|exact(Aa LL).one);simp only[nn])|(go_at_call 100;refine(Ae _ _).mono ?_;rintro _ _ ⟨rfl,rfl⟩)|(go_at_call 99;refine(Ab _ _).mono ?_;rintro _ _ ⟨rfl,rfl⟩)|(go_at_call 72;refine(Ad _ _).mono ?_;rintro _ _ ⟨rfl,rfl⟩))
     refine(Aa HK _ (Bf (Aa HT) (Aa LL).below)).mono ?_
     rintro _ w18 ⟨rfl,hb⟩
     replace LL:=Ac ((Aa LL).on hb)
     clear hb
     go_wp2_with (first|((with_reducible apply Bh);(case ho=>rfl);(case hx=>rfl);(case hw=>rfl);(case hc=>first|exact(Aa LL).one);simp only[nn])|((with_reducible apply Bo);(case ho=>rfl);(case hx=>rfl);(case hw=>rfl);(case hc=>first|exact(Aa LL).one);simp only[nn])|((with_reducible apply Bt);(case ho=>rfl);(case hx=>rfl);(case hw=>rfl);(case hc=>first|exact(Aa LL).one);simp only[nn])|((with_reducible apply Bq);(case ho=>rfl);(case hx=>rfl);(case hw=>rfl);(case hc=>first|exact(Aa LL).one);simp only[nn])|((with_reducible apply Bl);(case ho=>rfl);(case hx=>rfl);(case hw=>rfl);(case hc=>first|exact(Aa LL).one);simp only[nn])|((with_reducible apply Bj);(case ho=>rfl);(case hx=>rfl);(case hw=>rfl);(case hc=>first|exact(Aa LL).one);simp only[nn])|((with_reducible apply At);(case ho=>rfl);(case hx=>rfl);(case hw=>rfl);(case hc=>first|exact(Aa LL).one);simp only[nn])|(go_at_call 100;refine(Ae _ _).mono ?_;rintro _ _ ⟨rfl,rfl⟩)|(go_at_call 99;refine(Ab _ _).mono ?_;rintro _ _ ⟨rfl,rfl⟩)|(go_at_call 72;refine(Ad _ _).mono ?_;rintro _ _ ⟨rfl,rfl⟩))
     go_ret
     exact⟨rfl,(Aa LL).below⟩
    ·go_enter func120,ntmps120
     go_wp2_with (first|((with_reducible apply Bh);(case ho=>rfl);(case hx=>rfl);(case hw=>rfl);(case hc=>first|exact(Aa LL).one);simp only[nn])|((with_reducible apply Bo);(case ho=>rfl);(case hx=>rfl);(case hw=>rfl);(case hc=>first|exact(Aa LL).one);simp only[nn])|((with_reducible apply Bt);(case ho=>rfl);(case hx=>rfl);(case hw=>rfl);(case hc=>first|exact(Aa LL).one);simp only[nn])|((with_reducible apply Bq);(case ho=>rfl);(case hx=>rfl);(case hw=>rfl);(case hc=>first|exact(Aa LL).one);simp only[nn])|((with_reducible apply Bl);(case ho=>rfl);(case hx=>rfl);(case hw=>rfl);(case hc=>first|exact(Aa LL).one);simp only[nn])|((with_reducible apply Bj);(case ho=>rfl);(case hx=>rfl);(case hw=>rfl);(case hc=>first|exact(Aa LL).one);simp only[nn])|((with_reducible apply At);(case ho=>rfl);(case hx=>rfl);(case hw=>rfl);(case hc=>first|exact(Aa LL).one);simp only[nn])|(go_at_call 100;refine(Ae _ _).mono ?_;rintro _ _ ⟨rfl,rfl⟩)|(go_at_call 99;refine(Ab _ _).mono ?_;rintro _ _ ⟨rfl,rfl⟩)|(go_at_call 72;refine(Ad _ _).mono ?_;rintro _ _ ⟨rfl,rfl⟩))
     refine(Aa HK _ (Bf (Aa HT) (Aa LL).below)).mono ?_
     rintro _ w19 ⟨rfl,hb⟩
     replace LL:=Ac ((Aa LL).on hb)
     clear hb
     go_wp2_with (first|((with_reducible apply Bh);(case ho=>rfl);(case hx=>rfl);(case hw=>rfl);(case hc=>first|exact(Aa LL).one);simp only[nn])|((with_reducible apply Bo);(case ho=>rfl);(case hx=>rfl);(case hw=>rfl);(case hc=>first|exact(Aa LL).one);simp only[nn])|((with_reducible apply Bt);(case ho=>rfl);(case hx=>rfl);(case hw=>rfl);(case hc=>first|exact(Aa LL).one);simp only[nn])|((with_reducible apply Bq);(case ho=>rfl);(case hx=>rfl);(case hw=>rfl);(case hc=>first|exact(Aa LL).one);simp only[nn])|((with_reducible apply Bl);(case ho=>rfl);(case hx=>rfl);(case hw=>rfl);(case hc=>first|exact(Aa LL).one);simp only[nn])|((with_reducible apply Bj);(case ho=>rfl);(case hx=>rfl);(case hw=>rfl);(case hc=>first|exact(Aa LL).one);simp only[nn])|((with_reducible apply At);(case ho=>rfl);(case hx=>rfl);(case hw=>rfl);(case hc=>first|exact(Aa LL).one);simp only[nn])|(go_at_call 100;refine(Ae _ _).mono ?_;rintro _ _ ⟨rfl,rfl⟩)|(go_at_call 99;refine(Ab _ _).mono ?_;rintro _ _ ⟨rfl,rfl⟩)|(go_at_call 72;refine(Ad _ _).mono ?_;rintro _ _ ⟨rfl,rfl⟩))
     go_ret
     exact⟨rfl,(Aa LL).below⟩
theorem Qs (d:DD) (hd:FD d) (w:World):Calls prog 105 #[d.agg] w fun e w'=>e= .returned (.bool (noV d))/\Below w.heap.size w w':=by
 have HB:=Ac (Di d hd)
 clear hd
 have LL:=Ac (Lie.new1 w (.D d))
 unfold noV
 generalize Df d=k at *
 generalize hqe:(d.e !=0)=qe at *
 generalize hqc:(d.c !=0)=qc at *
 have hq0:=Gi d
 rw[hq0]
 clear hq0
 by_cases hk:k=1
 ·subst hk
  cases qe
  ·go_enter func105,ntmps105
   go_wp2_with (first|((with_reducible apply Bh);(case ho=>rfl);(case hx=>rfl);(case hw=>rfl);(case hc=>first|exact(Aa LL).one);simp only[nn])|((with_reducible apply Bo);(case ho=>rfl);(case hx=>rfl);(case hw=>rfl);(case hc=>first|exact(Aa LL).one);simp only[nn])|((with_reducible apply Bt);(case ho=>rfl);(case hx=>rfl);(case hw=>rfl);(case hc=>first|exact(Aa LL).one);simp only[nn])|((with_reducible apply Bq);(case ho=>rfl);(case hx=>rfl);(case hw=>rfl);(case hc=>first|exact(Aa LL).one);simp only[nn])|((with_reducible apply Bl);(case ho=>rfl);(case hx=>rfl);(case hw=>rfl);(case hc=>first|exact(Aa LL).one);simp only[nn])|((with_reducible apply Bj);(case ho=>rfl);(case hx=>rfl);(case hw=>rfl);(case hc=>first|exact(Aa LL).one);simp only[nn])|((with_reducible apply At);(case ho=>rfl);(case hx=>rfl);(case hw=>rfl);(case hc=>first|exact(Aa LL).one);simp only[nn])|(go_at_call 100;refine(Ae _ _).mono ?_;rintro _ _ ⟨rfl,rfl⟩)|(go_at_call 99;refine(Ab _ _).mono ?_;rintro _ _ ⟨rfl,rfl⟩)|(go_at_call 72;refine(Ad _ _).mono ?_;rintro _ _ ⟨rfl,rfl⟩))
   refine(Aa HB _).mono ?_
   rintro _ w20 ⟨rfl,hb⟩
   replace LL:=Ac ((Aa LL).on hb)
   clear hb
   go_wp2_with (first|((with_reducible apply Bh);(case ho=>rfl);(case hx=>rfl);(case hw=>rfl);(case hc=>first|exact(Aa LL).one);simp only[nn])|((with_reducible apply Bo);(case ho=>rfl);(case hx=>rfl);(case hw=>rfl);(case hc=>first|exact(Aa LL).one);simp only[nn])|((with_reducible apply Bt);(case ho=>rfl);(case hx=>rfl);(case hw=>rfl);(case hc=>first|exact(Aa LL).one);simp only[nn])|((with_reducible apply Bq);(case ho=>rfl);(case hx=>rfl);(case hw=>rfl);(case hc=>first|exact(Aa LL).one);simp only[nn])|((with_reducible apply Bl);(case ho=>rfl);(case hx=>rfl);(case hw=>rfl);(case hc=>first|exact(Aa LL).one);simp only[nn])|((with_reducible apply Bj);(case ho=>rfl);(case hx=>rfl);(case hw=>rfl);(case hc=>first|exact(Aa LL).one);simp only[nn])|((with_reducible apply At);(case ho=>rfl);(case hx=>rfl);(case hw=>rfl);(case hc=>first|exact(Aa LL).one);simp only[nn])|(go_at_call 100;refine(Ae _ _).mono ?_;rintro _ _ ⟨rfl,rfl⟩)|(go_at_call 99;refine(Ab _ _).mono ?_;rintro _ _ ⟨rfl,rfl⟩)|(go_at_call 72;refine(Ad _ _).mono ?_;rintro _ _ ⟨rfl,rfl⟩))
   go_ret
   exact⟨rfl,(Aa LL).below⟩
  ·go_enter func105,ntmps105
   go_wp2_with (first|((with_reducible apply Bh);(case ho=>rfl);(case hx=>rfl);(case hw=>rfl);(case hc=>first|exact(Aa LL).one);simp only[nn])|((with_reducible apply Bo);(case ho=>rfl);(case hx=>rfl);(case hw=>rfl);(case hc=>first|exact(Aa LL).one);simp only[nn])|((with_reducible apply Bt);(case ho=>rfl);(case hx=>rfl);(case hw=>rfl);(case hc=>first|exact(Aa LL).one);simp only[nn])|((with_reducible apply Bq);(case ho=>rfl);(case hx=>rfl);(case hw=>rfl);(case hc=>first|exact(Aa LL).one);simp only[nn])|((with_reducible apply Bl);(case ho=>rfl);(case hx=>rfl);(case hw=>rfl);(case hc=>first|exact(Aa LL).one);simp only[nn])|((with_reducible apply Bj);(case ho=>rfl);(case hx=>rfl);(case hw=>rfl);(case hc=>first|exact(Aa LL).one);simp only[nn])|((with_reducible apply At);(case ho=>rfl);(case hx=>rfl);(case hw=>rfl);(case hc=>first|exact(Aa LL).one);simp only[nn])|(go_at_call 100;refine(Ae _ _).mono ?_;rintro _ _ ⟨rfl,rfl⟩)|(go_at_call 99;refine(Ab _ _).mono ?_;rintro _ _ ⟨rfl,rfl⟩)|(go_at_call 72;refine(Ad _ _).mono ?_;rintro _ _ ⟨rfl,rfl⟩))
   refine(Aa HB _).mono ?_
   rintro _ w20 ⟨rfl,hb⟩
   replace LL:=Ac ((Aa LL).on hb)
   clear hb
   go_wp2_with (first|((with_reducible apply Bh);(case ho=>rfl);(case hx=>rfl);(case hw=>rfl);(case hc=>first|exact(Aa LL).one);simp only[nn])|((with_reducible apply Bo);(case ho=>rfl);(case hx=>rfl);(case hw=>rfl);(case hc=>first|exact(Aa LL).one);simp only[nn])|((with_reducible apply Bt);(case ho=>rfl);(case hx=>rfl);(case hw=>rfl);(case hc=>first|exact(Aa LL).one);simp only[nn])|((with_reducible apply Bq);(case ho=>rfl);(case hx=>rfl);(case hw=>rfl);(case hc=>first|exact(Aa LL).one);simp only[nn])|((with_reducible apply Bl);(case ho=>rfl);(case hx=>rfl);(case hw=>rfl);(case hc=>first|exact(Aa LL).one);simp only[nn])|((with_reducible apply Bj);(case ho=>rfl);(case hx=>rfl);(case hw=>rfl);(case hc=>first|exact(Aa LL).one);simp only[nn])|((with_reducible apply At);(case ho=>rfl);(case hx=>rfl);(case hw=>rfl);(case hc=>first|exact(Aa LL).one);simp only[nn])|(go_at_call 100;refine(Ae _ _).mono ?_;rintro _ _ ⟨rfl,rfl⟩)|(go_at_call 99;refine(Ab _ _).mono ?_;rintro _ _ ⟨rfl,rfl⟩)|(go_at_call 72;refine(Ad _ _).mono ?_;rintro _ _ ⟨rfl,rfl⟩))
   go_ret
   exact⟨rfl,(Aa LL).below⟩
 ·have hk2:(k==1)=false:=by simp[hk]
  rw[hk2]
  go_enter func105,ntmps105
  go_wp2_with (first|((with_reducible apply Bh);(case ho=>rfl);(case hx=>rfl);(case hw=>rfl);(case hc=>first|exact(Aa LL).one);simp only[nn])|((with_reducible apply Bo);(case ho=>rfl);(case hx=>rfl);(case hw=>rfl);(case hc=>first|exact(Aa LL).one);simp only[nn])|((with_reducible apply Bt);(case ho=>rfl);(case hx=>rfl);(case hw=>rfl);(case hc=>first|exact(Aa LL).one);simp only[nn])|((with_reducible apply Bq);(case ho=>rfl);(case hx=>rfl);(case hw=>rfl);(case hc=>first|exact(Aa LL).one);simp only[nn])|((with_reducible apply Bl);(case ho=>rfl);(case hx=>rfl);(case hw=>rfl);(case hc=>first|exact(Aa LL).one);simp only[nn])|((with_reducible apply Bj);(case ho=>rfl);(case hx=>rfl);(case hw=>rfl);(case hc=>first|exact(Aa LL).one);simp only[nn])|((with_reducible apply At);(case ho=>rfl);(case hx=>rfl);(case hw=>rfl);(case hc=>first|exact(Aa LL).one);simp only[nn])|(go_at_call 100;refine(Ae _ _).mono ?_;rintro _ _ ⟨rfl,rfl⟩)|(go_at_call 99;refine(Ab _ _).mono ?_;rintro _ _ ⟨rfl,rfl⟩)|(go_at_call 72;refine(Ad _ _).mono ?_;rintro _ _ ⟨rfl,rfl⟩))
  refine(Aa HB _).mono ?_
  rintro _ w20 ⟨rfl,hb⟩
  replace LL:=Ac ((Aa LL).on hb)
  clear hb
  go_wp2_with (first|((with_reducible apply Bh);(case ho=>rfl);(case hx=>rfl);(case hw=>rfl);(case hc=>first|exact(Aa LL).one);simp only[nn])|((with_reducible apply Bo);(case ho=>rfl);(case hx=>rfl);(case hw=>rfl);(case hc=>first|exact(Aa LL).one);simp only[nn])|((with_reducible apply Bt);(case ho=>rfl);(case hx=>rfl);(case hw=>rfl);(case hc=>first|exact(Aa LL).one);simp only[nn])|((with_reducible apply Bq);(case ho=>rfl);(case hx=>rfl);(case hw=>rfl);(case hc=>first|exact(Aa LL).one);simp only[nn])|((with_reducible apply Bl);(case ho=>rfl);(case hx=>rfl);(case hw=>rfl);(case hc=>first|exact(Aa LL).one);simp only[nn])|((with_reducible apply Bj);(case ho=>rfl);(case hx=>rfl);(case hw=>rfl);(case hc=>first|exact(Aa LL).one);simp only[nn])|((with_reducible apply At);(case ho=>rfl);(case hx=>rfl);(case hw=>rfl);(case hc=>first|exact(Aa LL).one);simp only[nn])|(go_at_call 100;refine(Ae _ _).mono ?_;rintro _ _ ⟨rfl,rfl⟩)|(go_at_call 99;refine(Ab _ _).mono ?_;rintro _ _ ⟨rfl,rfl⟩)|(go_at_call 72;refine(Ad _ _).mono ?_;rintro _ _ ⟨rfl,rfl⟩))
  go_ret
  exact⟨rfl,(Aa LL).below⟩
theorem ZaK (d:DD) (hd:FD d) (w:World) (hT:Lib.Utf8Tabs 4 5 w):Calls prog 104 #[d.agg] w fun e w'=>e= .returned (.bool (stV d))/\Below w.heap.size w w':=by
 have HA:=Ac (Qs d hd)
 have HB:=Ac (fun w hT=>ZbR d hd w hT)
 have HT:=Ac hT
 clear hT
 clear hd
 have LL:=Ac (Lie.new1 w (.D d))
 unfold stV
 generalize noV d=n at *
 generalize Od d=wh at *
 have hq0:=Gi d
 rw[hq0]
 clear hq0
 go_enter func104,ntmps104
 go_wp2_with (first|((with_reducible apply Bh);(case ho=>rfl);(case hx=>rfl);(case hw=>rfl);(case hc=>first|exact(Aa LL).one);simp only[nn])|((with_reducible apply Bo);(case ho=>rfl);(case hx=>rfl);(case hw=>rfl);(case hc=>first|exact(Aa LL).one);simp only[nn])|((with_reducible apply Bt);(case ho=>rfl);(case hx=>rfl);(case hw=>rfl);(case hc=>first|exact(Aa LL).one);simp only[nn])|((with_reducible apply Bq);(case ho=>rfl);(case hx=>rfl);(case hw=>rfl);(case hc=>first|exact(Aa LL).one);simp only[nn])|((with_reducible apply Bl);(case ho=>rfl);(case hx=>rfl);(case hw=>rfl);(case hc=>first|exact(Aa LL).one);simp only[nn])|((with_reducible apply Bj);(case ho=>rfl);(case hx=>rfl);(case hw=>rfl);(case hc=>first|exact(Aa LL).one);simp only[nn])|((with_reducible apply At);(case ho=>rfl);(case hx=>rfl);(case hw=>rfl);(case hc=>first|exact(Aa LL).one);simp only[nn])|(go_at_call 100;refine(Ae _ _).mono ?_;rintro _ _ ⟨rfl,rfl⟩)|(go_at_call 99;refine(Ab _ _).mono ?_;rintro _ _ ⟨rfl,rfl⟩)|(go_at_call 72;refine(Ad _ _).mono ?_;rintro _ _ ⟨rfl,rfl⟩))
 refine(Aa HA _).mono ?_
 rintro _ w21 ⟨rfl,hb⟩
 replace LL:=Ac ((Aa LL).on hb)
 clear hb
 cases n
 ·go_wp2_with (first|((with_reducible apply Bh);(case ho=>rfl);(case hx=>rfl);(case hw=>rfl);(case hc=>first|exact(Aa LL).one);simp only[nn])|((with_reducible apply Bo);(case ho=>rfl);(case hx=>rfl);(case hw=>rfl);(case hc=>first|exact(Aa LL).one);simp only[nn])|((with_reducible apply Bt);(case ho=>rfl);(case hx=>rfl);(case hw=>rfl);(case hc=>first|exact(Aa LL).one);simp only[nn])|((with_reducible apply Bq);(case ho=>rfl);(case hx=>rfl);(case hw=>rfl);(case hc=>first|exact(Aa LL).one);simp only[nn])|((with_reducible apply Bl);(case ho=>rfl);(case hx=>rfl);(case hw=>rfl);(case hc=>first|exact(Aa LL).one);simp only[nn])|((with_reducible apply Bj);(case ho=>rfl);(case hx=>rfl);(case hw=>rfl);(case hc=>first|exact(Aa LL).one);simp only[nn])|((with_reducible apply At);(case ho=>rfl);(case hx=>rfl);(case hw=>rfl);(case hc=>first|exact(Aa LL).one);simp only[nn])|(go_at_call 100;refine(Ae _ _).mono ?_;rintro _ _ ⟨rfl,rfl⟩)|(go_at_call 99;refine(Ab _ _).mono ?_;rintro _ _ ⟨rfl,rfl⟩)|(go_at_call 72;refine(Ad _ _).mono ?_;rintro _ _ ⟨rfl,rfl⟩))
  refine(Aa HB _ (Bf (Aa HT) (Aa LL).below)).mono ?_
  rintro _ w22 ⟨rfl,hb⟩
  replace LL:=Ac ((Aa LL).on hb)
  clear hb
  go_wp2_with (first|((with_reducible apply Bh);(case ho=>rfl);(case hx=>rfl);(case hw=>rfl);(case hc=>first|exact(Aa LL).one);simp only[nn])|((with_reducible apply Bo);(case ho=>rfl);(case hx=>rfl);(case hw=>rfl);(case hc=>first|exact(Aa LL).one);simp only[nn])|((with_reducible apply Bt);(case ho=>rfl);(case hx=>rfl);(case hw=>rfl);(case hc=>first|exact(Aa LL).one);simp only[nn])|((with_reducible apply Bq);(case ho=>rfl);(case hx=>rfl);(case hw=>rfl);(case hc=>first|exact(Aa LL).one);simp only[nn])|((with_reducible apply Bl);(case ho=>rfl);(case hx=>rfl);(case hw=>rfl);(case hc=>first|exact(Aa LL).one);simp only[nn])|((with_reducible apply Bj);(case ho=>rfl);(case hx=>rfl);(case hw=>rfl);(case hc=>first|exact(Aa LL).one);simp only[nn])|((with_reducible apply At);(case ho=>rfl);(case hx=>rfl);(case hw=>rfl);(case hc=>first|exact(Aa LL).one);simp only[nn])|(go_at_call 100;refine(Ae _ _).mono ?_;rintro _ _ ⟨rfl,rfl⟩)|(go_at_call 99;refine(Ab _ _).mono ?_;rintro _ _ ⟨rfl,rfl⟩)|(go_at_call 72;refine(Ad _ _).mono ?_;rintro _ _ ⟨rfl,rfl⟩))
  go_ret
  exact⟨rfl,(Aa LL).below⟩
 ·go_wp2_with (first|((with_reducible apply Bh);(case ho=>rfl);(case hx=>rfl);(case hw=>rfl);(case hc=>first|exact(Aa LL).one);simp only[nn])|((with_reducible apply Bo);(case ho=>rfl);(case hx=>rfl);(case hw=>rfl);(case hc=>first|exact(Aa LL).one);simp only[nn])|((with_reducible apply Bt);(case ho=>rfl);(case hx=>rfl);(case hw=>rfl);(case hc=>first|exact(Aa LL).one);simp only[nn])|((with_reducible apply Bq);(case ho=>rfl);(case hx=>rfl);(case hw=>rfl);(case hc=>first|exact(Aa LL).one);simp only[nn])|((with_reducible apply Bl);(case ho=>rfl);(case hx=>rfl);(case hw=>rfl);(case hc=>first|exact(Aa LL).one);simp only[nn])|((with_reducible apply Bj);(case ho=>rfl);(case hx=>rfl);(case hw=>rfl);(case hc=>first|exact(Aa LL).one);simp only[nn])|((with_reducible apply At);(case ho=>rfl);(case hx=>rfl);(case hw=>rfl);(case hc=>first|exact(Aa LL).one);simp only[nn])|(go_at_call 100;refine(Ae _ _).mono ?_;rintro _ _ ⟨rfl,rfl⟩)|(go_at_call 99;refine(Ab _ _).mono ?_;rintro _ _ ⟨rfl,rfl⟩)|(go_at_call 72;refine(Ad _ _).mono ?_;rintro _ _ ⟨rfl,rfl⟩))
  go_ret
  exact⟨rfl,(Aa LL).below⟩
