import Derived.Test.YthcmamjpfigdfaaGreatDoorRr
set_option linter.all false
namespace Go.Proofs.YthcmamjpfigdfaaGreatDoor
set_option maxRecDepth 100000
set_option maxHeartbeats 0
section
open Go Go.Proofs Go.Maps Go.RowKit FM Tryz
attribute [local go_sem] Al Ak Ar Ah Am Ai Au Dd Db Bi Aj Bh
def ReadsG {α:Type} (f:α->List Value) (k:Nat) (X:World) (A:Option Addr) (l:List α):Prop:= ∀(j:Nat) (x:α),l[j]? =some x-> ∃b off,A=some ⟨b,off,none⟩/\b<X.heap.size/\X.rangeAt b (off+j * k) (f x)
theorem Zes {α:Type} {f:α->List Value} {k:Nat} (hk: ∀x,(f x).length=k) (h0:0<k) {X:World} {b off:Nat} {l:List α} (h: ∀(j:Nat) (x:α),l[j]? =some x->X.rangeAt b (off+j * k) (f x)):X.rangeAt b off (l.flatMap f):=fun j v hv=>by
 have hlt:=(List.getElem?_eq_some_iff.1 hv).1
 rw[Qc f k hk] at hlt
 have hq:j / k<l.length:=Nat.div_lt_of_lt_mul (by rw[Nat.mul_comm];exact hlt)
 have hr:j % k<k:=Nat.mod_lt _ h0
 have e:j / k * k+j % k=j:=by rw[Nat.mul_comm];exact Nat.div_add_mod j k
 have h1:=Vh f k hk l (j / k) (j % k) hq hr
 rw[e,hv] at h1
 have h2:=h (j / k) l[j / k] (List.getElem?_eq_getElem hq) (j % k) v h1.symm
 rw[show off+j=off+j / k * k+j % k by omega]
 exact h2
theorem ReadsG.src {α:Type} {f:α->List Value} {k:Nat} (hk: ∀x,(f x).length=k) (h0:0<k) {X:World} {A:Option Addr} {l:List α} (h:ReadsG f k X A l): ∀ad,A=some ad-> ∀j u,(l.flatMap f)[j]? =some u->X.cell? (ad.add j)=some u:=by
 rintro ad rfl j u hj
 cases l with
 |nil=>cases hj
 |cons x l=>
  obtain⟨b,off,h1, -, -⟩:=h 0 x rfl
  cases h1
  rw[Addr.add_mid]
  exact Zes hk h0 (fun j x hx=>by
   obtain⟨b2,o2,h2, -,h3⟩:=h j x hx
   cases h2
   exact h3) j u hj
theorem ReadsG.left {α:Type} {f:α->List Value} {k:Nat} {X:World} {A:Option Addr} {l m:List α} (h:ReadsG f k X A (l++m)):ReadsG f k X A l:=fun j x hx=>h j x (by rw[List.getElem?_append_left (List.getElem?_eq_some_iff.1 hx).1];exact hx)
theorem Zed {α:Type} {f:α->List Value} {k:Nat} (hk: ∀x,(f x).length=k) {X:World} {base n e:Nat} {A:Option Addr} {c:Nat} {l:List α} (h:X.ownsRow base e k (.slice A n c) n (l.flatMap f)) (hn:l.length=n):ReadsG f k X A l:=fun j x hj=>by
 have hlt:=(List.getElem?_eq_some_iff.1 hj).1
 have he:=(List.getElem?_eq_some_iff.1 hj).2
 obtain⟨g,c',h1,h2,h3,h4⟩:=On hk h hn j hlt
 cases h1
 exact⟨g,0,rfl,h3,by rw[he] at h4;exact h4⟩
section
variable {ops:Array Oper} {rest:List Oper} {Q:Exit->Act->World->Prop} {w w0:World} {a:Act} {o:Oper} {E:List Nat} {L:List Ob}
theorem emS {t e:TypeId} {size:Nat} (base:Nat)  (ho:o.op= .buildSlice t 0 #[]) (hr: ∀w,(Instr.buildSlice t 0 #[]).run prog w= .ok (.slice (some ⟨w.heap.size,0,none⟩) 0 0) (w.alloc (Obj.cells #[] e))) (hL:Sy w0 w E L) (hb:base<=w.heap.size)
  (h: ∀X B,Sy w0 X E (L++ [Ec base e size (.slice (some ⟨B,0,none⟩) 0 0) 0 []])->wpList prog ops Q rest (a.put o.dst (.slice (some ⟨B,0,none⟩) 0 0)) X) (hw:Region.wanted o (yielded ops a.tmps)=true:=by rfl):wpList prog ops Q (o::rest) a w:=by
 refine BigFrame.wpList_want hw fun K hK=> ?_
 have hown:(w.alloc (Obj.cells #[] e)).ownsRow w.heap.size e size (.slice (some ⟨w.heap.size,0,none⟩) 0 0) 0 []:=⟨by simp, .inr ⟨w.heap.size,0, #[],rfl,Nat.le_refl _,(MapKept.heap_alloc w _).1,Nat.le_refl _,Nat.zero_le _,by simp,by simp⟩⟩
 have hP:=hK _ _ (h (w.alloc (Obj.cells #[] e)) w.heap.size (Sy.addRow hL hown ((Below.refl _ _).alloc (Nat.le_refl _) _) hb))
 have he:(execOp a.eval o).run prog w= .ok (.value (.slice (some ⟨w.heap.size,0,none⟩) 0 0)) (w.alloc (Obj.cells #[] e)):=by
  unfold execOp
  simp only[ho,List.map_toArray,List.map_nil]
  simp[hr w]
 unfold Oper.wp
 rw[he]
 exact hP
theorem apA {t e:TypeId} {size bytes k m c base:Nat} {z v:Value} {xs news:List Value} {A:Option Addr} {s x:Operand} (i:Nat) (hw:Region.wanted o (yielded ops a.tmps)=true) (ho:o.op= .call {callee:= .builtin .append,args:= #[s,x],argTypes:= #[t,t]}) (hs:a.eval s=v) (hx:a.eval x= .slice A m c)
  (ht:prog.underlying t=some (.slice e)) (hi:(prog.info? e).map (fun i=>(i.zero,i.size,i.bytes))=some (some z,size,bytes)) (hz:z.cells.size=size) (hsz:0<size) (hL:Sy w0 w E L) (hi1:L[i]? =some (Ec base e size v k xs)) (hA:A=none->m=0/\c=0) (hl:news.length=m * size)
  (hnews: ∀ad,A=some ad-> ∀j u,news[j]? =some u->w.cell? (ad.add j)=some u) (h1: ∀u∈news,u.oneCell'=true)
  (hn:k+m<=4000000) (hby:bytes<=10000) (hbase:base<=w.heap.size)
  (h: ∀A c X,Sy w0 X E (L.set i (Ec base e size (.slice A (k+m) c) (k+m) (xs++news)))->wpList prog ops Q rest (a.put o.dst (.slice A (k+m) c)) X):wpList prog ops Q (o::rest) a w:=by
 obtain⟨i0,hi,hz0,hz1,hz2⟩:=info_parts hi
 have hown:w.ownsRow base e size v k xs:=hL.get i hi1
 refine BigFrame.wpList_want hw fun K hK=> ?_
 cases A with
 |none=>
  obtain⟨rfl,rfl⟩:=hA rfl
  obtain rfl:news= []:=List.length_eq_zero_iff.1 (by simpa using hl)
  have hrun:=run_append_owned_none (P:=prog) (w:=w) base t o.type e i0 size ht hi v k xs hown
  obtain⟨A',c',rfl⟩:=Ex hown
  have hP:=hK _ _ (h A' c' w (by
   simp only[Nat.add_zero,List.append_nil]
   exact hL.row i hi1 hown (World.grownBy.refl _ _) (.inl rfl)))
  simp only[Nat.add_zero] at hP
  unfold Oper.wp
  simp[execOp,ho,resolve,invoke,builtin,hs,hx,hrun,Result.andThen]
  exact hP
 |some ad=>
  obtain⟨v',w',hrun,h2,h3,h4⟩:=Jr w base t o.type e i0 _ size bytes ht hi hz0 hz1 hz2 hz hsz v k xs hown ad m c news hl (hnews ad rfl) h1 (by unfold maxLen;omega) (Nat.le_trans (Nat.mul_le_mul hn hby) (by decide)) hbase
  obtain⟨A',c',rfl⟩:=Ex h2
  have hP:=hK _ _ (h A' c' w' (hL.row i hi1 h2 h3 h4))
  unfold Oper.wp
  simp[execOp,ho,resolve,invoke,builtin,hs,hx,hrun,Result.andThen]
  exact hP
end
theorem Zcz {o:Oper} {a:Act} {w:World} {x ix:Operand} {b n cap p:Nat} (ho:o.op= .slice 44 x none (some ix) none) (hx:a.eval x= .slice (some ⟨b,0,none⟩) n cap) (hix:a.eval ix= .int .i64 (p:Nat))  (hp:p<=cap:=by omega):(execOp a.eval o).run prog w= .ok (.value (.slice (some ⟨b,0,none⟩) p cap)) w:=by
 have e0:(Instr.sliceAt 44 (.slice (some ⟨b,0,none⟩) n cap) none (some (.int .i64 (p:Nat))) none).run prog w= .ok (.slice (some ⟨b,0,none⟩) p cap) w:=by
  rw[run_sliceAt_slice (h:=by kernel_rfl),run_slice_h (ht:=by kernel_rfl) (h0:=by omega) (h2:=by omega)]
  have e:(sizeOf (prog.elem 44)).run prog w= .ok 5 w:=by kernel_rfl
  rw[e]
  simp[sliced,Addr.add,Result.andThen]
 unfold execOp
 simp only[ho,hx,hix,Option.map_some,Option.map_none]
 simp[e0]
theorem askKeys (h:HP) (o:Int) (N:Nat) (w:World) (H:h.Is w) (G:h.Gd N) (hN:N<=90000) (hT:Tabs w):Calls prog 75 #[.pointer (some ⟨h.b,0,none⟩), .int .i64 o] w fun e w'=> ∃(h1:HP) (V:Value) (er:Value),e= .returned (.tuple #[V,er])/\AskP h N h1 er/\(∃A n c,V= .slice A n c)/\h.To h1 w w':=by
 refine(Vq h o N w H G hN hT).mono ?_
 rintro _ Y ⟨h1,V,er,rfl,(⟨h0,rfl,rfl,rfl⟩|⟨h0,j,q,rfl,hj,hD,hE⟩),T⟩
 ·exact⟨_,_,_,rfl,AskP.no G h0 (Pp _ _),⟨none,0,0,rfl⟩,T⟩
 ·exact⟨h1,_,_,rfl,AskP.low G hD.1 hE,hD.2,T⟩
structure AN where
 v:VV
 y:Bool
 d:DD
 kA:Option Addr
 kn:Nat
 kc:Nat
 o:Int
 f:Int
def Bq:AN:=⟨Aq,false,zeroD,none,0,0,0,0⟩
def Di (n:AN):List Value:=n.v.cs++ [.bool n.y]++n.d.cs++ [.slice n.kA n.kn n.kc, .int .i64 n.o, .slice none 0 0]++Ep n.f
theorem Nz (n:AN): ∀u∈Di n,u.oneCell'=true:=by simp[Di,Ep,VV.cs,DD.cs,Value.oneCell']
def Nm (M o T:Int) (k:KK) (v r:VV) (d:DD) (a:Value):List Value:= [.int .i64 M, .int .i64 o, .int .i64 T]++k.cs++v.cs++r.cs++d.cs++ [a]
def AskR (h:HP) (N:Nat) (M:Int) (k:KK) (v r:VV) (w:World) (e:Ending) (w':World):Prop:= ∃(h1:HP) (n:AN) (er:Value),e= .returned (.agg (Di n).toArray)/\n.f=Gc er/\AskP h N h1 er/\(M=9->SetQ h r k v h1 n.y)/\h.To h1 w w'
def v7:VV:={Aq with i:=7}
theorem Zp:(prog.info? 40).map (fun i=>(i.zero,i.size,i.bytes))=some (some (.agg Aq.cs.toArray),5,48):=by kernel_rfl
theorem Re (l:List VV): ∀u∈l.flatMap VV.cs,u.oneCell'=true:=by
 intro u hu
 obtain⟨v, -,h⟩:=List.mem_flatMap.1 hu
 exact Gh v u h
theorem ex_bv7 {o:Oper} {a:Act} {w:World} (ho:o.op= .build 40 #[(4, .const (.int .i64 7))]):(execOp a.eval o).run prog w= .ok (.value (.agg v7.cs.toArray)) w:=by
 have e:(Instr.build 40 #[(4, .int .i64 7)]).run prog w= .ok (.agg v7.cs.toArray) w:=by kernel_rfl
 unfold execOp
 simp only[ho,List.map_toArray,List.map_cons,List.map_nil,show a.eval (.const (.int .i64 7))= .int .i64 7 from rfl]
 simp[e]
theorem Zcd {X:World} {base e:Nat} {A:Option Addr} {c:Nat} {l:List VV} {v:VV} (h:X.ownsRow base e 5 (.slice A (l.length+1) c) (l.length+1) (l.flatMap VV.cs++ [v].flatMap VV.cs)):Kx X A (l++ [v]):=Zed (f:=VV.cs) (fun _=>rfl) (by rw[List.flatMap_append];exact h) (by simp)
theorem Ze8 {X:World} {base e:Nat} {A:Option Addr} {c:Nat} {n:Nat} {ys:List Value} (h:X.ownsRow base e 5 (.slice A (n+1) c) (n+1) ys): ∃g,A=some ⟨g,0,none⟩/\n+1<=c:=by
 rcases h.2 with ⟨h1,h0⟩|⟨g,cap,cur,h1,h2,h3,h4,h5⟩
 ·omega
 ·cases h1
  exact⟨g,rfl,h4⟩
theorem Zda {X:World} {base e g:Nat} {c:Nat} {l:List VV} {v:VV} (h:X.ownsRow base e 5 (.slice (some ⟨g,0,none⟩) (l.length+1) c) (l.length+1) (l.flatMap VV.cs++ [v].flatMap VV.cs)):X.rangeAt g (0+l.length * 5) v.cs:=by
 obtain⟨b,off,h1, -,h3⟩:=Zcd h l.length v (by simp)
 cases h1
 exact h3
theorem ZcA {o:Oper} {a:Act} {W:World} {x:Operand} {B p:Nat} {cs:List Value} {v:Value} (t:TypeId) (i:Nat) (hna: ∀w,(isAgg t).run prog w= .ok false w) (ho:o.op= .load t x) (hx:a.eval x= .pointer (some ⟨B,p+i,none⟩)) (hc:W.rangeAt B p cs) (hv:cs[i]? =some v):(execOp a.eval o).run prog W= .ok (.value v) W:=by
 have h0:=hc i v hv
 unfold execOp
 simp only[ho,hx]
 simp[go_sem,h0,hna]
section
variable {ops:Array Oper} {rest:List Oper} {Q:Exit->Act->World->Prop} {w w0:World} {a:Act} {o:Oper} {E:List Nat} {L:List Ob}
theorem apA0 {t e:TypeId} {size bytes m c base:Nat} {z v:Value} {news:List Value} {A:Option Addr} {s x:Operand} (i:Nat)  (ho:o.op= .call {callee:= .builtin .append,args:= #[s,x],argTypes:= #[t,t]}) (hs:a.eval s=v) (hx:a.eval x= .slice A m c)
  (ht:prog.underlying t=some (.slice e)) (hi:(prog.info? e).map (fun i=>(i.zero,i.size,i.bytes))=some (some z,size,bytes)) (hz:z.cells.size=size)  (hL:Sy w0 w E L) (hi1:L[i]? =some (Ec base e size v 0 [])) (hA:A=none->m=0/\c=0) (hl:news.length=m * size)
  (hnews: ∀ad,A=some ad-> ∀j u,news[j]? =some u->w.cell? (ad.add j)=some u) (h1: ∀u∈news,u.oneCell'=true)
    (hbase:base<=w.heap.size)
  (h: ∀A c X,Sy w0 X E (L.set i (Ec base e size (.slice A m c) m news))->wpList prog ops Q rest (a.put o.dst (.slice A m c)) X) (hw:Region.wanted o (yielded ops a.tmps)=true:=by rfl) (hsz:0<size:=by decide) (hn:m<=4000000:=by omega) (hby:bytes<=10000:=by decide):wpList prog ops Q (o::rest) a w:=
 apA i hw ho hs hx ht hi hz hsz hL hi1 hA hl hnews h1 (by omega) hby hbase (fun A c X hS=>by simp only[Nat.zero_add,List.nil_append] at hS ⊢;exact h A c X hS)
end
def AskA (h:HP) (M o T:Int) (k:KK) (v r:VV) (d:DD) (A:Option Addr) (c:Nat) (l:List VV) (w:World) (Ba Bb Bc:Nat) (s7:Value) (wq:World):Prop:= ∃g cg Bf:Nat,s7= .slice (some ⟨g,0,none⟩) (l.length+1) cg/\l.length+1<=cg/\Hid (Sy w wq h.blocks [hpO h,Av Ba (Nm M o T k v r d (.slice A l.length c)),Av Bb (Di Bq),Av Bc (Di Bq),Ec w.heap.size 40 5 (.slice (some ⟨g,0,none⟩) (l.length+1) cg) (l.length+1) (l.flatMap VV.cs++ [v7].flatMap VV.cs),Av Bf ([v7].flatMap VV.cs)])
theorem AskA.mk {h:HP} {M o T:Int} {k:KK} {v r:VV} {d:DD} {A:Option Addr} {c:Nat} {l:List VV} {w:World} {Ba Bb Bc:Nat} {s7:Value} {wq:World} (g cg Bf:Nat) (h1:s7= .slice (some ⟨g,0,none⟩) (l.length+1) cg) (h2:l.length+1<=cg) (S:Hid (Sy w wq h.blocks [hpO h,Av Ba (Nm M o T k v r d (.slice A l.length c)),Av Bb (Di Bq),Av Bc (Di Bq),Ec w.heap.size 40 5 (.slice (some ⟨g,0,none⟩) (l.length+1) cg) (l.length+1) (l.flatMap VV.cs++ [v7].flatMap VV.cs),Av Bf ([v7].flatMap VV.cs)])):AskA h M o T k v r d A c l w Ba Bb Bc s7 wq:=⟨g,cg,Bf,h1,h2,S⟩
def AskB (h:HP) (M o T:Int) (k:KK) (v r:VV) (d:DD) (A:Option Addr) (c:Nat) (l:List VV) (w:World) (Ba Bb Bc:Nat) (N g cg Bf:Nat) (s6:Value) (wq:World):Prop:= ∃(h1:HP) (n:AN),AskP h N h1 s6/\(M=9->SetQ h r k v h1 n.y)/\h1.b=h.b/\n.f=0/\Hid (Sy w wq h.blocks [hpO h1,Av Ba (Nm M o T k v r d (.slice A l.length c)),Av Bb (Di Bq),Av Bc (Di n),Ec w.heap.size 40 5 (.slice (some ⟨g,0,none⟩) (l.length+1) cg) (l.length+1) (l.flatMap VV.cs++ [v7].flatMap VV.cs),Av Bf ([v7].flatMap VV.cs)])
theorem AskB.mk {h:HP} {M o T:Int} {k:KK} {v r:VV} {d:DD} {A:Option Addr} {c:Nat} {l:List VV} {w:World} {Ba Bb Bc N g cg Bf:Nat} {s6:Value} {wq:World} (h1:HP) (n:AN) (a1:AskP h N h1 s6) (a2:M=9->SetQ h r k v h1 n.y) (a3:h1.b=h.b) (a4:n.f=0) (S:Hid (Sy w wq h.blocks [hpO h1,Av Ba (Nm M o T k v r d (.slice A l.length c)),Av Bb (Di Bq),Av Bc (Di n),Ec w.heap.size 40 5 (.slice (some ⟨g,0,none⟩) (l.length+1) cg) (l.length+1) (l.flatMap VV.cs++ [v7].flatMap VV.cs),Av Bf ([v7].flatMap VV.cs)])):AskB h M o T k v r d A c l w Ba Bb Bc N g cg Bf s6 wq:=⟨h1,n,a1,a2,a3,a4,S⟩
theorem ask_h (h:HP) (M o T:Int) (k:KK) (v r:VV) (d:DD) (A:Option Addr) (c:Nat) (l:List VV) (N:Nat) (w:World) (h1:1<=M) (h11:M<=11) (H:h.Is w) (G:h.Gd N) (hN:N<=90000) (hT:Tabs w) (hk:OkK k) (hvx:v.x<2^64) (hFd:FD d) (hz:l.length<=1000000) (hlx: ∀v∈l,v.x<2^64) (hA:A=none->l.length=0/\c=0) (hR: ∀X,Fr w X h.blocks->Kx X A l):Calls prog 31 #[.pointer (some ⟨h.b,0,none⟩), .agg (Nm M o T k v r d (.slice A l.length c)).toArray] w fun e w'=>AskR h N M k v r w e w':=by
 have SS:=Ab H.start
 have HR:=Ab hR
 clear hR
 go_enter func31,ntmps31
 go_upto_region 3 with (first|go_skip|((with_reducible show wpList ..);first|(refine zB 46 (Nm M o T k v r d (.slice A l.length c)) rfl rfl rfl SS ?_;clear SS;intro Xa Ba SS;simp only[nn])|(refine zA 60 (Di Bq) rfl (show Hid (Sy _ _ _ [_,_]) from SS) ?_;clear SS;intro Xb Bb SS;simp only[nn])|(refine zA 60 (Di Bq) rfl (show Hid (Sy _ _ _ [_,_,_]) from SS) ?_;clear SS;intro Xc Bc SS;simp only[nn])))
 go_cut [7] from 8 to 209 (AskA h M o T k v r d A c l w Ba Bb Bc)
 case first=>
  go_wp2_with (first|go_skip|((with_reducible show wpList ..);first|((refine emS (e:=40) (size:=5) w.heap.size rfl (fun w=>by kernel_rfl) (Aa SS) (Aa SS).fr.size ?_);intro Xd Bd Ld;replace SS:=Ab Ld;clear Ld;simp only[nn])|(refine rd rfl (Ad 44 isAgg44 rfl rfl ((Aa SS).hold 1 rfl) rfl) ?_)|((refine apA0 (news:=l.flatMap VV.cs) 4 rfl rfl rfl underlying44 Zp rfl (Aa SS) rfl hA (Qc VV.cs 5 (fun _=>rfl) l) (ReadsG.src (f:=VV.cs) (fun _=>rfl) (by decide) (Aa HR _ (Aa SS).fr)) (Re l) (Aa SS).fr.size ?_);intro Ae ce Xe Le;replace SS:=Ab Le;clear Le;simp only[nn])|(refine rd rfl (ex_bv7 rfl) ?_)|((refine bsV1 (v:=v7) rfl rfl (Aa SS) ?_);intro Xf Bf Lf;replace SS:=Ab Lf;clear Lf;simp only[nn])|((refine apS 4 5 rfl rfl rfl rfl underlying44 Zp rfl (by decide) (Aa SS) rfl rfl rfl (Re [v7]) (by omega) (by decide) (Aa SS).fr.size ?_);intro Ag cg Xg Lg;replace SS:=Ab Lg;clear Lg;simp only[nn])))
  obtain⟨g,rfl,hcg⟩:=Ze8 (show World.ownsRow _ _ _ 5 (.slice Ag (l.length+1) cg) (l.length+1) _ from (Aa SS).get 4 rfl)
  go_meet
  case rel=>exact AskA.mk g cg Bf rfl hcg SS
 case rest=>
  clear SS
  obtain⟨g,cg,Bf,hs7,hcg,SS⟩:=hcut
  subst hs7
  go_step
  go_step
  go_cut [6] from 8 to 209 (AskB h M o T k v r d A c l w Ba Bb Bc N g cg Bf)
  case first=>
   have hMM:M=1∨M=2∨M=3∨M=4∨M=5∨M=6∨M=7∨M=8∨M=9∨M=10∨M=11:=by omega
   rcases hMM with rfl|rfl|rfl|rfl|rfl|rfl|rfl|rfl|rfl|rfl|rfl
   ·as_aux_lemma=>
    go_wp2_with (first|go_skip|((with_reducible show wpList ..);first|(refine rd rfl (Ad 3 isAgg3 rfl rfl ((Aa SS).hold 1 rfl) rfl) ?_)))
    have HC:=Vt h o  N _ ((Aa SS).hp 0 rfl) G hN (hT.fr (Aa SS).fr H.low) 
    simp only[Dg] at HC
    refine HC.mono ?_
    rintro _ Y ⟨h1,V,er,rfl,hP,T⟩
    replace SS:=Ab ((Aa SS).heap 0 rfl T)
    have hb1:=T.hb
    clear T HC
    go_wp2_with (first|go_skip|((with_reducible show wpList ..);first|((refine stS (vs:=V.cs) 3 40 (by rfl) rfl rfl rfl rfl (Gh _) (szV) (Aa SS) rfl (by simp[Bt,VV.cs,KK.cs,DD.cs,zeroD,Aq,Di,Bq,Ep]) ?_);intro Xh Lh hfh hsh;replace SS:=Ab Lh;clear Lh hfh hsh;simp only[nn])))
    go_meet
    case rel=>exact AskB.mk h1 {Bq with v:=V} hP (fun h9=>absurd h9 (by decide)) hb1 rfl SS
   ·as_aux_lemma=>
    go_wp2_with (first|go_skip|((with_reducible show wpList ..);first|(refine rd rfl (Ad 3 isAgg3 rfl rfl ((Aa SS).hold 1 rfl) rfl) ?_)|(refine rd rfl (Af (vs:=v.cs) 40 5 rwV szV rfl rfl ((Aa SS).hold 1 rfl) rfl rfl) ?_)))
    have HC:=Vs h o v N _ ((Aa SS).hp 0 rfl) G hN (hT.fr (Aa SS).fr H.low) hvx
    simp only[Dg] at HC
    refine HC.mono ?_
    rintro _ Y ⟨h1,y,er,rfl,hP,T⟩
    replace SS:=Ab ((Aa SS).heap 0 rfl T)
    have hb1:=T.hb
    clear T HC
    go_wp2_with (first|go_skip|((with_reducible show wpList ..);first|((refine stS (vs:= [.bool y]) 3 4 (by rfl) rfl rfl rfl rfl (by simp[Value.oneCell']) (by kernel_rfl) (Aa SS) rfl (by simp[Bt,VV.cs,KK.cs,DD.cs,zeroD,Aq,Di,Bq,Ep]) ?_);intro Xh Lh hfh hsh;replace SS:=Ab Lh;clear Lh hfh hsh;simp only[nn])))
    go_meet
    case rel=>exact AskB.mk h1 {Bq with y:=y} hP (fun h9=>absurd h9 (by decide)) hb1 rfl SS
   ·as_aux_lemma=>
    go_wp2_with (first|go_skip|((with_reducible show wpList ..);first|(refine rd rfl (Ad 3 isAgg3 rfl rfl ((Aa SS).hold 1 rfl) rfl) ?_)))
    have HC:=Zf h o  N _ ((Aa SS).hp 0 rfl) G hN (hT.fr (Aa SS).fr H.low) 
    refine HC.mono ?_
    rintro _ Y ⟨h1,y,er,rfl,hP,T⟩
    replace SS:=Ab ((Aa SS).heap 0 rfl T)
    have hb1:=T.hb
    clear T HC
    go_wp2_with (first|go_skip|((with_reducible show wpList ..);first|((refine stS (vs:= [.bool y]) 3 4 (by rfl) rfl rfl rfl rfl (by simp[Value.oneCell']) (by kernel_rfl) (Aa SS) rfl (by simp[Bt,VV.cs,KK.cs,DD.cs,zeroD,Aq,Di,Bq,Ep]) ?_);intro Xh Lh hfh hsh;replace SS:=Ab Lh;clear Lh hfh hsh;simp only[nn])))
    go_meet
    case rel=>exact AskB.mk h1 {Bq with y:=y} hP (fun h9=>absurd h9 (by decide)) hb1 rfl SS
   ·as_aux_lemma=>
    go_wp2_with (first|go_skip|((with_reducible show wpList ..);first|(refine rd rfl (Ad 3 isAgg3 rfl rfl ((Aa SS).hold 1 rfl) rfl) ?_)))
    have HC:=Ql h o  N _ ((Aa SS).hp 0 rfl) G hN (hT.fr (Aa SS).fr H.low) 
    refine HC.mono ?_
    rintro _ Y ⟨h1,y,er,rfl,hP,T⟩
    replace SS:=Ab ((Aa SS).heap 0 rfl T)
    have hb1:=T.hb
    clear T HC
    go_wp2_with (first|go_skip|((with_reducible show wpList ..);first|((refine stS (vs:= [.bool y]) 3 4 (by rfl) rfl rfl rfl rfl (by simp[Value.oneCell']) (by kernel_rfl) (Aa SS) rfl (by simp[Bt,VV.cs,KK.cs,DD.cs,zeroD,Aq,Di,Bq,Ep]) ?_);intro Xh Lh hfh hsh;replace SS:=Ab Lh;clear Lh hfh hsh;simp only[nn])))
    go_meet
    case rel=>exact AskB.mk h1 {Bq with y:=y} hP (fun h9=>absurd h9 (by decide)) hb1 rfl SS
   ·as_aux_lemma=>
    go_wp2_with (first|go_skip|((with_reducible show wpList ..);first|(refine rd rfl (Ad 3 isAgg3 rfl rfl ((Aa SS).hold 1 rfl) rfl) ?_)|(refine rd rfl (Af (vs:=k.cs) 37 2 rwK szK rfl rfl ((Aa SS).hold 1 rfl) rfl rfl) ?_)))
    have HC:=Vu h o k N _ ((Aa SS).hp 0 rfl) G hN (hT.fr (Aa SS).fr H.low) hk
    simp only[Du,Qj] at HC
    refine HC.mono ?_
    rintro _ Y ⟨h1,V,y,er,rfl,hP,T⟩
    replace SS:=Ab ((Aa SS).heap 0 rfl T)
    have hb1:=T.hb
    clear T HC
    go_wp2_with (first|go_skip|((with_reducible show wpList ..);first|((refine stS (vs:=V.cs) 3 43 (by rfl) rfl rfl rfl rfl (Ez _) (szD) (Aa SS) rfl (by simp[Bt,VV.cs,KK.cs,DD.cs,zeroD,Aq,Di,Bq,Ep]) ?_);intro Xh Lh hfh hsh;replace SS:=Ab Lh;clear Lh hfh hsh;simp only[nn])|((refine stS (vs:= [.bool y]) 3 4 (by rfl) rfl rfl rfl rfl (by simp[Value.oneCell']) (by kernel_rfl) (Aa SS) rfl (by simp[Bt,VV.cs,KK.cs,DD.cs,zeroD,Aq,Di,Bq,Ep]) ?_);intro Xi Li hfi hsi;replace SS:=Ab Li;clear Li hfi hsi;simp only[nn])))
    go_meet
    case rel=>exact AskB.mk h1 {Bq with d:=V,y:=y} hP (fun h9=>absurd h9 (by decide)) hb1 rfl SS
   ·as_aux_lemma=>
    go_wp2_with (first|go_skip|((with_reducible show wpList ..);first|(refine rd rfl (Ad 3 isAgg3 rfl rfl ((Aa SS).hold 1 rfl) rfl) ?_)|(refine rd rfl (Af (vs:=k.cs) 37 2 rwK szK rfl rfl ((Aa SS).hold 1 rfl) rfl rfl) ?_)|(refine rd rfl (Af (vs:=d.cs) 43 18 rwD szD rfl rfl ((Aa SS).hold 1 rfl) rfl rfl) ?_)))
    have HC:=Qm h o k d N _ ((Aa SS).hp 0 rfl) G hN (hT.fr (Aa SS).fr H.low) hk hFd
    simp only[Du,Qj] at HC
    refine HC.mono ?_
    rintro _ Y ⟨h1,y,er,rfl,hP,T⟩
    replace SS:=Ab ((Aa SS).heap 0 rfl T)
    have hb1:=T.hb
    clear T HC
    go_wp2_with (first|go_skip|((with_reducible show wpList ..);first|((refine stS (vs:= [.bool y]) 3 4 (by rfl) rfl rfl rfl rfl (by simp[Value.oneCell']) (by kernel_rfl) (Aa SS) rfl (by simp[Bt,VV.cs,KK.cs,DD.cs,zeroD,Aq,Di,Bq,Ep]) ?_);intro Xh Lh hfh hsh;replace SS:=Ab Lh;clear Lh hfh hsh;simp only[nn])))
    go_meet
    case rel=>exact AskB.mk h1 {Bq with y:=y} hP (fun h9=>absurd h9 (by decide)) hb1 rfl SS
   ·as_aux_lemma=>
    go_wp2_with (first|go_skip|((with_reducible show wpList ..);first|(refine rd rfl (Ad 3 isAgg3 rfl rfl ((Aa SS).hold 1 rfl) rfl) ?_)|(refine rd rfl (Af (vs:=k.cs) 37 2 rwK szK rfl rfl ((Aa SS).hold 1 rfl) rfl rfl) ?_)))
    have HC:=Za7 h o k N _ ((Aa SS).hp 0 rfl) G hN (hT.fr (Aa SS).fr H.low) hk
    simp only[Du] at HC
    refine HC.mono ?_
    rintro _ Y ⟨h1,y,er,rfl,hP,T⟩
    replace SS:=Ab ((Aa SS).heap 0 rfl T)
    have hb1:=T.hb
    clear T HC
    go_wp2_with (first|go_skip|((with_reducible show wpList ..);first|((refine stS (vs:= [.bool y]) 3 4 (by rfl) rfl rfl rfl rfl (by simp[Value.oneCell']) (by kernel_rfl) (Aa SS) rfl (by simp[Bt,VV.cs,KK.cs,DD.cs,zeroD,Aq,Di,Bq,Ep]) ?_);intro Xh Lh hfh hsh;replace SS:=Ab Lh;clear Lh hfh hsh;simp only[nn])))
    go_meet
    case rel=>exact AskB.mk h1 {Bq with y:=y} hP (fun h9=>absurd h9 (by decide)) hb1 rfl SS
   ·as_aux_lemma=>
    go_wp2_with (first|go_skip|((with_reducible show wpList ..);first|(refine rd rfl (Ad 3 isAgg3 rfl rfl ((Aa SS).hold 1 rfl) rfl) ?_)|(refine rd rfl (Af (vs:=k.cs) 37 2 rwK szK rfl rfl ((Aa SS).hold 1 rfl) rfl rfl) ?_)|(refine rd rfl (Af (vs:=r.cs) 40 5 rwV szV rfl rfl ((Aa SS).hold 1 rfl) rfl rfl) ?_)))
    have HC:=askGet h o k r N _ ((Aa SS).hp 0 rfl) G hN (hT.fr (Aa SS).fr H.low) hk
    simp only[Du,Dg] at HC
    refine HC.mono ?_
    rintro _ Y ⟨h1,V,er,rfl,hP,T⟩
    replace SS:=Ab ((Aa SS).heap 0 rfl T)
    have hb1:=T.hb
    clear T HC
    go_wp2_with (first|go_skip|((with_reducible show wpList ..);first|((refine stS (vs:=V.cs) 3 40 (by rfl) rfl rfl rfl rfl (Gh _) (szV) (Aa SS) rfl (by simp[Bt,VV.cs,KK.cs,DD.cs,zeroD,Aq,Di,Bq,Ep]) ?_);intro Xh Lh hfh hsh;replace SS:=Ab Lh;clear Lh hfh hsh;simp only[nn])))
    go_meet
    case rel=>exact AskB.mk h1 {Bq with v:=V} hP (fun h9=>absurd h9 (by decide)) hb1 rfl SS
   ·as_aux_lemma=>
    go_wp2_with (first|go_skip|((with_reducible show wpList ..);first|(refine rd rfl (Ad 3 isAgg3 rfl rfl ((Aa SS).hold 1 rfl) rfl) ?_)|(refine rd rfl (Af (vs:=k.cs) 37 2 rwK szK rfl rfl ((Aa SS).hold 1 rfl) rfl rfl) ?_)|(refine rd rfl (Af (vs:=v.cs) 40 5 rwV szV rfl rfl ((Aa SS).hold 1 rfl) rfl rfl) ?_)|(refine rd rfl (Af (vs:=r.cs) 40 5 rwV szV rfl rfl ((Aa SS).hold 1 rfl) rfl rfl) ?_)))
    have HC:=askSet h o k v r N _ ((Aa SS).hp 0 rfl) G hN (hT.fr (Aa SS).fr H.low) hk hvx
    simp only[Du,Dg] at HC
    refine HC.mono ?_
    rintro _ Y ⟨h1,y,er,rfl,hP,hQ,T⟩
    replace SS:=Ab ((Aa SS).heap 0 rfl T)
    have hb1:=T.hb
    clear T HC
    go_wp2_with (first|go_skip|((with_reducible show wpList ..);first|((refine stS (vs:= [.bool y]) 3 4 (by rfl) rfl rfl rfl rfl (by simp[Value.oneCell']) (by kernel_rfl) (Aa SS) rfl (by simp[Bt,VV.cs,KK.cs,DD.cs,zeroD,Aq,Di,Bq,Ep]) ?_);intro Xh Lh hfh hsh;replace SS:=Ab Lh;clear Lh hfh hsh;simp only[nn])))
    go_meet
    case rel=>exact AskB.mk h1 {Bq with y:=y} hP (fun _=>hQ) hb1 rfl SS
   ·as_aux_lemma=>
    go_wp2_with (first|go_skip|((with_reducible show wpList ..);first|(refine rd rfl (Ad 3 isAgg3 rfl rfl ((Aa SS).hold 1 rfl) rfl) ?_)|(refine rd rfl (Af (vs:=k.cs) 37 2 rwK szK rfl rfl ((Aa SS).hold 1 rfl) rfl rfl) ?_)))
    have HC:=ZgL h o k N _ ((Aa SS).hp 0 rfl) G hN (hT.fr (Aa SS).fr H.low) hk
    simp only[Du] at HC
    refine HC.mono ?_
    rintro _ Y ⟨h1,y,er,rfl,hP,T⟩
    replace SS:=Ab ((Aa SS).heap 0 rfl T)
    have hb1:=T.hb
    clear T HC
    go_wp2_with (first|go_skip|((with_reducible show wpList ..);first|((refine stS (vs:= [.bool y]) 3 4 (by rfl) rfl rfl rfl rfl (by simp[Value.oneCell']) (by kernel_rfl) (Aa SS) rfl (by simp[Bt,VV.cs,KK.cs,DD.cs,zeroD,Aq,Di,Bq,Ep]) ?_);intro Xh Lh hfh hsh;replace SS:=Ab Lh;clear Lh hfh hsh;simp only[nn])))
    go_meet
    case rel=>exact AskB.mk h1 {Bq with y:=y} hP (fun h9=>absurd h9 (by decide)) hb1 rfl SS
   ·as_aux_lemma=>
    go_wp2_with (first|go_skip|((with_reducible show wpList ..);first|(refine rd rfl (Ad 3 isAgg3 rfl rfl ((Aa SS).hold 1 rfl) rfl) ?_)))
    have HC:=askKeys h o  N _ ((Aa SS).hp 0 rfl) G hN (hT.fr (Aa SS).fr H.low) 
    refine HC.mono ?_
    rintro _ Y ⟨h1,V,er,rfl,hP,hQ,T⟩
    obtain⟨kA,kn,kc,rfl⟩:=hQ
    replace SS:=Ab ((Aa SS).heap 0 rfl T)
    have hb1:=T.hb
    clear T HC
    go_wp2_with (first|go_skip|((with_reducible show wpList ..);first|((refine stS (vs:= [.slice kA kn kc]) 3 48 (by rfl) rfl rfl rfl rfl (by simp[Value.oneCell']) (by kernel_rfl) (Aa SS) rfl (by simp[Bt,VV.cs,KK.cs,DD.cs,zeroD,Aq,Di,Bq,Ep]) ?_);intro Xh Lh hfh hsh;replace SS:=Ab Lh;clear Lh hfh hsh;simp only[nn])))
    go_meet
    case rel=>exact AskB.mk h1 {Bq with kA:=kA,kn:=kn,kc:=kc} hP (fun h9=>absurd h9 (by decide)) hb1 rfl SS
  case rest=>
   as_aux_lemma=>
   clear SS
   obtain⟨h1,n,hP,hQ,hb1,hn0,SS⟩:=hcut
   obtain⟨er,her⟩: ∃er,er=u6:=⟨_,rfl⟩
   rw[←her] at hP
   rw[←her]
   clear her
   go_wp2_with fail
   refine(Zq er _ hP.er).mono ?_
   rintro _ Yf ⟨rfl,hYf⟩
   replace SS:=Ab ((Aa SS).on hYf)
   clear hYf
   go_wp2_with (first|go_skip|((with_reducible show wpList ..);first|((refine stS (vs:=Ep (Gc er)) 3 58 (by rfl) rfl rfl rfl rfl (Nv _) szF (Aa SS) rfl (by simp[Bt,VV.cs,KK.cs,DD.cs,zeroD,Aq,Di,Bq,Ep]) ?_);intro Xj Lj hfj hsj;replace SS:=Ab Lj;clear Lj hfj hsj;simp only[nn])))
   have hS32:Sy w _ h.blocks [hpO h1,Av Ba (Nm M o T k v r d (.slice A l.length c)),Av Bb (Di Bq),Av Bc (Di {n with f:=Gc er}),Ec w.heap.size 40 5 (.slice (some ⟨g,0,none⟩) (l.length+1) cg) (l.length+1) (l.flatMap VV.cs++ [v7].flatMap VV.cs),Av Bf ([v7].flatMap VV.cs)]:=(Aa SS).drew
   clear SS
   refine wp_region_held_drew (P:=prog) (S:=fun X=>Sy w X h.blocks _) (by kernel_rfl) (hS32) (fun hS0=> ?_)
   refine gp 0 (some 188) (.slice (some ⟨g,0,none⟩) (l.length+1) cg) rfl rfl (hS32) ?_
   refine gp 1 (some 189) (.pointer (some ⟨Ba,33,none⟩)) rfl rfl (hS32) ?_
   refine gq 2 (some 190) (.slice A l.length c) rfl rfl (fun X hX=>Ad 44 isAgg44 rfl rfl (hX.hold 1 rfl) rfl) (hS32) ?_
   refine gq 3 (some 191) (.int .i64 (l.length:Nat)) rfl rfl (fun X hX=>Bp 44 40 underlying44 rfl rfl) (hS32) ?_
   refine gq 4 (some 192) (.slice (some ⟨g,0,none⟩) l.length cg) rfl rfl (fun X hX=>Zcz rfl rfl rfl) (hS32) ?_
   refine gp 5 (some 193) (.pointer (some ⟨Ba,33,none⟩)) rfl rfl (hS32) ?_
   refine gq 6 (some 194) (.slice A l.length c) rfl rfl (fun X hX=>Ad 44 isAgg44 rfl rfl (hX.hold 1 rfl) rfl) (hS32) ?_
   refine gr (rs:= [7]) (gcB 7 (some 195) rfl rfl hS32 (ZaT l (some ⟨g,0,none⟩) A cg c _ hlx (ReadsG.left (f:=VV.cs) (Zcd (hS32.get 4 rfl))) (Aa HR _ hS32.fr)) id ?_ gn)
   intro Y1 hq1
   refine gp 8 (some 196) (.bool false) rfl rfl (hq1) ?_
   refine gp 9 (some 197) (.bool false) rfl rfl (hq1) ?_
   refine gp 10 (some 198) (.slice (some ⟨g,0,none⟩) (l.length+1) cg) rfl rfl (hq1) ?_
   refine gp 11 (some 199) (.pointer (some ⟨Ba,33,none⟩)) rfl rfl (hq1) ?_
   refine gq 12 (some 200) (.slice A l.length c) rfl rfl (fun X hX=>Ad 44 isAgg44 rfl rfl (hX.hold 1 rfl) rfl) (hq1) ?_
   refine gq 13 (some 201) (.int .i64 (l.length:Nat)) rfl rfl (fun X hX=>Bp 44 40 underlying44 rfl rfl) (hq1) ?_
   refine gq 14 (some 202) (.pointer (some ⟨g,0+l.length * 5,none⟩)) rfl rfl (fun X hX=>Bw 44 5 l.length Zy ZaF rfl rfl rfl (Nat.lt_succ_self _)) (hq1) ?_
   refine gp 15 (some 203) (.pointer (some ⟨g,0+l.length * 5+4,none⟩)) rfl rfl (hq1) ?_
   refine gq 16 (some 204) (.int .i64 7) rfl rfl (fun X hX=>ZcA 3 4 isAgg3 rfl rfl (Zda (hX.get 4 rfl)) rfl) (hq1) ?_
   refine gq 17 (some 205) (.bool false) rfl rfl (fun X hX=>Mm rfl rfl rfl rfl) (hq1) ?_
   refine gp 18 (some 206) (.bool false) rfl rfl (hq1) ?_
   refine dn ?_
   try simp only[nn]
   have SS:=Ab hq1
   go_wp2_with (first|go_skip|((with_reducible show wpList ..);first|(refine zL (Di {n with f:=Gc er}) 60 34 3 rwN szN rfl rfl SS rfl rfl rfl ?_;simp only[nn])|((refine stS (vs:=Di {n with f:=Gc er}) 2 60 (by rfl) rfl rfl rfl rfl (Nz _) szN (Aa SS) rfl (by simp[Bt,VV.cs,KK.cs,DD.cs,zeroD,Aq,Di,Bq,Ep]) ?_);intro Xz Lz hfz hsz;replace SS:=Ab Lz;clear Lz hfz hsz;simp only[nn])))
   refine Lt rwN szN rfl rfl rfl ((Aa SS).hold 2 rfl) rfl ?_
   exact⟨h1,{n with f:=Gc er},er,rfl,rfl,hP,hQ,HP.To.end H (Aa SS) hb1⟩
