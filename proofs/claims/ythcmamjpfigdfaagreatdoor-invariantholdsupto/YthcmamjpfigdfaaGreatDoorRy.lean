import Derived.Test.YthcmamjpfigdfaaGreatDoorRx
set_option linter.all false
namespace Go.Proofs.YthcmamjpfigdfaaGreatDoor
set_option maxRecDepth 100000
set_option maxHeartbeats 0
section
open Go Go.Proofs Go.Maps Go.RowKit FM
def Zdk (o:Int) (s:SH):List DL:=ZbC o s::s.ps.map (Ol o)
theorem ZcU (o:Int) {l:List PR} {i:Nat} {p:PR} (hp:l[i]? =some p):(l.take (i+1)).map (Ol o)=(l.take i).map (Ol o)++ [Ol o p]:=by
 obtain⟨hi,rfl⟩:=List.getElem?_eq_some_iff.1 hp
 rw[List.take_succ_eq_append_getElem hi,List.map_append]
 rfl
theorem Gu {w X:World} {b p:Nat} {cs:List Value} {E:List Nat} (h:w.rangeAt b p cs) (hb:b<w.heap.size) (hf:Fr w X E) (hE:b ∉ E):X.rangeAt b p cs:=fun j v hv=>by
 have e:=h j v hv
 have h1:=hf.block b hb hE
 unfold World.cell? at e ⊢
 dsimp only at e ⊢
 rw[h1]
 exact e
def Out (A:Option Addr) (l:List PR) (E:List Nat):Prop:= ∀(j:Nat) (p:PR),l[j]? =some p-> ∀b off,A=some ⟨b,off,none⟩->b ∉ E
theorem made_any (s:SH) (SA:Option Addr) (sc:Nat) (b0 t:Nat) (o:Int) (xs:List DL) (lv:Value) (X:World) (hT:TI b0 X t o xs lv) (hW:ReadsP9 X SA s.ps) (hN:Out SA s.ps (t::lv.ownBlock.toList)) (hx:xs.length+1+s.ps.length<=100000) (h0:b0<=X.heap.size) (hs:SS s):Calls Tryz.prog 64 #[.pointer (some ⟨t,0,none⟩),s.agg SA sc] X (ZbX X b0 t o xs (Zdk o s) lv):=by
 have HN:=Ab hN
 clear hN
 have LL:=Ab (TS.start hT)
 have hv:=fun w=>Ki s.p w hs.1
 simp only[Rq] at hv
 unfold SH.agg
 clear hT
 go_enter Tryz.func64,Tryz.ntmps64
 go_wp2_with (first|go_skip|((with_reducible show wpList ..);((refine bxT 85 (s.cs SA sc) rfl rfl rfl (Aa LL) ?_);intro X3 B3 hE3 L3 hb3;have hB3:=Ab (Nat.le_trans (Aa LL).hq.fr.size (Nat.le_of_eq hE3.symm));replace LL:=Ab L3;clear L3 hb3 hE3;simp only[nn])))
 have ht0:TS X _ (t::lv.ownBlock.toList) b0 t o xs lv [(B3,s.cs SA sc)]:=(Aa LL).drew
 have hq0: ∃ys lw,TS X _ (t::lv.ownBlock.toList) b0 t o ys lw [(B3,s.cs SA sc)]:=⟨_,_,ht0⟩
 refine wp_region_held_drew (P:=Tryz.prog) (S:=fun Z=> ∃ys lw,TS X Z (t::lv.ownBlock.toList) b0 t o ys lw [(B3,s.cs SA sc)]) (by kernel_rfl) hq0 (fun hS0=> ?_)
 refine y0 0 (some 6) (.pointer (some ⟨t,0,none⟩)) rfl hq0 ?_
 refine y0 1 (some 7) (.pointer (some ⟨B3,0,none⟩)) rfl hq0 ?_
 refine y1 2 (some 8) (.int .i64 s.c) rfl (fun X hX=>by obtain⟨ys,lw,hZ⟩:=hX;exact Ad 3 Tryz.isAgg3 rfl rfl (hZ.hq.get 0 rfl) rfl) hq0 ?_
 refine y0 3 (some 9) (.pointer (some ⟨B3,1,none⟩)) rfl hq0 ?_
 refine y1 4 (some 10) (.agg s.p.cs.toArray) rfl (fun X hX=>by obtain⟨ys,lw,hZ⟩:=hX;exact Af (vs:=s.p.cs) 40 5 Nh szV rfl rfl (hZ.hq.get 0 rfl) rfl rfl) hq0 ?_
 refine y0 6 (some 12) (.pointer (some ⟨B3,6,none⟩)) rfl hq0 ?_
 refine y1 7 (some 13) (.bool s.x) rfl (fun X hX=>by obtain⟨ys,lw,hZ⟩:=hX;exact Ad 4 Tryz.isAgg4 rfl rfl (hZ.hq.get 0 rfl) rfl) hq0 ?_
 refine wpAnyH_ready (rs:= [5]) (by kernel_rfl) (by simp) (Jm 5 (some 11) rfl (by kernel_rfl) (by kernel_rfl) (by kernel_rfl) (hv _) ?_ AllReadyH.nil)
 rintro e Y5 ⟨rfl,hY5⟩
 have ht5:=ht0.on hY5
 have hq5: ∃ys lw,TS X Y5 (t::lv.ownBlock.toList) b0 t o ys lw [(B3,s.cs SA sc)]:=⟨_,_,ht5⟩
 refine⟨_,rfl,hq5, ?_⟩
 simp only[nn]
 refine y1 8 (some 14) (.agg (DL.cs ⟨0,1,s.c,s.x,s.p,Gb,zeroD⟩).toArray) rfl (fun X hX=>ex_bMake s.c s.p s.x rfl rfl rfl rfl rfl) hq5 ?_
 refine wpAnyH_ready (rs:= [9]) (by kernel_rfl) (by simp) (Jm 9 (some 15) rfl (by kernel_rfl) (by kernel_rfl) (by kernel_rfl) (Jv ⟨0,1,s.c,s.x,s.p,Gb,zeroD⟩ b0 t o xs lv _ ht5.ti (by omega) (Nat.le_trans h0 ht5.hq.fr.size)) ?_ AllReadyH.nil)
 rintro e Y9 ⟨lv9,rfl,hY9⟩
 have ht9:=ht5.tell hY9
 have hq9: ∃ys lw,TS X Y9 (t::lv.ownBlock.toList) b0 t o ys lw [(B3,s.cs SA sc)]:=⟨_,_,ht9⟩
 refine⟨_,rfl,hq9, ?_⟩
 simp only[nn]
 refine dn ?_
 try simp only[nn]
 have LM:Hid (∃lw,TS X Y9 (t::lv.ownBlock.toList) b0 t o (xs++([ZbC o s]++(s.ps.take 0).map (Ol o))) lw [(B3,s.cs SA sc)]):=Ab ⟨_,by simpa [ZbC] using ht9⟩
 have HW:=Ab hW
 have HX:=Ab hx
 have H0:=Ab h0
 have HS:=Ab hs.2
 clear LL hq0 ht0 hS0 hq5 ht5 hY5 hq9 ht9 hY9 hv hW hx h0 hs
 obtain⟨lw9,hlw9⟩:=Aa LM
 have LL:=Ab hlw9
 clear LM hlw9
 go_wp2_with (first|go_skip|((with_reducible show wpList ..);first|(refine rd rfl (Ad 49 Tryz.isAgg49 rfl rfl ((Aa LL).hq.get 0 rfl) rfl) ?_)|(refine rd rfl (Bp 49 80 Tryz.underlying49 rfl rfl) ?_)))
 go_loopg [19] s.ps.length (fun gm s19 wr=> ∃i:Nat,s19= .int .i64 (i:Nat)/\i<=s.ps.length/\s.ps.length - i<=gm/\Hid (∃lw,TS X wr (t::lv.ownBlock.toList) b0 t o (xs++([ZbC o s]++(s.ps.take i).map (Ol o))) lw [(B3,s.cs SA sc)]))
 case atStart=>exact⟨0,rfl,by omega,by omega,Ab ⟨_,Aa LL⟩⟩
 case round=>
  clear LL
  obtain⟨i,rfl,hil,hgm,LM⟩:=hrel
  obtain⟨lw,hlw⟩:=Aa LM
  have LL:=Ab hlw
  clear LM hlw
  by_cases hlt:i<s.ps.length
  ·have dlt:decide ((i:Int)<(s.ps.length:Int))=true:=decide_eq_true (by omega)
   have hw1:IntKind.i64.wrap ((i:Int)+1)=(i:Int)+1:=by have:=Aa HX;rw[IntKind.wrap_i64];omega
   obtain⟨p,hp⟩: ∃p,s.ps[i]? =some p:=⟨_,List.getElem?_eq_getElem hlt⟩
   obtain⟨_,b,off,hA,hb,hrg⟩:=(Aa HW) i p hp
   have HA:=Ab hA
   have HA2:Hid (∀Z,Fr X Z (t::lv.ownBlock.toList)->Z.rangeAt b (off+i * 20) p.cs):=Ab (fun Z hZ=>Gu hrg hb hZ ((Aa HN) i p hp b off hA))
   have HLT:=Ab hlt
   have HSP:=Ab ((Aa HS) p (List.mem_of_getElem? hp))
   have HTM:=Ab (ZcU o hp)
   have HXL:Hid ((xs++([ZbC o s]++(s.ps.take i).map (Ol o))).length<=100000):=Ab (by have:=Aa HX;simp;omega)
   clear hA hb hrg hlt hil hp
   go_wp2_with (first|go_skip|((with_reducible show wpList ..);first|(refine rd rfl (Dh 49 20 i Mq Ms rfl rfl (Aa HA) rfl (Aa HLT)) ?_)|(refine rd rfl (Br (vs:=p.cs) 80 20 rwP szP rfl rfl (Aa HA2 _ (Aa LL).hq.fr) rfl) ?_)|((refine alT 80 (Es.cs) rfl (fun w=>by kernel_rfl) (Aa LL) ?_);intro X5 B5 hE5 L5 hb5;have hB5:=Ab (Nat.le_trans (Aa LL).hq.fr.size (Nat.le_of_eq hE5.symm));replace LL:=Ab L5;clear L5 hb5 hE5;simp only[nn])|((refine stT (vs:=p.cs) 1 80 rfl rfl rfl rfl (Jf p) szP (Aa LL) rfl (by simp[Bt,PR.cs,SH.cs,VV.cs,KK.cs,DD.cs,CO.cs,DL.cs,Es,Dr,zeroD,Aq]) (Or.inr (Aa hB5)) ?_);intro X6 L6 hf6;replace LL:=Ab L6;clear L6 hf6;simp only[nn])|(refine rd rfl (Af (vs:=p.cs) 80 20 rwP szP rfl rfl ((Aa LL).hq.get 1 rfl) rfl rfl) ?_)))
   have hpu:=Zcb p b0 t o _ lw _ (Aa LL).ti (Aa HXL) (Nat.le_trans (Aa H0) (Aa LL).hq.fr.size) (Aa HSP)
   rw[Zao] at hpu
   refine hpu.mono ?_
   clear hpu
   rintro e Y4 ⟨lv4,rfl,hY4⟩
   replace LL:=Ab ((Aa LL).tell hY4)
   clear hY4
   have LN:Hid (∃lw,TS X Y4 (t::lv.ownBlock.toList) b0 t o (xs++([ZbC o s]++(s.ps.take (i+1)).map (Ol o))) lw [(B3,s.cs SA sc)]):=Ab ⟨lv4,by rw[Aa HTM];have:=TS.left (L:= [(B3,s.cs SA sc)]) (Aa LL);simpa using this⟩
   clear LL
   go_wp2_with (go_skip)
   go_roundg (s.ps.length - (i+1))
   case measure=>have:=Aa HLT;omega
   case rel=>exact⟨i+1,by go_num,by have:=Aa HLT;omega,by omega,LN⟩
  ·obtain rfl:i=s.ps.length:=by omega
   clear hlt hil
   have LF:Hid (TP X b0 t o xs (Zdk o s) lv lw wr):=Ab (by have:=(Aa LL).post;rw[List.take_length] at this;exact this)
   clear LL
   go_wp2
   go_end0
   exact⟨_,rfl,Aa LF⟩
end
section
open Go Go.Proofs Go.Maps Go.RowKit FM Tryz
def hit (is st:List PR) (p:PR):Bool:=match is[st.length]? with
 |none=>false
 |some q=>decide (q.k=p.k)
def Dn (is was:List PR):Nat->List PR
 |0=> []
 |i+1=>match was[i]? with
  |none=>Dn is was i
  |some p=>if hit is (Dn is was i) p then Dn is was i++ [p] else Dn is was i
def goT (o:Int) (is was:List PR):Nat->List DL
 |0=> []
 |i+1=>match was[i]? with
  |none=>goT o is was i
  |some p=>if hit is (Dn is was i) p then goT o is was i else goT o is was i++ [goneL o p.k]
theorem ZfV {o:Int} {is was:List PR} {i:Nat} {p:PR} (hp:was[i]? =some p) (h:hit is (Dn is was i) p=true):Dn is was (i+1)=Dn is was i++ [p]/\goT o is was (i+1)=goT o is was i:=by
 simp[Dn,goT,hp,h]
theorem stayT_no {o:Int} {is was:List PR} {i:Nat} {p:PR} (hp:was[i]? =some p) (h:hit is (Dn is was i) p=false):Dn is was (i+1)=Dn is was i/\goT o is was (i+1)=goT o is was i++ [goneL o p.k]:=by
 simp[Dn,goT,hp,h]
theorem Qv (o:Int) (is was:List PR): ∀i,(Dn is was i).length<=is.length/\(Dn is was i).length<=i/\(goT o is was i).length<=i
 |0=>by simp[Dn,goT]
 |i+1=>by
  obtain⟨h1,h2,h3⟩:=Qv o is was i
  cases hp:was[i]? with
  |none=>
   simp[Dn,goT,hp]
   omega
  |some p=>
   cases hh:hit is (Dn is was i) p with
   |false=>
    simp[Dn,goT,hp,hh]
    omega
   |true=>
    simp only[Dn,goT,hp,hh,if_true,List.length_append,List.length_singleton]
    have:(Dn is was i).length<is.length:=by
     unfold hit at hh
     cases hq:is[(Dn is was i).length]? with
     |none=>simp[hq] at hh
     |some q=>exact(List.getElem?_eq_some_iff.1 hq).1
    omega
def chT (o:Int) (is st:List PR):Nat->List DL
 |0=> []
 |i+1=>match st[i]?,is[i]? with
  |some p,some q=>if Zgr p.d q.d then chT o is st i else chT o is st i++ [Ol o q]
  |_,_=>chT o is st i
theorem chT_yes {o:Int} {is st:List PR} {i:Nat} {p q:PR} (hp:st[i]? =some p) (hq:is[i]? =some q) (h:Zgr p.d q.d=true):chT o is st (i+1)=chT o is st i:=by simp[chT,hp,hq,h]
theorem chT_no {o:Int} {is st:List PR} {i:Nat} {p q:PR} (hp:st[i]? =some p) (hq:is[i]? =some q) (h:Zgr p.d q.d=false):chT o is st (i+1)=chT o is st i++ [Ol o q]:=by simp[chT,hp,hq,h]
theorem Zv (o:Int) (is st:List PR): ∀i,(chT o is st i).length<=i
 |0=>by simp[chT]
 |i+1=>by
  have h1:=Zv o is st i
  unfold chT
  split
  ·split
   ·omega
   ·simp
    omega
  ·omega
def Lk (o:Int) (was is:List PR):List DL:=goT o is was was.length++(chT o is (Dn is was was.length) (Dn is was was.length).length++(is.drop (Dn is was was.length).length).map (Ol o))
structure SRow (X Z:World) (t:Nat) (lw:Value) (Bs:List Nat) (st:List PR) (sv:Value):Prop where
 own:Z.ownsRow X.heap.size 80 20 sv st.length (flatP8 st)
 nt:sv.ownBlock≠some t
 nl: ∀g,sv.ownBlock=some g->lw.ownBlock≠some g
 nb: ∀b∈Bs,sv.ownBlock≠some b
theorem SRow.on {X Z Y:World} {t:Nat} {lw sv:Value} {Bs:List Nat} {st:List PR} (h:SRow X Z t lw Bs st sv) (k:Below Z.heap.size Z Y):SRow X Y t lw Bs st sv:=⟨Ll h.own (fun g hg=>k.block g (World.ownsRow.lt h.own g hg).2),h.nt,h.nl,h.nb⟩
theorem SRow.add {X Z Y:World} {t b:Nat} {lw sv:Value} {Bs:List Nat} {st:List PR} (h:SRow X Z t lw Bs st sv) (k:Below Z.heap.size Z Y) (hb:b=Z.heap.size):SRow X Y t lw (b::Bs) st sv:=⟨Ll h.own (fun g hg=>k.block g (World.ownsRow.lt h.own g hg).2),h.nt,h.nl,fun c hc=>by
 rcases List.mem_cons.1 hc with rfl|hc
 ·intro e
  have:=(World.ownsRow.lt h.own _ e).2
  omega
 ·exact h.nb c hc⟩
theorem SRow.far {X Z Y:World} {t b:Nat} {lw sv:Value} {Bs:List Nat} {st:List PR} (h:SRow X Z t lw Bs st sv) (k:Fr Z Y [b]) (hb:b∈Bs):SRow X Y t lw Bs st sv:=⟨Ll h.own (fun g hg=>k.block g (World.ownsRow.lt h.own g hg).2 (by
 intro e
 obtain rfl:g=b:=by simpa using e
 exact h.nb g hb hg)),h.nt,h.nl,h.nb⟩
theorem SRow.drop {X Z:World} {t:Nat} {lw sv:Value} {Bs:List Nat} {st:List PR} (h:SRow X Z t lw Bs st sv):SRow X Z t lw [] st sv:=⟨h.own,h.nt,h.nl,by simp⟩
theorem SRow.tell {X Z Y:World} {b0 t:Nat} {o:Int} {ys ds:List DL} {lw lw' sv:Value} {Bs:List Nat} {st:List PR} (h:SRow X Z t lw Bs st sv) (k:TP Z b0 t o ys ds lw lw' Y):SRow X Y t lw' Bs st sv:=⟨Ll h.own (fun g hg=>k.fr.block g (World.ownsRow.lt h.own g hg).2 (by
 intro e
 rcases List.mem_cons.1 e with rfl|e
 ·exact h.nt hg
 ·exact h.nl g hg (by simpa using e))),h.nt,fun g hg e=>by
  rcases k.fre g e with e2|e2
  ·exact h.nl g hg e2
  ·have:=(World.ownsRow.lt h.own g hg).2
   omega,h.nb⟩
theorem SRow.grow {X Z Y:World} {E:List Nat} {b0 t:Nat} {o:Int} {ys:List DL} {lw sv:Value} {Bs:List Nat} {st:List PR} {p:PR} {L:List (Nat×List Value)} {A:Option Addr} {c:Nat} (h:SRow X Z t lw Bs st sv) (hL:TS X Z E b0 t o ys lw L) (hB: ∀q∈L,sv.ownBlock≠some q.1) (hO:Y.ownsRow X.heap.size 80 20 (.slice A (st.length+1) c) (st.length+1) (flatP8 st++p.cs)) (hg:Z.grownBy Y sv.ownBlock) (hF:Kz Z sv (.slice A (st.length+1) c)) (hbs: ∀b∈Bs,b<Z.heap.size):
  SRow X Y t lw Bs (st++ [p]) (.slice A (st.length+1) c)/\TS X Y E b0 t o ys lw L:=by
 have hne: ∀g,g<Z.heap.size->sv.ownBlock≠some g->(Value.slice A (st.length+1) c).ownBlock≠some g:=fun g hg hs e=>by
  rcases hF with e2|e2
  ·exact hs (e2▸e)
  ·rw[e2] at e
   have:=Option.some.inj e
   omega
 have hsz: ∀g,sv.ownBlock=some g->X.heap.size<=g:=fun g hg=>(World.ownsRow.lt h.own g hg).1
 have hfr:Fr Z Y sv.ownBlock.toList:=Fr.grown hg
 refine⟨⟨?_,hne t hL.ti.lt h.nt,fun g hg e=> ?_,fun b hb=>hne b (hbs b hb) (h.nb b hb)⟩,⟨?_, ?_,hL.sep,hL.ct,hL.cl⟩⟩
 ·rw[List.length_append,show flatP8 (st++ [p])=flatP8 st++p.cs by simp[flatP8]]
  exact hO
 ·exact hne g (World.ownsRow.lt hL.ti.own g e).2 (fun e2=>h.nl g e2 e) hg
 ·exact hL.ti.far (hfr.block t hL.ti.lt (by simpa using h.nt)) (fun g hg2=>hfr.block g (World.ownsRow.lt hL.ti.own g hg2).2 (by
   intro e
   exact h.nl g (by simpa using e) hg2))
 ·exact hL.hq.step hfr (fun b hb=> .inr (hsz b (by simpa using hb))) (fun q hq hb=>hB q hq (by simpa using hb))
theorem sliceU (A:Option Addr) (n cap p:Nat) (hp:p<=n) (hn:n<=cap) (hA:n≠0-> ∃b off,A=some ⟨b,off,none⟩) (w:World): ∃A':Option Addr,(∀b off,A=some ⟨b,off,none⟩->n - p≠0->A'=some ⟨b,off+p * 20,none⟩)/\(Instr.sliceAt 49 (.slice A n cap) (some (.int .i64 (p:Nat))) none none).run prog w= .ok (.slice A' (n - p) (cap - p)) w:=by
 by_cases h0:p=0
 ·subst h0
  refine⟨A,fun b off h _=>by simpa using h, ?_⟩
  rw[run_sliceAt_slice (h:=by kernel_rfl),run_slice_l (ht:=by kernel_rfl) (h0:=by omega) (h1:=by omega)]
  have e:(sizeOf (prog.elem 49)).run prog w= .ok 20 w:=by kernel_rfl
  rw[e]
  cases A<;>simp[sliced,Addr.add,Result.andThen]
 ·obtain⟨b,off,rfl⟩:=hA (by omega)
  refine⟨if cap=p then some ⟨b,off,none⟩ else some ⟨b,off+p * 20,none⟩,fun b' off' h h2=> ?_, ?_⟩
  ·rw[if_neg (by omega)]
   simp only[Option.some.injEq,Addr.mk.injEq] at h ⊢
   obtain⟨rfl,rfl, -⟩:=h
   exact⟨rfl,rfl,trivial⟩
  rw[run_sliceAt_slice (h:=by kernel_rfl),run_slice_l (ht:=by kernel_rfl) (h0:=by omega) (h1:=by omega)]
  have e:(sizeOf (prog.elem 49)).run prog w= .ok 20 w:=by kernel_rfl
  rw[e]
  by_cases h1:cap=p
  ·simp[sliced,Addr.add,Result.andThen,h0,h1]
  ·have h2: ¬p * 20=0:=by omega
   simp[sliced,Addr.add,Result.andThen,h0,h1,h2]
theorem Zgn {o:Oper} {a:Act} {w:World} {x ix:Operand} {v u:Value} {p:Nat} (ho:o.op= .slice 49 x (some ix) none none) (hx:a.eval x=v) (hix:a.eval ix= .int .i64 (p:Nat)) (h:(Instr.sliceAt 49 v (some (.int .i64 (p:Nat))) none none).run prog w= .ok u w):(execOp a.eval o).run prog w= .ok (.value u) w:=by
 unfold execOp
 simp only[ho,hx,hix,Option.map_some,Option.map_none]
 simp[h]
theorem buildT {ops:Array Oper} {rest:List Oper} {Q:Exit->Act->World->Prop} {w w0:World} {a:Act} {o:Oper} {E:List Nat} {L:List (Nat×List Value)} {b0 t:Nat} {ob:Int} {xs:List DL} {lv:Value} {x:Operand} (p:PR) (hw:Region.wanted o (yielded ops a.tmps)=true) (ho:o.op= .buildSlice 49 1 #[(0,x)]) (hx:a.eval x= .agg p.cs.toArray) (hL:TS w0 w E b0 t ob xs lv L)
  (h: ∀X B,B=w.heap.size->TS w0 X E b0 t ob xs lv (L++ [(B,p.cs)])->Below w.heap.size w X->wpList prog ops Q rest (a.put o.dst (.slice (some ⟨B,0,none⟩) 1 1)) X):wpList prog ops Q (o::rest) a w:=by
 refine BigFrame.wpList_want hw fun K hK=> ?_
 obtain⟨i0,hi,hz0,hz1,hz2⟩:=info_parts Zfq
 refine wp_buildSlice 49 80 1 _ ho p.cs.toArray i0 _ underlying49 hi hz0 (by rw[hz1];omega) (by rw[hz1];omega) ?_ (hK _ _ (h _ _ rfl (hL.new p.cs 80 (Nat.succ_pos _)) ((Below.refl _ _).alloc (Nat.le_refl _) _)))
 rw[hz1]
 simp only[List.map_toArray,List.map_cons,List.map_nil,hx]
 exact Vk 20 _ (.agg p.cs.toArray) (by simp) rfl
theorem Zd6 {X:World} {A A':Option Addr} {l:List PR} {n:Nat} (h:ReadsP9 X A l) (hA: ∀b off,A=some ⟨b,off,none⟩->l.length - n≠0->A'=some ⟨b,off+n * 20,none⟩):ReadsP9 X A' (l.drop n):=fun j p hp=>by
 rw[List.getElem?_drop] at hp
 obtain⟨h1,b,off,h2,h3,h4⟩:=h (n+j) p hp
 have hl:=(List.getElem?_eq_some_iff.1 hp).1
 refine⟨h1,b,off+n * 20,hA b off h2 (by omega),h3, ?_⟩
 rw[show off+n * 20+j * 20=off+(n+j) * 20 by omega]
 exact h4
theorem out_drop {A A':Option Addr} {l:List PR} {n:Nat} {E:List Nat} {X:World} (h:Out A l E) (hR:ReadsP9 X A l) (hA: ∀b off,A=some ⟨b,off,none⟩->l.length - n≠0->A'=some ⟨b,off+n * 20,none⟩):Out A' (l.drop n) E:=fun j p hp b off hb=>by
 rw[List.getElem?_drop] at hp
 obtain⟨_,b2,off2,h2,_,_⟩:=hR (n+j) p hp
 have hl:=(List.getElem?_eq_some_iff.1 hp).1
 have e:=hA b2 off2 h2 (by omega)
 rw[hb] at e
 simp only[Option.some.injEq,Addr.mk.injEq] at e
 obtain⟨rfl, -⟩:=e
 exact h (n+j) p hp _ _ h2
theorem ZaQ {o:Oper} {a:Act} {w:World} {x y:Operand} {n m:Int} {r:Bool} (ho:o.op= .binOp .lss 3 x y 3) (hx:a.eval x= .int .i64 n) (hc:a.eval y= .int .i64 m) (h:decide (n<m)=r):(execOp a.eval o).run prog w= .ok (.value (.bool r)) w:=by
 unfold execOp
 simp only[ho,hx,hc]
 simp[go_sem,eqGuard,h]
theorem SRow.drew {X Z:World} {t:Nat} {lw sv:Value} {Bs:List Nat} {st:List PR} (h:SRow X Z t lw Bs st sv):SRow X Z.drew t lw Bs st sv:=⟨Ll h.own (fun g hg=>rfl),h.nt,h.nl,h.nb⟩
theorem SRow.nil (X Z:World) (t:Nat) (lw:Value):SRow X Z t lw [] [] (.slice none 0 0):=⟨⟨rfl, .inl ⟨rfl,rfl⟩⟩,by simp[Value.ownBlock],by simp[Value.ownBlock],by simp⟩
theorem in2 {B1 B3:Nat} {c d:List Value} {q:Nat×List Value} (h:q∈ [(B1,c),(B3,d)]):q.1∈ [B3,B1]:=by
 simp at h ⊢
 rcases h with rfl|rfl<;>simp
theorem lt2 {w Z:World} {E:List Nat} {B1 B3 b:Nat} {c d:List Value} (h:Hq w Z E [(B1,c),(B3,d)]) (hb:b∈ [B3,B1]):b<Z.heap.size:=by
 simp at hb
 rcases hb with rfl|rfl
 ·exact h.lt (b,d) (by simp)
 ·exact h.lt (b,c) (by simp)
theorem Kc (was is:List PR) (WA IA:Option Addr) (wc ic:Nat) (b0 t:Nat) (o:Int) (xs:List DL) (lv:Value) (X:World) (hT:TI b0 X t o xs lv) (hW:ReadsP9 X WA was) (hI:ReadsP9 X IA is) (hNW:Out WA was (t::lv.ownBlock.toList)) (hNI:Out IA is (t::lv.ownBlock.toList)) (hic:is.length<=ic) (hx:xs.length+was.length+2 * is.length<=100000) (h0:b0<=X.heap.size) (hsW: ∀p∈was,SP p) (hsI: ∀p∈is,SP p) (hTb: ∀Z,Fr X Z (t::lv.ownBlock.toList)->Lib.Utf8Tabs 1 2 Z):Calls prog 114 #[.pointer (some ⟨t,0,none⟩), .slice WA was.length wc, .slice IA is.length ic] X (ZbX X b0 t o xs (Lk o was is) lv):=by
 have HX:=Ab hx
 have H0:=Ab h0
 have HW:=Ab hW
 have HI:=Ab hI
 have HNW:=Ab hNW
 have HNI:=Ab hNI
 have HIC:=Ab hic
 have HSW:=Ab hsW
 have HSI:=Ab hsI
 have HTB:=Ab hTb
 have LL:=Ab (TS.start hT)
 have SR:=Ab (SRow.nil X X t lv)
 clear hx h0 hW hI hNW hNI hic hsW hsI hTb hT
 go_enter func114,ntmps114
 go_wp2_with (first|go_skip|((with_reducible show wpList ..);(refine rd rfl (Bp 49 80 underlying49 rfl rfl) ?_)))
 go_loopg [6,16] was.length (fun gm s6 s16 wr=> ∃i:Nat,s16= .int .i64 (i:Nat)/\i<=was.length/\was.length - i<=gm/\ ∃(vA:Option Addr) (vc:Nat) (lw:Value),s6= .slice vA (Dn is was i).length vc/\Hid (TS X wr (t::lv.ownBlock.toList) b0 t o (xs++goT o is was i) lw [])/\Hid (SRow X wr t lw [] (Dn is was i) (.slice vA (Dn is was i).length vc)))
 case atStart=>exact⟨0,rfl,by omega,by omega,none,0,lv,rfl,Ab (by simpa [goT] using Aa LL),Ab (by simpa [Dn] using Aa SR)⟩
 case round=>
  clear LL SR
  obtain⟨i,rfl,hil,hgm,vA,vc,lw,rfl,LL,SR⟩:=hrel
  by_cases hlt:i<was.length
  ·have dlt:decide ((i:Int)<(was.length:Int))=true:=decide_eq_true (by omega)
   have hw1:IntKind.i64.wrap ((i:Int)+1)=(i:Int)+1:=by have:=Aa HX;rw[IntKind.wrap_i64];omega
   obtain⟨p,hp⟩: ∃p,was[i]? =some p:=⟨_,List.getElem?_eq_getElem hlt⟩
   obtain⟨_,b,off,hA,hb,hrg⟩:=(Aa HW) i p hp
   have HA:=Ab hA
   have HA2:Hid (∀Z,Fr X Z (t::lv.ownBlock.toList)->Z.rangeAt b (off+i * 20) p.cs):=Ab (fun Z hZ=>Gu hrg hb hZ ((Aa HNW) i p hp b off hA))
   have HLT:=Ab hlt
   have HSP:=Ab ((Aa HSW) p (List.mem_of_getElem? hp))
   obtain⟨hl1,hl2,hl3⟩:=Qv o is was i
   have hYES:=ZfV (o:=o) (is:=is) hp
   have hNO:=stayT_no (o:=o) (is:=is) hp
   have HSB:Hid ((Dn is was i).length+1<=1000000):=Ab (by have:=Aa HX;omega)
   have HXL:Hid ((xs++goT o is was i).length<=100000):=Ab (by have:=Aa HX;rw[List.length_append];omega)
   generalize hst:Dn is was i=st at *
   generalize hgl:goT o is was i=gl at *
   generalize hys:xs++gl=ys at *
   have HYES:=Ab hYES
   have HNO:=Ab hNO
   clear hYES hNO hA hb hrg hil hp hst hgl hl2 hl3 hlt
   by_cases hnl:st.length<is.length
   ·obtain⟨q,hq⟩: ∃q,is[st.length]? =some q:=⟨_,List.getElem?_eq_getElem hnl⟩
    obtain⟨_,b2,off2,hIA,hb2,hrg2⟩:=(Aa HI) st.length q hq
    have dnl:decide ((st.length:Int)<(is.length:Int))=true:=decide_eq_true (by omega)
    have hhit:hit is st p=decide (q.k=p.k):=by unfold hit;rw[hq]
    have hout2:=(Aa HNI) st.length q hq b2 off2 hIA
    have HH:=Ab (And.intro hIA (And.intro hb2 (And.intro hrg2 (And.intro hnl (And.intro dnl hout2)))))
    clear hIA hb2 hrg2 hnl dnl hq hout2
    go_wp2_with (first|go_skip|((with_reducible show wpList ..);first|(refine rd rfl (Dh 49 20 i Mq Ms rfl rfl (Aa HA) rfl (Aa HLT)) ?_)|(refine rd rfl (Br (vs:=p.cs) 80 20 rwP szP rfl rfl (Aa HA2 _ (Aa LL).hq.fr) rfl) ?_)|((refine alT 80 (Es.cs) rfl (fun w=>by kernel_rfl) (Aa LL) ?_);intro X8 B8 hE8 L8 hb8;have hB8:=Ab (Nat.le_trans (Aa LL).hq.fr.size (Nat.le_of_eq hE8.symm));replace SR:=Ab ((Aa SR).add hb8 hE8);replace LL:=Ab L8;clear L8 hb8 hE8;simp only[nn])|((refine stT (vs:=p.cs) 0 80 rfl rfl rfl rfl (Jf p) szP (Aa LL) rfl (by simp[Bt,PR.cs,SH.cs,VV.cs,KK.cs,DD.cs,CO.cs,DL.cs,Es,Dr,zeroD,Aq]) (Or.inr (Aa hB8)) ?_);intro X9 L9 hf9;replace SR:=Ab ((Aa SR).far hf9 (by simp));replace LL:=Ab L9;clear L9 hf9;simp only[nn])|(refine rd rfl (Bp 49 80 underlying49 rfl rfl) ?_)))
    obtain⟨hIA,hb2,hrg2,hnl,dnl,hout2⟩:=Aa HH
    have ht0:TS X _ (t::lv.ownBlock.toList) b0 t o ys lw [(B8,p.cs)]:=(Aa LL).drew
    refine wp_region_held_drew (P:=prog) (S:=fun Z=>TS X Z (t::lv.ownBlock.toList) b0 t o ys lw [(B8,p.cs)]) (by kernel_rfl) ht0 (fun hS0=> ?_)
    refine y0 0 (some 22) (.int .i64 (st.length:Nat)) rfl ht0 ?_
    refine y0 1 (some 23) (.slice IA is.length ic) rfl ht0 ?_
    refine y1 2 (some 24) (.int .i64 (is.length:Nat)) rfl (fun X hX=>Bp 49 80 underlying49 rfl rfl) ht0 ?_
    refine y1 3 (some 25) (.bool true) rfl (fun X hX=>ZaQ rfl rfl rfl dnl) ht0 ?_
    refine y0 4 (some 26) (.bool true) rfl ht0 ?_
    refine y0 5 (some 27) (.slice IA is.length ic) rfl ht0 ?_
    refine y0 6 (some 28) (.int .i64 (st.length:Nat)) rfl ht0 ?_
    refine y1 7 (some 29) (.pointer (some ⟨b2,off2+st.length * 20,none⟩)) rfl (fun X hX=>Dh 49 20 st.length Mq Ms rfl rfl hIA rfl hnl) ht0 ?_
    refine y0 8 (some 30) (.pointer (some ⟨b2,off2+st.length * 20,none⟩)) rfl ht0 ?_
    refine y1 9 (some 31) (.agg q.k.cs.toArray) rfl (fun X hX=>Br (vs:=q.k.cs) 37 2 rwK szK rfl rfl (Zd8 (a:=q.k.cs) (c:=q.d.cs) (Gu hrg2 hb2 hX.hq.fr hout2)) rfl) ht0 ?_
    refine y0 10 (some 32) (.pointer (some ⟨B8,0,none⟩)) rfl ht0 ?_
    refine y1 11 (some 33) (.agg p.k.cs.toArray) rfl (fun X hX=>Af (vs:=p.k.cs) 37 2 rwK szK rfl rfl (hX.hq.get 0 rfl) rfl rfl) ht0 ?_
    refine y1 12 (some 34) (.bool (decide (q.k=p.k))) rfl (fun X hX=>ex_eql41 q.k p.k rfl rfl rfl) ht0 ?_
    refine y0 13 (some 35) (.bool (decide (q.k=p.k))) rfl ht0 ?_
    refine dn ?_
    try simp only[nn]
    replace LL:=Ab ht0
    replace SR:=Ab (Aa SR).drew
    clear ht0 hS0 hIA hb2 hrg2 hnl dnl HH hout2
    by_cases hkk:q.k=p.k
    ·rw[decide_eq_true hkk] at hhit ⊢
     clear hkk
     have HNX:=Ab ((Aa HYES) hhit)
     clear HNO HYES
     go_wp2_with (first|go_skip|((with_reducible show wpList ..);first|(refine rd rfl (Af (vs:=p.cs) 80 20 rwP szP rfl rfl ((Aa LL).hq.get 0 rfl) rfl rfl) ?_)|((refine buildT p (by rfl) rfl rfl (Aa LL) ?_);intro X3 B3 hE3 L3 hb3;have hB3:=Ab (Nat.le_trans (Aa LL).hq.fr.size (Nat.le_of_eq hE3.symm));replace SR:=Ab ((Aa SR).add hb3 hE3);replace LL:=Ab L3;clear L3 hb3 hE3;simp only[nn])|((refine ZdM (base:=X.heap.size) (size:=20) (bytes:=192) (n:=st.length) (m:=1) (news:=p.cs) (xs:=flatP8 st) (v:= .slice vA st.length vc) rfl rfl rfl rfl underlying49 Zfq rfl (by decide) (Aa SR).own ((Aa LL).hq.get 1 rfl) rfl (Jf p) (Aa HSB) (by decide) (Aa LL).hq.fr.size ?_);intro A7 c7 X7 hO7 hg7 hF7;have hgr:=(Aa SR).grow (Aa LL) (fun q hq=>(Aa SR).nb q.1 (in2 hq)) hO7 hg7 hF7 (fun b hb=>lt2 (Aa LL).hq hb);replace SR:=Ab hgr.1;replace LL:=Ab hgr.2;clear hgr hO7 hg7 hF7;simp only[nn])))
     have LN:Hid (TS X X7 (t::lv.ownBlock.toList) b0 t o (xs++goT o is was (i+1)) lw []):=Ab (by rw[(Aa HNX).2,hys];exact TS.left (L:= []) (Aa LL))
     have e6:st.length+1=(Dn is was (i+1)).length:=by rw[(Aa HNX).1];simp
     have SN:Hid (SRow X X7 t lw [] (Dn is was (i+1)) (.slice A7 (Dn is was (i+1)).length c7)):=Ab (by rw[←e6,(Aa HNX).1];exact(Aa SR).drop)
     clear LL SR HNX
     go_roundg (was.length - (i+1))
     case measure=>have:=Aa HLT;omega
     case rel=>exact⟨i+1,by go_num,by have:=Aa HLT;omega,by omega,A7,c7,lw,by rw[←e6],LN,SN⟩
    ·rw[decide_eq_false hkk] at hhit ⊢
     clear hkk
     have HNX:=Ab ((Aa HNO) hhit)
     clear HNO HYES
     go_wp2_with (first|go_skip|((with_reducible show wpList ..);(refine rd rfl (Af (vs:=p.k.cs) 37 2 rwK szK rfl rfl ((Aa LL).hq.get 0 rfl) rfl rfl) ?_)))
     have hgo:=Zdw p.k b0 t o _ lw _ (Aa LL).ti (Aa HXL) (Nat.le_trans (Aa H0) (Aa LL).hq.fr.size) (Aa HSP).1
     rw[ZbF] at hgo
     refine hgo.mono ?_
     clear hgo
     rintro e Y4 ⟨lv4,rfl,hY4⟩
     replace SR:=Ab ((Aa SR).tell hY4)
     replace LL:=Ab ((Aa LL).tell hY4)
     clear hY4
     have LN:Hid (TS X Y4 (t::lv.ownBlock.toList) b0 t o (xs++goT o is was (i+1)) lv4 []):=Ab (by rw[(Aa HNX).2];have:=TS.left (L:= []) (Aa LL);rw[←hys] at this;simpa using this)
     have SN:Hid (SRow X Y4 t lv4 [] (Dn is was (i+1)) (.slice vA (Dn is was (i+1)).length vc)):=Ab (by rw[(Aa HNX).1];exact(Aa SR).drop)
     have e6:st=Dn is was (i+1):=(Aa HNX).1.symm
     clear LL SR HNX
     go_wp2_with (go_skip)
     go_roundg (was.length - (i+1))
     case measure=>have:=Aa HLT;omega
     case rel=>exact⟨i+1,by go_num,by have:=Aa HLT;omega,by omega,vA,vc,lv4,by rw[←e6],LN,SN⟩
   ·have dnl:decide ((st.length:Int)<(is.length:Int))=false:=decide_eq_false (by omega)
    have hhit:hit is st p=false:=by unfold hit;rw[List.getElem?_eq_none (by omega)]
    have HH:=Ab dnl
    clear dnl
    go_wp2_with (first|go_skip|((with_reducible show wpList ..);first|(refine rd rfl (Dh 49 20 i Mq Ms rfl rfl (Aa HA) rfl (Aa HLT)) ?_)|(refine rd rfl (Br (vs:=p.cs) 80 20 rwP szP rfl rfl (Aa HA2 _ (Aa LL).hq.fr) rfl) ?_)|((refine alT 80 (Es.cs) rfl (fun w=>by kernel_rfl) (Aa LL) ?_);intro X8 B8 hE8 L8 hb8;have hB8:=Ab (Nat.le_trans (Aa LL).hq.fr.size (Nat.le_of_eq hE8.symm));replace SR:=Ab ((Aa SR).add hb8 hE8);replace LL:=Ab L8;clear L8 hb8 hE8;simp only[nn])|((refine stT (vs:=p.cs) 0 80 rfl rfl rfl rfl (Jf p) szP (Aa LL) rfl (by simp[Bt,PR.cs,SH.cs,VV.cs,KK.cs,DD.cs,CO.cs,DL.cs,Es,Dr,zeroD,Aq]) (Or.inr (Aa hB8)) ?_);intro X9 L9 hf9;replace SR:=Ab ((Aa SR).far hf9 (by simp));replace LL:=Ab L9;clear L9 hf9;simp only[nn])|(refine rd rfl (Bp 49 80 underlying49 rfl rfl) ?_)))
    have dnl:=Aa HH
    have ht0:TS X _ (t::lv.ownBlock.toList) b0 t o ys lw [(B8,p.cs)]:=(Aa LL).drew
    refine wp_region_held_drew (P:=prog) (S:=fun Z=>TS X Z (t::lv.ownBlock.toList) b0 t o ys lw [(B8,p.cs)]) (by kernel_rfl) ht0 (fun hS0=> ?_)
    refine y0 0 (some 22) (.int .i64 (st.length:Nat)) rfl ht0 ?_
    refine y0 1 (some 23) (.slice IA is.length ic) rfl ht0 ?_
    refine y1 2 (some 24) (.int .i64 (is.length:Nat)) rfl (fun X hX=>Bp 49 80 underlying49 rfl rfl) ht0 ?_
    refine y1 3 (some 25) (.bool false) rfl (fun X hX=>ZaQ rfl rfl rfl dnl) ht0 ?_
    refine y0 4 (some 26) (.bool false) rfl ht0 ?_
    refine Gs 5 (some 27) rfl (by kernel_rfl) (by kernel_rfl) (by kernel_rfl) (fun _ _ _ h=>h) (by kernel_rfl) (by kernel_rfl) ht0 ?_
    simp only[nn]
    refine Gs 6 (some 28) rfl (by kernel_rfl) (by kernel_rfl) (by kernel_rfl) (fun _ _ _ h=>h) (by kernel_rfl) (by kernel_rfl) ht0 ?_
    simp only[nn]
    refine Gs 7 (some 29) rfl (by kernel_rfl) (by kernel_rfl) (by kernel_rfl) (fun _ _ _ h=>h) (by kernel_rfl) (by kernel_rfl) ht0 ?_
    simp only[nn]
    refine Gs 8 (some 30) rfl (by kernel_rfl) (by kernel_rfl) (by kernel_rfl) (fun _ _ _ h=>h) (by kernel_rfl) (by kernel_rfl) ht0 ?_
    simp only[nn]
    refine Gs 9 (some 31) rfl (by kernel_rfl) (by kernel_rfl) (by kernel_rfl) (fun _ _ _ h=>h) (by kernel_rfl) (by kernel_rfl) ht0 ?_
    simp only[nn]
    refine Gs 10 (some 32) rfl (by kernel_rfl) (by kernel_rfl) (by kernel_rfl) (fun _ _ _ h=>h) (by kernel_rfl) (by kernel_rfl) ht0 ?_
    simp only[nn]
    refine Gs 11 (some 33) rfl (by kernel_rfl) (by kernel_rfl) (by kernel_rfl) (fun _ _ _ h=>h) (by kernel_rfl) (by kernel_rfl) ht0 ?_
    simp only[nn]
    refine Gs 12 (some 34) rfl (by kernel_rfl) (by kernel_rfl) (by kernel_rfl) (fun _ _ _ h=>h) (by kernel_rfl) (by kernel_rfl) ht0 ?_
    simp only[nn]
    refine y0 13 (some 35) (.bool false) rfl ht0 ?_
    refine dn ?_
    try simp only[nn]
    replace LL:=Ab ht0
    replace SR:=Ab (Aa SR).drew
    clear ht0 hS0 hnl dnl HH
    have HNX:=Ab ((Aa HNO) hhit)
    clear HNO HYES
    go_wp2_with (first|go_skip|((with_reducible show wpList ..);(refine rd rfl (Af (vs:=p.k.cs) 37 2 rwK szK rfl rfl ((Aa LL).hq.get 0 rfl) rfl rfl) ?_)))
    have hgo:=Zdw p.k b0 t o _ lw _ (Aa LL).ti (Aa HXL) (Nat.le_trans (Aa H0) (Aa LL).hq.fr.size) (Aa HSP).1
    rw[ZbF] at hgo
    refine hgo.mono ?_
    clear hgo
    rintro e Y4 ⟨lv4,rfl,hY4⟩
    replace SR:=Ab ((Aa SR).tell hY4)
    replace LL:=Ab ((Aa LL).tell hY4)
    clear hY4
    have LN:Hid (TS X Y4 (t::lv.ownBlock.toList) b0 t o (xs++goT o is was (i+1)) lv4 []):=Ab (by rw[(Aa HNX).2];have:=TS.left (L:= []) (Aa LL);rw[←hys] at this;simpa using this)
    have SN:Hid (SRow X Y4 t lv4 [] (Dn is was (i+1)) (.slice vA (Dn is was (i+1)).length vc)):=Ab (by rw[(Aa HNX).1];exact(Aa SR).drop)
    have e6:st=Dn is was (i+1):=(Aa HNX).1.symm
    clear LL SR HNX
    go_wp2_with (go_skip)
    go_roundg (was.length - (i+1))
    case measure=>have:=Aa HLT;omega
    case rel=>exact⟨i+1,by go_num,by have:=Aa HLT;omega,by omega,vA,vc,lv4,by rw[←e6],LN,SN⟩
  ·obtain rfl:i=was.length:=by omega
   obtain⟨hl1,hl2,hl3⟩:=Qv o is was was.length
   have hPL:Lk o was is=goT o is was was.length++(chT o is (Dn is was was.length) (Dn is was was.length).length++(is.drop (Dn is was was.length).length).map (Ol o)):=rfl
   have HPL:=Ab hPL
   clear hPL
   generalize Dn is was was.length=st at *
   generalize goT o is was was.length=gl at *
   have HL1:=Ab hl1
   have HL3:=Ab hl3
   have HL2:=Ab hl2
   clear hlt hil hgm hl1 hl2 hl3
   go_wp2_with (first|go_skip|((with_reducible show wpList ..);(refine rd rfl (Bp 49 80 underlying49 rfl rfl) ?_)))
   obtain⟨w2,hw2⟩: ∃w2,w2=wr:=⟨_,rfl⟩
   subst hw2
   go_loopg [47] st.length (fun gm s47 wr=> ∃i:Nat,s47= .int .i64 (i:Nat)/\i<=st.length/\st.length - i<=gm/\ ∃lw:Value,Hid (TS X wr (t::lv.ownBlock.toList) b0 t o (xs++(gl++chT o is st i)) lw [])/\Hid (SRow X wr t lw [] st (.slice vA st.length vc)))
   case atStart=>exact⟨0,rfl,by omega,by omega,lw,Ab (by simpa [chT] using Aa LL),SR⟩
   case round=>
    clear LL SR
    obtain⟨i,rfl,hil,hgm,lw,LL,SR⟩:=hrel
    by_cases hlt:i<st.length
    ·have dlt:decide ((i:Int)<(st.length:Int))=true:=decide_eq_true (by omega)
     have hiis:i<is.length:=by have:=Aa HL1;omega
     have hw1:IntKind.i64.wrap ((i:Int)+1)=(i:Int)+1:=by have:=Aa HX;rw[IntKind.wrap_i64];omega
     obtain⟨p,hp⟩: ∃p,st[i]? =some p:=⟨_,List.getElem?_eq_getElem hlt⟩
     obtain⟨q,hq⟩: ∃q,is[i]? =some q:=⟨_,List.getElem?_eq_getElem hiis⟩
     obtain⟨_,b2,off2,hIA,hb2,hrg2⟩:=(Aa HI) i q hq
     obtain⟨g,c3,hsv,_,_,hrg⟩:=On (f:=PR.cs) (fun _=>rfl) (Aa SR).own rfl i hlt
     obtain⟨hvA,rfl⟩:vA=some ⟨g,0,none⟩/\vc=c3:=by simpa using hsv
     have hpe:st[i]=p:=(List.getElem?_eq_some_iff.1 hp).2
     rw[hpe] at hrg
     have HA:=Ab hvA
     have HRG:=Ab hrg
     have HLT:=Ab hlt
     have HSQ:=Ab ((Aa HSI) q (List.mem_of_getElem? hq))
     have hsd:=Zb8 p.d q.d
     simp only[ZaZ] at hsd
     have hcl:=Zv o is st i
     have hYES:=chT_yes (o:=o) hp hq
     have hNO:=chT_no (o:=o) hp hq
     have HXL:Hid ((xs++(gl++chT o is st i)).length<=100000):=Ab (by have:=Aa HX;have:=Aa HL3;have:=Aa HL2;have:=Aa HL1;rw[List.length_append,List.length_append];omega)
     generalize hgl:chT o is st i=cl at *
     generalize hys:xs++(gl++cl)=ys at *
     generalize Zgr p.d q.d=eq at *
     have hout2:=(Aa HNI) i q hq b2 off2 hIA
     have HQ2:Hid (∀Z,Fr X Z (t::lv.ownBlock.toList)->Z.rangeAt b2 (off2+i * 20) q.cs):=Ab (fun Z hZ=>Gu hrg2 hb2 hZ hout2)
     have HH:=Ab (And.intro hIA (And.intro hb2 (And.intro hrg2 (And.intro hiis (And.intro hout2 hsd)))))
     have HIA:=Ab hIA
     have HIS:=Ab hiis
     have HYES:=Ab hYES
     have HNO:=Ab hNO
     clear hYES hNO hcl hgl hvA hsv hpe hrg hp hq hIA hb2 hrg2 hiis hsd hil hlt hout2
     cases eq
     ·go_wp2_with (first|go_skip|((with_reducible show wpList ..);first|(refine rd rfl (Dh 49 20 i Mq Ms rfl rfl (Aa HA) rfl (Aa HLT)) ?_)|(refine rd rfl (Br (vs:=p.cs) 80 20 rwP szP rfl rfl (Aa HRG) rfl) ?_)|((refine alT 80 (Es.cs) rfl (fun w=>by kernel_rfl) (Aa LL) ?_);intro X11 B11 hE11 L11 hb11;have hB11:=Ab (Nat.le_trans (Aa LL).hq.fr.size (Nat.le_of_eq hE11.symm));replace SR:=Ab ((Aa SR).add hb11 hE11);replace LL:=Ab L11;clear L11 hb11 hE11;simp only[nn])|((refine stT (vs:=p.cs) 0 80 rfl rfl rfl rfl (Jf p) szP (Aa LL) rfl (by simp[Bt,PR.cs,SH.cs,VV.cs,KK.cs,DD.cs,CO.cs,DL.cs,Es,Dr,zeroD,Aq]) (Or.inr (Aa hB11)) ?_);intro X12 L12 hf12;replace SR:=Ab ((Aa SR).far hf12 (by simp));replace LL:=Ab L12;clear L12 hf12;simp only[nn])))
      obtain⟨hIA,hb2,hrg2,hiis,hout2,hsd⟩:=Aa HH
      have ht0:TS X _ (t::lv.ownBlock.toList) b0 t o ys lw [(B11,p.cs)]:=(Aa LL).drew
      refine wp_region_held_drew (P:=prog) (S:=fun Z=>TS X Z (t::lv.ownBlock.toList) b0 t o ys lw [(B11,p.cs)]) (by kernel_rfl) ht0 (fun hS0=> ?_)
      refine y0 0 (some 52) (.pointer (some ⟨B11,2,none⟩)) rfl ht0 ?_
      refine y1 1 (some 53) (.agg p.d.cs.toArray) rfl (fun X hX=>Af (vs:=p.d.cs) 43 18 rwD szD rfl rfl (hX.hq.get 0 rfl) rfl rfl) ht0 ?_
      refine y0 2 (some 54) (.slice IA is.length ic) rfl ht0 ?_
      refine y0 3 (some 55) (.int .i64 (i:Nat)) rfl ht0 ?_
      refine y1 4 (some 56) (.pointer (some ⟨b2,off2+i * 20,none⟩)) rfl (fun X hX=>Dh 49 20 i Mq Ms rfl rfl hIA rfl hiis) ht0 ?_
      refine y0 5 (some 57) (.pointer (some ⟨b2,off2+i * 20+2,none⟩)) rfl ht0 ?_
      refine y1 6 (some 58) (.agg q.d.cs.toArray) rfl (fun X hX=>Br (vs:=q.d.cs) 43 18 rwD szD rfl rfl (Mx (a:=q.k.cs) (c:=q.d.cs) (Gu hrg2 hb2 hX.hq.fr hout2)) rfl) ht0 ?_
      refine wpAnyH_ready (rs:= [7]) (by kernel_rfl) (by simp) (Jm 7 (some 59) rfl (by kernel_rfl) (by kernel_rfl) (by kernel_rfl) (hsd _ (Aa HTB _ ht0.hq.fr)) ?_ AllReadyH.nil)
      rintro e Y7 ⟨rfl,hY7⟩
      have ht7:=ht0.on hY7
      refine⟨_,rfl,ht7, ?_⟩
      simp only[nn]
      refine y0 8 (some 60) (.bool true) rfl ht7 ?_
      refine dn ?_
      try simp only[nn]
      replace LL:=Ab ht7
      replace SR:=Ab ((Aa SR).drew.on hY7)
      clear ht0 ht7 hY7 hS0 hIA hb2 hrg2 hiis hsd hout2 HH
      have HNX:=Ab ((Aa HNO) (by simp))
      clear HYES HNO
      go_wp2_with (first|go_skip|((with_reducible show wpList ..);first|(refine rd rfl (Dh 49 20 i Mq Ms rfl rfl (Aa HIA) rfl (Aa HIS)) ?_)|(refine rd rfl (Br (vs:=q.cs) 80 20 rwP szP rfl rfl (Aa HQ2 _ (Aa LL).hq.fr) rfl) ?_)))
      have hpu:=Zcb q b0 t o _ lw _ (Aa LL).ti (Aa HXL) (Nat.le_trans (Aa H0) (Aa LL).hq.fr.size) (Aa HSQ)
      rw[Zao] at hpu
      refine hpu.mono ?_
      clear hpu
      rintro e Y4 ⟨lv4,rfl,hY4⟩
      replace SR:=Ab ((Aa SR).tell hY4)
      replace LL:=Ab ((Aa LL).tell hY4)
      clear hY4
      have LN:Hid (TS X Y4 (t::lv.ownBlock.toList) b0 t o (xs++(gl++chT o is st (i+1))) lv4 []):=Ab (by rw[Aa HNX];have:=TS.left (L:= []) (Aa LL);rw[←hys] at this;simpa using this)
      replace SR:=Ab (Aa SR).drop
      clear LL HNX
      go_wp2
      go_roundg (st.length - (i+1))
      case measure=>have:=Aa HLT;omega
      case rel=>exact⟨i+1,by go_num,by have:=Aa HLT;omega,by omega,lv4,LN,SR⟩
     ·go_wp2_with (first|go_skip|((with_reducible show wpList ..);first|(refine rd rfl (Dh 49 20 i Mq Ms rfl rfl (Aa HA) rfl (Aa HLT)) ?_)|(refine rd rfl (Br (vs:=p.cs) 80 20 rwP szP rfl rfl (Aa HRG) rfl) ?_)|((refine alT 80 (Es.cs) rfl (fun w=>by kernel_rfl) (Aa LL) ?_);intro X11 B11 hE11 L11 hb11;have hB11:=Ab (Nat.le_trans (Aa LL).hq.fr.size (Nat.le_of_eq hE11.symm));replace SR:=Ab ((Aa SR).add hb11 hE11);replace LL:=Ab L11;clear L11 hb11 hE11;simp only[nn])|((refine stT (vs:=p.cs) 0 80 rfl rfl rfl rfl (Jf p) szP (Aa LL) rfl (by simp[Bt,PR.cs,SH.cs,VV.cs,KK.cs,DD.cs,CO.cs,DL.cs,Es,Dr,zeroD,Aq]) (Or.inr (Aa hB11)) ?_);intro X12 L12 hf12;replace SR:=Ab ((Aa SR).far hf12 (by simp));replace LL:=Ab L12;clear L12 hf12;simp only[nn])))
      obtain⟨hIA,hb2,hrg2,hiis,hout2,hsd⟩:=Aa HH
      have ht0:TS X _ (t::lv.ownBlock.toList) b0 t o ys lw [(B11,p.cs)]:=(Aa LL).drew
      refine wp_region_held_drew (P:=prog) (S:=fun Z=>TS X Z (t::lv.ownBlock.toList) b0 t o ys lw [(B11,p.cs)]) (by kernel_rfl) ht0 (fun hS0=> ?_)
      refine y0 0 (some 52) (.pointer (some ⟨B11,2,none⟩)) rfl ht0 ?_
      refine y1 1 (some 53) (.agg p.d.cs.toArray) rfl (fun X hX=>Af (vs:=p.d.cs) 43 18 rwD szD rfl rfl (hX.hq.get 0 rfl) rfl rfl) ht0 ?_
      refine y0 2 (some 54) (.slice IA is.length ic) rfl ht0 ?_
      refine y0 3 (some 55) (.int .i64 (i:Nat)) rfl ht0 ?_
      refine y1 4 (some 56) (.pointer (some ⟨b2,off2+i * 20,none⟩)) rfl (fun X hX=>Dh 49 20 i Mq Ms rfl rfl hIA rfl hiis) ht0 ?_
      refine y0 5 (some 57) (.pointer (some ⟨b2,off2+i * 20+2,none⟩)) rfl ht0 ?_
      refine y1 6 (some 58) (.agg q.d.cs.toArray) rfl (fun X hX=>Br (vs:=q.d.cs) 43 18 rwD szD rfl rfl (Mx (a:=q.k.cs) (c:=q.d.cs) (Gu hrg2 hb2 hX.hq.fr hout2)) rfl) ht0 ?_
      refine wpAnyH_ready (rs:= [7]) (by kernel_rfl) (by simp) (Jm 7 (some 59) rfl (by kernel_rfl) (by kernel_rfl) (by kernel_rfl) (hsd _ (Aa HTB _ ht0.hq.fr)) ?_ AllReadyH.nil)
      rintro e Y7 ⟨rfl,hY7⟩
      have ht7:=ht0.on hY7
      refine⟨_,rfl,ht7, ?_⟩
      simp only[nn]
      refine y0 8 (some 60) (.bool false) rfl ht7 ?_
      refine dn ?_
      try simp only[nn]
      replace LL:=Ab ht7
      replace SR:=Ab ((Aa SR).drew.on hY7)
      clear ht0 ht7 hY7 hS0 hIA hb2 hrg2 hiis hsd hout2 HH
      have HNX:=Ab ((Aa HYES) (by simp))
      clear HYES HNO
      go_wp2
      have LN:Hid (TS X _ (t::lv.ownBlock.toList) b0 t o (xs++(gl++chT o is st (i+1))) lw []):=Ab (by rw[Aa HNX,hys];exact TS.left (L:= []) (Aa LL))
      replace SR:=Ab (Aa SR).drop
      go_roundg (st.length - (i+1))
      case measure=>have:=Aa HLT;omega
      case rel=>exact⟨i+1,by go_num,by have:=Aa HLT;omega,by omega,lw,LN,SR⟩
    ·obtain rfl:i=st.length:=by omega
     obtain⟨A3,hA3,hsl⟩:=sliceU IA is.length ic st.length (Aa HL1) (Aa HIC) (fun hn=>by obtain⟨q,hq⟩: ∃q,is[0]? =some q:=⟨_,List.getElem?_eq_getElem (by omega)⟩;obtain⟨_,b,off,h,_⟩:=(Aa HI) 0 q hq;exact⟨b,off,h⟩) wr
     have HR3:=Ab (Zd6 (Aa HI) hA3)
     have HO3:=Ab (out_drop (Aa HNI) (Aa HI) hA3)
     have HS3:Hid (∀p∈is.drop st.length,SP p):=Ab (fun p hp=>(Aa HSI) p (List.mem_of_mem_drop hp))
     have hdl:is.length - st.length=(is.drop st.length).length:=by simp
     rw[hdl] at hsl
     have HSL:=Ab hsl
     have hcl:=Zv o is st st.length
     generalize chT o is st st.length=cl at *
     have HDL:Hid (xs.length+gl.length+cl.length+(is.drop st.length).length<=100000):=Ab (by have:=Aa HX;have:=Aa HL3;have:=Aa HL2;have:=Aa HL1;rw[←hdl];omega)
     generalize is.drop st.length=dr at *
     clear hlt hil hgm hA3 hdl hsl hcl
     go_wp2_with (first|go_skip|((with_reducible show wpList ..);first|(refine rd rfl (Bp 49 80 underlying49 rfl rfl) ?_)|(refine rd rfl (Zgn rfl rfl rfl (Aa HSL)) ?_)))
     obtain⟨w3,hw3⟩: ∃w3,w3=wr:=⟨_,rfl⟩
     subst hw3
     go_loopg [73] dr.length (fun gm s73 wr=> ∃i:Nat,s73= .int .i64 (i:Nat)/\i<=dr.length/\dr.length - i<=gm/\ ∃lw:Value,Hid (TS X wr (t::lv.ownBlock.toList) b0 t o (xs++(gl++(cl++(dr.take i).map (Ol o)))) lw []))
     case atStart=>exact⟨0,rfl,by omega,by omega,lw,Ab (by simpa using Aa LL)⟩
     case round=>
      clear LL SR
      obtain⟨i,rfl,hil,hgm,lw,LL⟩:=hrel
      by_cases hlt:i<dr.length
      ·have dlt:decide ((i:Int)<(dr.length:Int))=true:=decide_eq_true (by omega)
       have hw1:IntKind.i64.wrap ((i:Int)+1)=(i:Int)+1:=by have:=Aa HDL;rw[IntKind.wrap_i64];omega
       obtain⟨p,hp⟩: ∃p,dr[i]? =some p:=⟨_,List.getElem?_eq_getElem hlt⟩
       obtain⟨_,b,off,hA,hb,hrg⟩:=(Aa HR3) i p hp
       have HA:=Ab hA
       have HA2:Hid (∀Z,Fr X Z (t::lv.ownBlock.toList)->Z.rangeAt b (off+i * 20) p.cs):=Ab (fun Z hZ=>Gu hrg hb hZ ((Aa HO3) i p hp b off hA))
       have HLT:=Ab hlt
       have HSP:=Ab ((Aa HS3) p (List.mem_of_getElem? hp))
       have HTM:=Ab (ZcU o hp)
       have HXL:Hid ((xs++(gl++(cl++(dr.take i).map (Ol o)))).length<=100000):=Ab (by have:=Aa HDL;simp;omega)
       clear hA hb hrg hlt hil hp
       go_wp2_with (first|go_skip|((with_reducible show wpList ..);first|(refine rd rfl (Dh 49 20 i Mq Ms rfl rfl (Aa HA) rfl (Aa HLT)) ?_)|(refine rd rfl (Br (vs:=p.cs) 80 20 rwP szP rfl rfl (Aa HA2 _ (Aa LL).hq.fr) rfl) ?_)|((refine alT 80 (Es.cs) rfl (fun w=>by kernel_rfl) (Aa LL) ?_);intro X13 B13 hE13 L13 hb13;have hB13:=Ab (Nat.le_trans (Aa LL).hq.fr.size (Nat.le_of_eq hE13.symm));replace LL:=Ab L13;clear L13 hb13 hE13;simp only[nn])|((refine stT (vs:=p.cs) 0 80 rfl rfl rfl rfl (Jf p) szP (Aa LL) rfl (by simp[Bt,PR.cs,SH.cs,VV.cs,KK.cs,DD.cs,CO.cs,DL.cs,Es,Dr,zeroD,Aq]) (Or.inr (Aa hB13)) ?_);intro X14 L14 hf14;replace LL:=Ab L14;clear L14 hf14;simp only[nn])|(refine rd rfl (Af (vs:=p.cs) 80 20 rwP szP rfl rfl ((Aa LL).hq.get 0 rfl) rfl rfl) ?_)))
       have hpu:=Zcb p b0 t o _ lw _ (Aa LL).ti (Aa HXL) (Nat.le_trans (Aa H0) (Aa LL).hq.fr.size) (Aa HSP)
       rw[Zao] at hpu
       refine hpu.mono ?_
       clear hpu
       rintro e Y4 ⟨lv4,rfl,hY4⟩
       replace LL:=Ab ((Aa LL).tell hY4)
       clear hY4
       have LN:Hid (TS X Y4 (t::lv.ownBlock.toList) b0 t o (xs++(gl++(cl++(dr.take (i+1)).map (Ol o)))) lv4 []):=Ab (by rw[Aa HTM];have:=TS.left (L:= []) (Aa LL);simpa using this)
       clear LL
       go_wp2_with (go_skip)
       go_roundg (dr.length - (i+1))
       case measure=>have:=Aa HLT;omega
       case rel=>exact⟨i+1,by go_num,by have:=Aa HLT;omega,by omega,lv4,LN⟩
      ·obtain rfl:i=dr.length:=by omega
       clear hlt hil
       have LF:Hid (TP X b0 t o xs (gl++(cl++dr.map (Ol o))) lv lw wr):=Ab (by have:=(Aa LL).post;rw[List.take_length] at this;exact this)
       clear LL
       go_wp2
       go_end0
       exact⟨_,rfl,by rw[Aa HPL];exact Aa LF⟩
theorem ReadsP9.ts {X Z:World} {A:Option Addr} {l:List PR} {E:List Nat} {b0 t:Nat} {o:Int} {ys:List DL} {lw:Value} {L:List (Nat×List Value)} (h:ReadsP9 X A l) (ho:Out A l E) (hS:TS X Z E b0 t o ys lw L):ReadsP9 Z A l/\Out A l (t::lw.ownBlock.toList):=by
 refine⟨fun j p hp=> ?_,fun j p hp b off hb he=> ?_⟩
 ·obtain⟨h1,b,off,h2,h3,h4⟩:=h j p hp
  exact⟨h1,b,off,h2,Nat.lt_of_lt_of_le h3 hS.hq.fr.size,Gu h4 h3 hS.hq.fr (ho j p hp b off h2)⟩
 ·obtain⟨_,b2,off2,h2,h3,_⟩:=h j p hp
  rw[hb] at h2
  obtain⟨rfl,rfl⟩:b=b2/\off=off2:=by simpa using h2
  have hn:=ho j p hp b off hb
  rcases List.mem_cons.1 he with rfl|he
  ·rcases hS.ct with e|e
   ·exact hn e
   ·omega
  ·rcases hS.cl b (by simpa using he) with e|e
   ·exact hn e
   ·omega
theorem Qe {o:Oper} {a:Act} {w:World} {x y:Operand} {n m r:Bool} (ho:o.op= .binOp .neq 4 x y 4) (hx:a.eval x= .bool n) (hc:a.eval y= .bool m) (h:(n !=m)=r):(execOp a.eval o).run prog w= .ok (.value (.bool r)) w:=by
 have h2:(!(n==m))=r:=h
 unfold execOp
 simp only[ho,hx,hc]
 simp[go_sem,eqGuard,h2]
def Zgv (o:Int) (b a:SH):List DL:=cond (a.c !=b.c) [Jo o a] []++(cond (eqB b.p a.p) [] [Jk o a]++(cond (a.x !=b.x) [Qd o a] []++Lk o b.ps a.ps))
theorem Km {X Z Z':World} {E:List Nat} {b0 t:Nat} {o:Int} {ys:List DL} {lw:Value} {L:List (Nat×List Value)} (hS:TS X Z E b0 t o ys lw L) (h:Fr Z Z' (t::lw.ownBlock.toList)):Fr X Z' E:=hS.hq.fr.trans h (fun b hb=>by
 rcases List.mem_cons.1 hb with rfl|hb
 ·exact hS.ct
 ·exact hS.cl b (by simpa using hb))
theorem ZdG (b a:SH) (BA AA:Option Addr) (bc ac:Nat) (b0 t:Nat) (o:Int) (xs:List DL) (lv:Value) (X:World) (hT:TI b0 X t o xs lv) (hW:ReadsP9 X BA b.ps) (hI:ReadsP9 X AA a.ps) (hNW:Out BA b.ps (t::lv.ownBlock.toList)) (hNI:Out AA a.ps (t::lv.ownBlock.toList)) (hac:a.ps.length<=ac) (hx:xs.length+3+b.ps.length+2 * a.ps.length<=100000) (h0:b0<=X.heap.size) (hsb:SS b) (hsa:SS a) (hTb: ∀Z,Fr X Z (t::lv.ownBlock.toList)->Lib.Utf8Tabs 1 2 Z):Calls prog 63 #[.pointer (some ⟨t,0,none⟩),b.agg BA bc,a.agg AA ac] X (ZbX X b0 t o xs (Zgv o b a) lv):=by
 have LL:=Ab (TS.start hT)
 have HX:=Ab hx
 have H0:=Ab h0
 have HW:=Ab hW
 have HI:=Ab hI
 have HNW:=Ab hNW
 have HNI:=Ab hNI
 have HAC:=Ab hac
 have HSB:=Ab hsb
 have HSA:=Ab hsa
 have HTB:=Ab hTb
 have HEQ:=Ab (fun w hT=>Jw b.p a.p w hT)
 have HNV:=Ab (fun w=>Ki a.p w hsa.1)
 simp only[Rq] at HEQ HNV
 clear hx h0 hW hI hNW hNI hac hsb hsa hTb hT
 unfold Zgv
 have H6a:Hid ((a.cs AA ac)[6]? =some (.bool a.x)):=Ab rfl
 have H6b:Hid ((b.cs BA bc)[6]? =some (.bool b.x)):=Ab rfl
 unfold SH.agg
 generalize h1:(a.c !=b.c)=e1 at *
 generalize eqB b.p a.p=e2 at *
 generalize h3:(a.x !=b.x)=e3 at *
 generalize hax:a.x=ax at *
 generalize b.x=bx at *
 cases e1
 ·go_enter func63,ntmps63
  go_wp2_with (first|go_skip|((with_reducible show wpList ..);first|((refine bxT 85 (b.cs BA bc) rfl rfl rfl (Aa LL) ?_);intro X4 B4 hE4 L4 hb4;replace LL:=Ab L4;clear L4 hb4 hE4;simp only[nn])|((refine bxT 85 (a.cs AA ac) rfl rfl rfl (Aa LL) ?_);intro X5 B5 hE5 L5 hb5;replace LL:=Ab L5;clear L5 hb5 hE5;simp only[nn])|(refine rd rfl (Ad 3 isAgg3 rfl rfl ((Aa LL).hq.get 1 rfl) rfl) ?_)|(refine rd rfl (Ad 3 isAgg3 rfl rfl ((Aa LL).hq.get 0 rfl) rfl) ?_)|(refine rd rfl (Af (vs:=b.p.cs) 40 5 Nh szV rfl rfl ((Aa LL).hq.get 0 rfl) rfl rfl) ?_)|(refine rd rfl (Af (vs:=a.p.cs) 40 5 Nh szV rfl rfl ((Aa LL).hq.get 1 rfl) rfl rfl) ?_)|(refine rd rfl (Na rfl rfl rfl h1) ?_)))
  refine(Aa HEQ _ (Aa HTB _ (Aa LL).hq.fr)).mono ?_
  rintro e Y6 ⟨rfl,hY6⟩
  replace LL:=Ab ((Aa LL).on hY6)
  clear hY6
  cases e2
  ·go_wp2_with (first|go_skip|((with_reducible show wpList ..);(refine rd rfl (Af (vs:=a.p.cs) 40 5 Nh szV rfl rfl ((Aa LL).hq.get 1 rfl) rfl rfl) ?_)))
   refine(Aa HNV _).mono ?_
   rintro e Y8 ⟨rfl,hY8⟩
   replace LL:=Ab ((Aa LL).on hY8)
   clear hY8
   go_wp2_with (first|go_skip|((with_reducible show wpList ..);(refine rd rfl (ZbK a.p rfl rfl rfl) ?_)))
   refine(Jv ⟨0,3,0,false,a.p,Gb,zeroD⟩ b0 t o _ lv _ (Aa LL).ti (by have:=Aa HX;simp;omega) (Nat.le_trans (Aa H0) (Aa LL).hq.fr.size)).mono ?_
   rintro e Y6 ⟨lv6,rfl,hY6⟩
   replace LL:=Ab ((Aa LL).tell hY6)
   clear hY6
   cases e3
   ·go_wp2_with (first|go_skip|((with_reducible show wpList ..);first|(refine rd rfl (Ad 4 isAgg4 rfl rfl ((Aa LL).hq.get 1 rfl) (Aa H6a)) ?_)|(refine rd rfl (Ad 4 isAgg4 rfl rfl ((Aa LL).hq.get 0 rfl) (Aa H6b)) ?_)|(refine rd rfl (Qe rfl rfl rfl h3) ?_)|(refine rd rfl (Ad 49 isAgg49 rfl rfl ((Aa LL).hq.get 0 rfl) rfl) ?_)|(refine rd rfl (Ad 49 isAgg49 rfl rfl ((Aa LL).hq.get 1 rfl) rfl) ?_)))
    have hrW:=(Aa HW).ts (Aa HNW) (Aa LL)
    have hrI:=(Aa HI).ts (Aa HNI) (Aa LL)
    refine(Kc b.ps a.ps BA AA bc ac b0 t o _ lv6 _ (Aa LL).ti hrW.1 hrI.1 hrW.2 hrI.2 (Aa HAC) (by have:=Aa HX;simp;omega) (Nat.le_trans (Aa H0) (Aa LL).hq.fr.size) (Aa HSB).2 (Aa HSA).2 (fun Z hZ=>Aa HTB Z (Km (Aa LL) hZ))).mono ?_
    clear hrW hrI
    rintro e Y9 ⟨lv9,rfl,hY9⟩
    replace LL:=Ab ((Aa LL).tell hY9)
    clear hY9
    have LF:Hid (TP X b0 t o xs (cond false [Jo o a] []++(cond false [] [Jk o a]++(cond false [Qd o a] []++Lk o b.ps a.ps))) lv lv9 Y9):=Ab (by refine TS.post (L:= [(B4,b.cs BA bc),(B5,a.cs AA ac)]) ?_;simpa [Jo,Jk,Qd] using Aa LL)
    go_wp2
    go_end0
    exact⟨_,rfl,Aa LF⟩
   ·go_wp2_with (first|go_skip|((with_reducible show wpList ..);first|(refine rd rfl (Ad 4 isAgg4 rfl rfl ((Aa LL).hq.get 1 rfl) (Aa H6a)) ?_)|(refine rd rfl (Ad 4 isAgg4 rfl rfl ((Aa LL).hq.get 0 rfl) (Aa H6b)) ?_)|(refine rd rfl (Qe rfl rfl rfl h3) ?_)|(refine rd rfl (Zt ax rfl rfl rfl) ?_)))
    refine(Jv ⟨0,4,0,ax,Aq,Gb,zeroD⟩ b0 t o _ lv6 _ (Aa LL).ti (by have:=Aa HX;simp;omega) (Nat.le_trans (Aa H0) (Aa LL).hq.fr.size)).mono ?_
    rintro e Y7 ⟨lv7,rfl,hY7⟩
    replace LL:=Ab ((Aa LL).tell hY7)
    clear hY7
    go_wp2_with (first|go_skip|((with_reducible show wpList ..);first|(refine rd rfl (Ad 49 isAgg49 rfl rfl ((Aa LL).hq.get 0 rfl) rfl) ?_)|(refine rd rfl (Ad 49 isAgg49 rfl rfl ((Aa LL).hq.get 1 rfl) rfl) ?_)))
    have hrW:=(Aa HW).ts (Aa HNW) (Aa LL)
    have hrI:=(Aa HI).ts (Aa HNI) (Aa LL)
    refine(Kc b.ps a.ps BA AA bc ac b0 t o _ lv7 _ (Aa LL).ti hrW.1 hrI.1 hrW.2 hrI.2 (Aa HAC) (by have:=Aa HX;simp;omega) (Nat.le_trans (Aa H0) (Aa LL).hq.fr.size) (Aa HSB).2 (Aa HSA).2 (fun Z hZ=>Aa HTB Z (Km (Aa LL) hZ))).mono ?_
    clear hrW hrI
    rintro e Y9 ⟨lv9,rfl,hY9⟩
    replace LL:=Ab ((Aa LL).tell hY9)
    clear hY9
    have LF:Hid (TP X b0 t o xs (cond false [Jo o a] []++(cond false [] [Jk o a]++(cond true [Qd o a] []++Lk o b.ps a.ps))) lv lv9 Y9):=Ab (by refine TS.post (L:= [(B4,b.cs BA bc),(B5,a.cs AA ac)]) ?_;simpa [Jo,Jk,Qd,hax] using Aa LL)
    go_wp2
    go_end0
    exact⟨_,rfl,Aa LF⟩
  ·cases e3
   ·go_wp2_with (first|go_skip|((with_reducible show wpList ..);first|(refine rd rfl (Ad 4 isAgg4 rfl rfl ((Aa LL).hq.get 1 rfl) (Aa H6a)) ?_)|(refine rd rfl (Ad 4 isAgg4 rfl rfl ((Aa LL).hq.get 0 rfl) (Aa H6b)) ?_)|(refine rd rfl (Qe rfl rfl rfl h3) ?_)|(refine rd rfl (Ad 49 isAgg49 rfl rfl ((Aa LL).hq.get 0 rfl) rfl) ?_)|(refine rd rfl (Ad 49 isAgg49 rfl rfl ((Aa LL).hq.get 1 rfl) rfl) ?_)))
    have hrW:=(Aa HW).ts (Aa HNW) (Aa LL)
    have hrI:=(Aa HI).ts (Aa HNI) (Aa LL)
    refine(Kc b.ps a.ps BA AA bc ac b0 t o _ lv _ (Aa LL).ti hrW.1 hrI.1 hrW.2 hrI.2 (Aa HAC) (by have:=Aa HX;simp;omega) (Nat.le_trans (Aa H0) (Aa LL).hq.fr.size) (Aa HSB).2 (Aa HSA).2 (fun Z hZ=>Aa HTB Z (Km (Aa LL) hZ))).mono ?_
    clear hrW hrI
    rintro e Y9 ⟨lv9,rfl,hY9⟩
    replace LL:=Ab ((Aa LL).tell hY9)
    clear hY9
    have LF:Hid (TP X b0 t o xs (cond false [Jo o a] []++(cond true [] [Jk o a]++(cond false [Qd o a] []++Lk o b.ps a.ps))) lv lv9 Y9):=Ab (by refine TS.post (L:= [(B4,b.cs BA bc),(B5,a.cs AA ac)]) ?_;simpa [Jo,Jk,Qd] using Aa LL)
    go_wp2
    go_end0
    exact⟨_,rfl,Aa LF⟩
   ·go_wp2_with (first|go_skip|((with_reducible show wpList ..);first|(refine rd rfl (Ad 4 isAgg4 rfl rfl ((Aa LL).hq.get 1 rfl) (Aa H6a)) ?_)|(refine rd rfl (Ad 4 isAgg4 rfl rfl ((Aa LL).hq.get 0 rfl) (Aa H6b)) ?_)|(refine rd rfl (Qe rfl rfl rfl h3) ?_)|(refine rd rfl (Zt ax rfl rfl rfl) ?_)))
    refine(Jv ⟨0,4,0,ax,Aq,Gb,zeroD⟩ b0 t o _ lv _ (Aa LL).ti (by have:=Aa HX;simp;omega) (Nat.le_trans (Aa H0) (Aa LL).hq.fr.size)).mono ?_
    rintro e Y7 ⟨lv7,rfl,hY7⟩
    replace LL:=Ab ((Aa LL).tell hY7)
    clear hY7
    go_wp2_with (first|go_skip|((with_reducible show wpList ..);first|(refine rd rfl (Ad 49 isAgg49 rfl rfl ((Aa LL).hq.get 0 rfl) rfl) ?_)|(refine rd rfl (Ad 49 isAgg49 rfl rfl ((Aa LL).hq.get 1 rfl) rfl) ?_)))
    have hrW:=(Aa HW).ts (Aa HNW) (Aa LL)
    have hrI:=(Aa HI).ts (Aa HNI) (Aa LL)
    refine(Kc b.ps a.ps BA AA bc ac b0 t o _ lv7 _ (Aa LL).ti hrW.1 hrI.1 hrW.2 hrI.2 (Aa HAC) (by have:=Aa HX;simp;omega) (Nat.le_trans (Aa H0) (Aa LL).hq.fr.size) (Aa HSB).2 (Aa HSA).2 (fun Z hZ=>Aa HTB Z (Km (Aa LL) hZ))).mono ?_
    clear hrW hrI
    rintro e Y9 ⟨lv9,rfl,hY9⟩
    replace LL:=Ab ((Aa LL).tell hY9)
    clear hY9
    have LF:Hid (TP X b0 t o xs (cond false [Jo o a] []++(cond true [] [Jk o a]++(cond true [Qd o a] []++Lk o b.ps a.ps))) lv lv9 Y9):=Ab (by refine TS.post (L:= [(B4,b.cs BA bc),(B5,a.cs AA ac)]) ?_;simpa [Jo,Jk,Qd,hax] using Aa LL)
    go_wp2
    go_end0
    exact⟨_,rfl,Aa LF⟩
 ·go_enter func63,ntmps63
  go_wp2_with (first|go_skip|((with_reducible show wpList ..);first|((refine bxT 85 (b.cs BA bc) rfl rfl rfl (Aa LL) ?_);intro X4 B4 hE4 L4 hb4;replace LL:=Ab L4;clear L4 hb4 hE4;simp only[nn])|((refine bxT 85 (a.cs AA ac) rfl rfl rfl (Aa LL) ?_);intro X5 B5 hE5 L5 hb5;replace LL:=Ab L5;clear L5 hb5 hE5;simp only[nn])|(refine rd rfl (Ad 3 isAgg3 rfl rfl ((Aa LL).hq.get 1 rfl) rfl) ?_)|(refine rd rfl (Ad 3 isAgg3 rfl rfl ((Aa LL).hq.get 0 rfl) rfl) ?_)|(refine rd rfl (Na rfl rfl rfl h1) ?_)|(refine rd rfl (Zgp a.c rfl rfl rfl) ?_)))
  refine(Jv ⟨0,2,a.c,false,Aq,Gb,zeroD⟩ b0 t o _ lv _ (Aa LL).ti (by have:=Aa HX;simp;omega) (Nat.le_trans (Aa H0) (Aa LL).hq.fr.size)).mono ?_
  rintro e Y5 ⟨lv5,rfl,hY5⟩
  replace LL:=Ab ((Aa LL).tell hY5)
  clear hY5
  go_wp2_with (first|go_skip|((with_reducible show wpList ..);first|(refine rd rfl (Af (vs:=b.p.cs) 40 5 Nh szV rfl rfl ((Aa LL).hq.get 0 rfl) rfl rfl) ?_)|(refine rd rfl (Af (vs:=a.p.cs) 40 5 Nh szV rfl rfl ((Aa LL).hq.get 1 rfl) rfl rfl) ?_)))
  refine(Aa HEQ _ (Aa HTB _ (Aa LL).hq.fr)).mono ?_
  rintro e Y6 ⟨rfl,hY6⟩
  replace LL:=Ab ((Aa LL).on hY6)
  clear hY6
  cases e2
  ·go_wp2_with (first|go_skip|((with_reducible show wpList ..);(refine rd rfl (Af (vs:=a.p.cs) 40 5 Nh szV rfl rfl ((Aa LL).hq.get 1 rfl) rfl rfl) ?_)))
   refine(Aa HNV _).mono ?_
   rintro e Y8 ⟨rfl,hY8⟩
   replace LL:=Ab ((Aa LL).on hY8)
   clear hY8
   go_wp2_with (first|go_skip|((with_reducible show wpList ..);(refine rd rfl (ZbK a.p rfl rfl rfl) ?_)))
   refine(Jv ⟨0,3,0,false,a.p,Gb,zeroD⟩ b0 t o _ lv5 _ (Aa LL).ti (by have:=Aa HX;simp;omega) (Nat.le_trans (Aa H0) (Aa LL).hq.fr.size)).mono ?_
   rintro e Y6 ⟨lv6,rfl,hY6⟩
   replace LL:=Ab ((Aa LL).tell hY6)
   clear hY6
   cases e3
   ·go_wp2_with (first|go_skip|((with_reducible show wpList ..);first|(refine rd rfl (Ad 4 isAgg4 rfl rfl ((Aa LL).hq.get 1 rfl) (Aa H6a)) ?_)|(refine rd rfl (Ad 4 isAgg4 rfl rfl ((Aa LL).hq.get 0 rfl) (Aa H6b)) ?_)|(refine rd rfl (Qe rfl rfl rfl h3) ?_)|(refine rd rfl (Ad 49 isAgg49 rfl rfl ((Aa LL).hq.get 0 rfl) rfl) ?_)|(refine rd rfl (Ad 49 isAgg49 rfl rfl ((Aa LL).hq.get 1 rfl) rfl) ?_)))
    have hrW:=(Aa HW).ts (Aa HNW) (Aa LL)
    have hrI:=(Aa HI).ts (Aa HNI) (Aa LL)
    refine(Kc b.ps a.ps BA AA bc ac b0 t o _ lv6 _ (Aa LL).ti hrW.1 hrI.1 hrW.2 hrI.2 (Aa HAC) (by have:=Aa HX;simp;omega) (Nat.le_trans (Aa H0) (Aa LL).hq.fr.size) (Aa HSB).2 (Aa HSA).2 (fun Z hZ=>Aa HTB Z (Km (Aa LL) hZ))).mono ?_
    clear hrW hrI
    rintro e Y9 ⟨lv9,rfl,hY9⟩
    replace LL:=Ab ((Aa LL).tell hY9)
    clear hY9
    have LF:Hid (TP X b0 t o xs (cond true [Jo o a] []++(cond false [] [Jk o a]++(cond false [Qd o a] []++Lk o b.ps a.ps))) lv lv9 Y9):=Ab (by refine TS.post (L:= [(B4,b.cs BA bc),(B5,a.cs AA ac)]) ?_;simpa [Jo,Jk,Qd] using Aa LL)
    go_wp2
    go_end0
    exact⟨_,rfl,Aa LF⟩
   ·go_wp2_with (first|go_skip|((with_reducible show wpList ..);first|(refine rd rfl (Ad 4 isAgg4 rfl rfl ((Aa LL).hq.get 1 rfl) (Aa H6a)) ?_)|(refine rd rfl (Ad 4 isAgg4 rfl rfl ((Aa LL).hq.get 0 rfl) (Aa H6b)) ?_)|(refine rd rfl (Qe rfl rfl rfl h3) ?_)|(refine rd rfl (Zt ax rfl rfl rfl) ?_)))
    refine(Jv ⟨0,4,0,ax,Aq,Gb,zeroD⟩ b0 t o _ lv6 _ (Aa LL).ti (by have:=Aa HX;simp;omega) (Nat.le_trans (Aa H0) (Aa LL).hq.fr.size)).mono ?_
    rintro e Y7 ⟨lv7,rfl,hY7⟩
    replace LL:=Ab ((Aa LL).tell hY7)
    clear hY7
    go_wp2_with (first|go_skip|((with_reducible show wpList ..);first|(refine rd rfl (Ad 49 isAgg49 rfl rfl ((Aa LL).hq.get 0 rfl) rfl) ?_)|(refine rd rfl (Ad 49 isAgg49 rfl rfl ((Aa LL).hq.get 1 rfl) rfl) ?_)))
    have hrW:=(Aa HW).ts (Aa HNW) (Aa LL)
    have hrI:=(Aa HI).ts (Aa HNI) (Aa LL)
    refine(Kc b.ps a.ps BA AA bc ac b0 t o _ lv7 _ (Aa LL).ti hrW.1 hrI.1 hrW.2 hrI.2 (Aa HAC) (by have:=Aa HX;simp;omega) (Nat.le_trans (Aa H0) (Aa LL).hq.fr.size) (Aa HSB).2 (Aa HSA).2 (fun Z hZ=>Aa HTB Z (Km (Aa LL) hZ))).mono ?_
    clear hrW hrI
    rintro e Y9 ⟨lv9,rfl,hY9⟩
    replace LL:=Ab ((Aa LL).tell hY9)
    clear hY9
    have LF:Hid (TP X b0 t o xs (cond true [Jo o a] []++(cond false [] [Jk o a]++(cond true [Qd o a] []++Lk o b.ps a.ps))) lv lv9 Y9):=Ab (by refine TS.post (L:= [(B4,b.cs BA bc),(B5,a.cs AA ac)]) ?_;simpa [Jo,Jk,Qd,hax] using Aa LL)
    go_wp2
    go_end0
    exact⟨_,rfl,Aa LF⟩
  ·cases e3
   ·go_wp2_with (first|go_skip|((with_reducible show wpList ..);first|(refine rd rfl (Ad 4 isAgg4 rfl rfl ((Aa LL).hq.get 1 rfl) (Aa H6a)) ?_)|(refine rd rfl (Ad 4 isAgg4 rfl rfl ((Aa LL).hq.get 0 rfl) (Aa H6b)) ?_)|(refine rd rfl (Qe rfl rfl rfl h3) ?_)|(refine rd rfl (Ad 49 isAgg49 rfl rfl ((Aa LL).hq.get 0 rfl) rfl) ?_)|(refine rd rfl (Ad 49 isAgg49 rfl rfl ((Aa LL).hq.get 1 rfl) rfl) ?_)))
    have hrW:=(Aa HW).ts (Aa HNW) (Aa LL)
    have hrI:=(Aa HI).ts (Aa HNI) (Aa LL)
    refine(Kc b.ps a.ps BA AA bc ac b0 t o _ lv5 _ (Aa LL).ti hrW.1 hrI.1 hrW.2 hrI.2 (Aa HAC) (by have:=Aa HX;simp;omega) (Nat.le_trans (Aa H0) (Aa LL).hq.fr.size) (Aa HSB).2 (Aa HSA).2 (fun Z hZ=>Aa HTB Z (Km (Aa LL) hZ))).mono ?_
    clear hrW hrI
    rintro e Y9 ⟨lv9,rfl,hY9⟩
    replace LL:=Ab ((Aa LL).tell hY9)
    clear hY9
    have LF:Hid (TP X b0 t o xs (cond true [Jo o a] []++(cond true [] [Jk o a]++(cond false [Qd o a] []++Lk o b.ps a.ps))) lv lv9 Y9):=Ab (by refine TS.post (L:= [(B4,b.cs BA bc),(B5,a.cs AA ac)]) ?_;simpa [Jo,Jk,Qd] using Aa LL)
    go_wp2
    go_end0
    exact⟨_,rfl,Aa LF⟩
   ·go_wp2_with (first|go_skip|((with_reducible show wpList ..);first|(refine rd rfl (Ad 4 isAgg4 rfl rfl ((Aa LL).hq.get 1 rfl) (Aa H6a)) ?_)|(refine rd rfl (Ad 4 isAgg4 rfl rfl ((Aa LL).hq.get 0 rfl) (Aa H6b)) ?_)|(refine rd rfl (Qe rfl rfl rfl h3) ?_)|(refine rd rfl (Zt ax rfl rfl rfl) ?_)))
    refine(Jv ⟨0,4,0,ax,Aq,Gb,zeroD⟩ b0 t o _ lv5 _ (Aa LL).ti (by have:=Aa HX;simp;omega) (Nat.le_trans (Aa H0) (Aa LL).hq.fr.size)).mono ?_
    rintro e Y7 ⟨lv7,rfl,hY7⟩
    replace LL:=Ab ((Aa LL).tell hY7)
    clear hY7
    go_wp2_with (first|go_skip|((with_reducible show wpList ..);first|(refine rd rfl (Ad 49 isAgg49 rfl rfl ((Aa LL).hq.get 0 rfl) rfl) ?_)|(refine rd rfl (Ad 49 isAgg49 rfl rfl ((Aa LL).hq.get 1 rfl) rfl) ?_)))
    have hrW:=(Aa HW).ts (Aa HNW) (Aa LL)
    have hrI:=(Aa HI).ts (Aa HNI) (Aa LL)
    refine(Kc b.ps a.ps BA AA bc ac b0 t o _ lv7 _ (Aa LL).ti hrW.1 hrI.1 hrW.2 hrI.2 (Aa HAC) (by have:=Aa HX;simp;omega) (Nat.le_trans (Aa H0) (Aa LL).hq.fr.size) (Aa HSB).2 (Aa HSA).2 (fun Z hZ=>Aa HTB Z (Km (Aa LL) hZ))).mono ?_
    clear hrW hrI
    rintro e Y9 ⟨lv9,rfl,hY9⟩
    replace LL:=Ab ((Aa LL).tell hY9)
    clear hY9
    have LF:Hid (TP X b0 t o xs (cond true [Jo o a] []++(cond true [] [Jk o a]++(cond true [Qd o a] []++Lk o b.ps a.ps))) lv lv9 Y9):=Ab (by refine TS.post (L:= [(B4,b.cs BA bc),(B5,a.cs AA ac)]) ?_;simpa [Jo,Jk,Qd,hax] using Aa LL)
    go_wp2
    go_end0
    exact⟨_,rfl,Aa LF⟩
def Zbq (ps:List PR):Bool:=decide (Ph ps ps.length<ps.length)
theorem Yp (s:SH) (SA:Option Addr) (sc:Nat) (w:World) (hW:ReadsP9 w SA s.ps) (hz:s.ps.length<=733007751850):Calls prog 62 #[s.agg SA sc] w fun e w'=>e= .returned (.bool (Zbq s.ps))/\Below w.heap.size w w':=by
 have LL:=Ab (Hq.nil w [])
 have HW:=Ab hW
 have HZ:=Ab hz
 clear hW hz
 have hdb:decide ((Ph s.ps s.ps.length:Int)<(s.ps.length:Int))=Zbq s.ps:=by unfold Zbq;by_cases h:Ph s.ps s.ps.length<s.ps.length<;>simp[h]
 rw[sagg]
 go_enter func62,ntmps62
 go_wp2_with (first|go_skip|((with_reducible show wpList ..);((refine bx 85 (s.cs SA sc) (by rfl) rfl rfl rfl (Nat.succ_pos _) (Aa LL) ?_);intro X1 B1 hE1 L1 hb1;replace LL:=Ab L1;clear L1 hb1 hE1;simp only[nn])))
 have hq0:Hq w _ [] [(B1,s.cs SA sc)]:=(Aa LL).drew
 refine wp_region_held_drew (P:=prog) (S:=fun Z=>Hq w Z [] [(B1,s.cs SA sc)]) (by kernel_rfl) hq0 (fun hS0=> ?_)
 refine y0 0 (some 3) (.pointer (some ⟨B1,7,none⟩)) rfl hq0 ?_
 refine y1 1 (some 4) (.slice SA s.ps.length sc) rfl (fun X hX=>Ad 49 isAgg49 rfl rfl (hX.get 0 rfl) rfl) hq0 ?_
 refine y0 4 (some 7) (.pointer (some ⟨B1,7,none⟩)) rfl hq0 ?_
 refine y1 5 (some 8) (.slice SA s.ps.length sc) rfl (fun X hX=>Ad 49 isAgg49 rfl rfl (hX.get 0 rfl) rfl) hq0 ?_
 refine y1 6 (some 9) (.int .i64 (s.ps.length:Nat)) rfl (fun X hX=>Bp 49 80 underlying49 rfl rfl) hq0 ?_
 refine wpAnyH_ready (rs:= [2]) (by kernel_rfl) (by simp) (Jm 2 (some 5) rfl (by kernel_rfl) (by kernel_rfl) (by kernel_rfl) (Om SA sc s.ps _ ((Aa HW).fr hq0.fr) (Aa HZ)) ?_ AllReadyH.nil)
 rintro e Y2 ⟨M,n,rfl,hM,hm,hY2⟩
 have hq2:=Hq.on hq0 hY2
 refine⟨_,rfl,hq2, ?_⟩
 simp only[nn]
 refine wpAnyH_ready (rs:= [3]) (by kernel_rfl) (by simp) (Qb 3 (some 6) rfl (by kernel_rfl) (by kernel_rfl) (ex_lenI rfl rfl hm) hq2 ?_ AllReadyH.nil)
 simp only[nn]
 refine y1 7 (some 10) (.bool (Zbq s.ps)) rfl (fun X hX=>ZaQ rfl rfl rfl hdb) hq2 ?_
 refine y0 8 (some 2) (.bool (Zbq s.ps)) rfl hq2 ?_
 refine dn ?_
 try simp only[nn]
 go_wp2
 go_ret
 exact⟨rfl,hq2.fr.below⟩
