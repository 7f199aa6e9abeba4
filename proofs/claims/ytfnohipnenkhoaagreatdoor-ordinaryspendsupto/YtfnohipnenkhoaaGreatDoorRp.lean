import Derived.Test.YtfnohipnenkhoaaGreatDoorRn
set_option linter.all false
namespace Go.Proofs.YtfnohipnenkhoaaGreatDoor
set_option maxRecDepth 100000
set_option maxHeartbeats 0
section
open Go Go.Proofs Go.Maps Go.RowKit FM Tryz
attribute [local go_sem] Ao Am Au Ah Ap Ai Ax Dn Dm Bq Aj Bp
def shC (s:PO) (v:Value):List Value:= [.int .i64 s.c]++s.p.cs++ [.bool s.x,v]
theorem ZdI (s:PO) (A:Option Addr) (n c:Nat): ∀u∈shC s (.slice A n c),u.oneCell'=true:=by simp[shC,VV.cs,Value.oneCell']
def Ox:PO:=⟨0,Av,false, []⟩
theorem ex_bsh {o:Oper} {a:Act} {w:World} {x0 x1 x2 x3:Operand} (s:PO) (v:Value) (A:Option Addr) (n c:Nat) (hv:v= .slice A n c) (ho:o.op= .build 66 #[(0,x0),(1,x1),(2,x2),(3,x3)]) (h0:a.eval x0= .int .i64 s.c) (h1:a.eval x1= .agg s.p.cs.toArray) (h2:a.eval x2= .bool s.x) (h3:a.eval x3=v):(execOp a.eval o).run prog w= .ok (.value (.agg (shC s v).toArray)) w:=by
 subst hv
 have e:(Instr.build 66 #[(0, .int .i64 s.c),(1, .agg s.p.cs.toArray),(2, .bool s.x),(3, .slice A n c)]).run prog w= .ok (.agg (shC s (.slice A n c)).toArray) w:=by kernel_rfl
 unfold execOp
 simp only[ho,List.map_toArray,List.map_cons,List.map_nil,h0,h1,h2,h3]
 simp[e]
theorem ZcZ (T:TT):(pr T).length=T.live.length:=List.length_map _
theorem Sy.addRow {w X Y:World} {E:List Nat} {L:List Ob} {base e s n:Nat} {v:Value} {xs:List Value} (S:Sy w X E L) (hO:Y.ownsRow X.heap.size e s v n xs) (k:Below X.heap.size X Y) (hb:base<=X.heap.size):Sy w Y E (L++ [Ee base e s v n xs]):=S.add (Qd _ _ _ _ _ _) (Ua hO hb) k (fun b hb'=>(World.ownsRow.lt hO b (by simpa [Ee] using hb')).1)
theorem shape_h (h:HP) (j:Nat) (q:OB) (w:World) (H:h.Is w) (hj:h.l[j]? =some q) (hlast:q.T.last<100000):Calls prog 22 #[.pointer (some ⟨q.b,0,none⟩)] w fun e w'=> ∃A c,e= .returned (.agg (shC q.po (.slice A q.po.ps.length c)).toArray)/\w'.ownsRow w.heap.size 69 20 (.slice A q.po.ps.length c) q.po.ps.length (Mb q.po.ps)/\Below w.heap.size w w':=by
 have hlive:q.T.live.length<=800000:=by have:=Vd (H.ob hj).2.1;omega
 have SS:=Ab (Sy.nil w [])
 go_enter func22,ntmps22
 go_wp2_with (first|go_skip|((with_reducible show wpList ..);(refine zA 66 (shC Ox (.slice none 0 0)) (by rfl) rfl SS ?_;clear SS;intro Xa Ba SS;simp only[nn])))
 have hS:Sy w _ [] [Aq Ba (shC Ox (.slice none 0 0))]:=(Aa SS).drew
 clear SS
 have cu: ∀{X:World} {M:List Ob},Sy w X [] ([]++M)->Sy w X [] []:=fun h=>Sy.left h
 refine wp_region_held_drew (P:=prog) (S:=fun X=>Sy w X [] []) (by kernel_rfl) (cu hS) (fun hS0=> ?_)
 refine gp 0 (some 3) (.pointer (some ⟨q.b,0,none⟩)) rfl rfl (cu hS) ?_
 simp only[nn]
 refine gp 1 (some 4) (.pointer (some ⟨q.b,0,none⟩)) rfl rfl (cu hS) ?_
 simp only[nn]
 refine gp 2 (some 5) (.pointer (some ⟨q.b,0,none⟩)) rfl rfl (cu hS) ?_
 simp only[nn]
 refine gq 3 (some 6) (.int .i64 q.c) rfl rfl (fun X hX=>Ad 3 isAgg3 rfl rfl ((H.on hX.fr.below).ob hj).1 rfl) (cu hS) ?_
 simp only[nn]
 refine gp 4 (some 7) (.pointer (some ⟨q.b,0,none⟩)) rfl rfl (cu hS) ?_
 simp only[nn]
 refine gp 5 (some 8) (.pointer (some ⟨q.b,0,none⟩)) rfl rfl (cu hS) ?_
 simp only[nn]
 refine gp 6 (some 9) (.pointer (some ⟨q.b,1,none⟩)) rfl rfl (cu hS) ?_
 simp only[nn]
 refine gq 7 (some 10) (.agg q.p.cs.toArray) rfl rfl (fun X hX=>Af (vs:=q.p.cs) 36 5 rwV szV rfl rfl ((H.on hX.fr.below).ob hj).1 rfl rfl) (cu hS) ?_
 simp only[nn]
 refine gp 8 (some 11) (.pointer (some ⟨q.b,0,none⟩)) rfl rfl (cu hS) ?_
 simp only[nn]
 refine gp 9 (some 12) (.pointer (some ⟨q.b,0,none⟩)) rfl rfl (cu hS) ?_
 simp only[nn]
 refine gp 10 (some 13) (.pointer (some ⟨q.b,6,none⟩)) rfl rfl (cu hS) ?_
 simp only[nn]
 refine gq 11 (some 14) (.bool q.x) rfl rfl (fun X hX=>Ad 4 isAgg4 rfl rfl ((H.on hX.fr.below).ob hj).1 rfl) (cu hS) ?_
 simp only[nn]
 refine gp 12 (some 15) (.pointer (some ⟨q.b,0,none⟩)) rfl rfl (cu hS) ?_
 simp only[nn]
 refine gp 13 (some 16) (.pointer (some ⟨q.b,0,none⟩)) rfl rfl (cu hS) ?_
 simp only[nn]
 refine gp 14 (some 17) (.pointer (some ⟨q.b,7,none⟩)) rfl rfl (cu hS) ?_
 simp only[nn]
 refine gq 15 (some 18) (.pointer (some ⟨q.T.t,0,none⟩)) rfl rfl (fun X hX=>Ad 97 isAgg97 rfl rfl ((H.on hX.fr.below).ob hj).1 rfl) (cu hS) ?_
 simp only[nn]
 refine gr (rs:= [16]) (gc 16 (some 19) rfl rfl (props27 q.T _ ((H.on hS.fr.below).ob hj).2.1 (by omega) hlive) ?_ gn)
 rintro e Y1 ⟨v,rfl,hO1,hY1⟩
 obtain⟨A,c,rfl⟩:=Gw hO1
 have hq1:=Sy.addRow hS hO1 hY1 hS.fr.size
 refine⟨_,rfl,cu hq1, ?_⟩
 refine gq 17 (some 20) (.agg (shC q.po (.slice A q.T.live.length c)).toArray) rfl rfl (fun X hX=>ex_bsh q.po _ A _ c rfl rfl rfl rfl rfl rfl) (cu hq1) ?_
 simp only[nn]
 refine gr (rs:= [18]) (Pn (vs:=shC q.po (.slice A q.T.live.length c)) (new:=shC q.po (.slice A q.T.live.length c)) 18 0 66 rfl rfl (by kernel_rfl) rfl rfl rfl rfl (ZdI _ _ _ _) szS hq1 rfl (by simp[Bs,shC,Ox,VV.cs,KK.cs,DD.cs,OB.cs,hcs,Ak,Av]) (by simp[Bs,shC,Ox,VV.cs,KK.cs,DD.cs,OB.cs,hcs,Ak,Av]) (fun _ hZ=>cu hZ) ?_ gn)
 intro Y2 hq2
 refine wpAnyH_done (by kernel_rfl) ?_ _
 try simp only[nn]
 have SS:=Ab hq2
 go_wp2
 refine Jm rwS szS rfl rfl rfl ((Aa SS).hold 0 rfl) rfl ?_
 refine⟨A,c,by rw[show q.po.ps.length=q.T.live.length from ZcZ _], ?_,(Aa SS).fr.below⟩
 show World.ownsRow _ _ _ _ (.slice A (pr q.T).length c) (pr q.T).length _
 rw[ZcZ]
 exact(Aa SS).get 1 rfl
def psO (base:Nat) (l:List PO) (vs:List Value):Ob:=⟨vs.flatMap (fun v=>v.ownBlock.toList),fun X=>vs.length=l.length/\ ∀(j:Nat) (s:PO) (v:Value),l[j]? =some s->vs[j]? =some v->X.ownsRow base 69 20 v s.ps.length (Mb s.ps)⟩
theorem psO_ok (base:Nat) (l:List PO) (vs:List Value):(psO base l vs).Ok:=by
 refine⟨fun h k=>⟨k.1,fun j s v h1 h2=>ZdM (k.2 j s v h1 h2) (fun g hg=>h g (List.mem_flatMap.2 ⟨v,List.mem_of_getElem? h2,by simp[hg]⟩))⟩,fun k b hb=> ?_⟩
 obtain⟨v,hv,hb⟩:=List.mem_flatMap.1 hb
 obtain⟨j,hj⟩:=List.getElem?_of_mem hv
 have hlt:=(List.getElem?_eq_some_iff.1 hj).1
 have hl2:j<l.length:=by have:=k.1;omega
 exact(World.ownsRow.lt (k.2 j l[j] v (List.getElem?_eq_getElem hl2) hj) b (by simpa using hb)).2
def Uk (l:List PO) (vs:List Value):List Value:=(l.zip vs).flatMap (fun x=>shC x.1 x.2)
theorem Zdf {l:List PO} {vs:List Value} {s:PO} {v:Value} (h:vs.length=l.length):Uk (l++ [s]) (vs++ [v])=Uk l vs++shC s v:=by
 unfold Uk
 rw[List.zip_append h.symm,List.flatMap_append]
 simp
theorem ps_snoc {w X:World} {E:List Nat} {L M:List Ob} {base:Nat} {l:List PO} {vs:List Value} {s:PO} {v:Value} (S:Sy w X E (L++psO base l vs::Ee base 69 20 v s.ps.length (Mb s.ps)::M)):Sy w X E (L++ [psO base (l++ [s]) (vs++ [v])]):=by
 have h1:(psO base l vs).P X:=S.ho _ (List.mem_append_right _ (List.mem_cons_self ..))
 have h2:X.ownsRow base 69 20 v s.ps.length (Mb s.ps):=S.ho (Ee base 69 20 v s.ps.length (Mb s.ps)) (List.mem_append_right _ (List.mem_cons_of_mem _ (List.mem_cons_self ..)))
 refine S.join (psO_ok _ _ _) ⟨by simp[h1.1],fun j s' v' hs hv=> ?_⟩ (fun x hx=> ?_)
 ·rcases Nat.lt_or_ge j l.length with h3|h3
  ·rw[List.getElem?_append_left h3] at hs
   rw[List.getElem?_append_left (by rw[h1.1];exact h3)] at hv
   exact h1.2 j s' v' hs hv
  ·rw[List.getElem?_append_right h3] at hs
   rw[List.getElem?_append_right (by rw[h1.1];exact h3)] at hv
   have h4:=(List.getElem?_eq_some_iff.1 hs).1
   have h5:j - l.length=0:=by simpa using h4
   rw[h5] at hs
   rw[h1.1,h5] at hv
   obtain rfl:s=s':=by simpa using hs
   obtain rfl:v=v':=by simpa using hv
   exact h2
 ·obtain⟨u,hu,hx⟩:=List.mem_flatMap.1 hx
  rcases List.mem_append.1 hu with h3|h3
  ·exact .inl (List.mem_flatMap.2 ⟨u,h3,hx⟩)
  ·rw[List.mem_singleton.1 h3] at hx
   exact .inr hx
theorem infS:(prog.info? 66).map (fun i=>(i.zero,i.size,i.bytes))=some (some (.agg (shC Ox (.slice none 0 0)).toArray),8,88):=by kernel_rfl
theorem Zep {h:HP} {i:Nat} {q:OB} (hj:h.l[i]? =some q):h.abs.take (i+1)=h.abs.take i++ [q.po]:=by
 obtain⟨hlt,e⟩:=List.getElem?_eq_some_iff.1 (abs_at hj)
 rw[List.take_succ_eq_append_getElem hlt,e]
theorem Za (h:HP) (w:World) (H:h.Is w) (hl:h.l.length<=65536) (hF: ∀(j:Nat) (q:OB),h.l[j]? =some q->q.T.last<100000):Calls prog 9 #[.pointer (some ⟨h.b,0,none⟩)] w fun e w'=> ∃A c vs,e= .returned (.slice A h.l.length c)/\Sy w w' [] [Ee w.heap.size 66 8 (.slice A h.l.length c) h.l.length (Uk h.abs vs),psO w.heap.size h.abs vs]:=by
 have SS:=Ab (Sy.nil w [])
 obtain⟨A0,c0,hgv⟩:=H.form
 have HB:Hid (∀X,Below w.heap.size w X->Holds X h.b [.slice A0 h.l.length c0, .int .i64 h.cap, .int .i64 h.fuel, .int .i64 h.depth, .int .i64 h.ent]):=Ab (fun X hX=>by have:=(H.on hX).blk;unfold hcs at this;rw[hgv] at this;exact this)
 go_enter func9,ntmps9
 go_wp2_with fail
 refine(My h _ H).mono ?_
 rintro _ Y0 ⟨rfl,hY0⟩
 obtain rfl:=hY0.symm
 go_wp2_with (first|go_skip|((with_reducible show wpList ..);first|((refine mkS (e:=66) (size:=8) (bytes:=88) (z:= .agg (shC Ox (.slice none 0 0)).toArray) w.heap.size h.l.length (by rfl) rfl rfl rfl underlying32 infS (by omega) (by omega) (by omega) (Aa SS) (Aa SS).fr.size ?_);intro X1 B1 hE1 L1 hb1;replace SS:=Ab L1;clear L1 hb1 hE1;simp only[nn])|(refine rd rfl (Ad 80 isAgg80 rfl rfl (Aa HB _ (Aa SS).fr.below) rfl) ?_;simp only[nn])|(refine rd rfl (Bm 80 83 underlying80 rfl rfl) ?_;simp only[nn])))
 replace SS:=Ab ((Aa SS).add (psO_ok w.heap.size [] []) ⟨rfl,fun j s v h1=>by simp at h1⟩ (Below.refl _ _) (fun b hb=>by simp[psO] at hb))
 go_loopg [3,14] h.l.length (fun gm s3 s14 wr=> ∃(i:Nat) (A1:Option Addr) (c1:Nat) (vs:List Value),s3= .slice A1 i c1/\s14= .int .i64 (i:Nat)/\i<=h.l.length/\h.l.length - i<=gm/\Hid (Sy w wr [] [Ee w.heap.size 66 8 (.slice A1 i c1) i (Uk (h.abs.take i) vs),psO w.heap.size (h.abs.take i) vs]))
 case atStart=>exact⟨0,_,_, [],rfl,rfl,by omega,by omega,SS⟩
 case round=>
  clear SS
  obtain⟨i,A1,c1,vs,rfl,rfl,hil,hgm,SS⟩:=hrel
  by_cases hlt:i<h.l.length
  ·obtain⟨q,hj⟩: ∃q,h.l[i]? =some q:=⟨_,List.getElem?_eq_getElem hlt⟩
   have dlt:decide ((i:Int)<(h.l.length:Int))=true:=decide_eq_true (by omega)
   have hw1:IntKind.i64.wrap ((i:Int)+1)=(i:Int)+1:=by rw[IntKind.wrap_i64];omega
   obtain⟨g,cg,hg2,hcell⟩:=(H.on (Aa SS).fr.below).ptr hj
   rw[hgv] at hg2
   cases hg2
   have HC:Hid (wr.cell? ⟨g,i,none⟩=some (.pointer (some ⟨q.b,0,none⟩))):=Ab hcell
   clear hcell
   have hlen:vs.length=(h.abs.take i).length:=((Aa SS).get 1 rfl).1
   have HLT:=Ab hlt
   skip
   go_wp2_with (first|go_skip|((with_reducible show wpList ..);first|(refine rd rfl (ZaS 80 i unOs idOs rfl rfl rfl (Aa HLT)) ?_;simp only[nn])|(refine rd rfl (Un 83 isAgg83 rfl rfl (Aa HC)) ?_;simp only[nn])))
   refine(shape_h h i q _ (H.on (Aa SS).fr.below) hj (hF i q hj)).mono ?_
   rintro _ Y2 ⟨A2,c2,rfl,hO2,hb2⟩
   replace SS:=Ab ((Aa SS).addRow hO2 hb2 (base:=w.heap.size) (Aa SS).fr.size)
   clear hO2 hb2
   go_wp2_with (first|go_skip|((with_reducible show wpList ..);first|((refine bsS (e:=66) (size:=8) (bytes:=88) (z:= .agg (shC Ox (.slice none 0 0)).toArray) (cs:=shC q.po (.slice A2 q.po.ps.length c2)) (by rfl) rfl rfl underlying32 infS (by omega) rfl rfl (by omega) (Aa SS) ?_);intro X3 B3 hE3 L3 hb3;replace SS:=Ab L3;clear L3 hb3 hE3;simp only[nn])|((refine apS (e:=66) (size:=8) (bytes:=88) (z:= .agg (shC Ox (.slice none 0 0)).toArray) (k:=i) (xs:=Uk (h.abs.take i) vs) (news:=shC q.po (.slice A2 q.po.ps.length c2)) 0 3 rfl rfl rfl rfl underlying32 infS rfl (by omega) (Aa SS) rfl rfl rfl (ZdI _ _ _ _) (by omega) (by omega) (Aa SS).fr.size ?_);intro A4 c4 X4 S4;replace SS:=Ab S4;clear S4;simp only[nn])))
   have hq:=Aa SS
   have hq2:=Sy.left (L:= [Ee w.heap.size 66 8 (.slice A4 (i+1) c4) (i+1) (Uk (h.abs.take i) vs++shC q.po (.slice A2 q.po.ps.length c2)),psO w.heap.size (h.abs.take i) vs,Ee w.heap.size 69 20 (.slice A2 q.po.ps.length c2) q.po.ps.length (Mb q.po.ps)]) (M:= [_]) hq
   have hq3:=ps_snoc (L:= [Ee w.heap.size 66 8 (.slice A4 (i+1) c4) (i+1) (Uk (h.abs.take i) vs++shC q.po (.slice A2 q.po.ps.length c2))]) (M:= []) hq2
   rw[←Zdf hlen,←Zep hj] at hq3
   replace SS:=Ab hq3
   clear hq hq2 hq3
   go_roundg (h.l.length - (i+1))
   case measure=>have:=Aa HLT;omega
   case rel=>exact⟨i+1,A4,c4,vs++ [Value.slice A2 q.po.ps.length c2],rfl,by go_num,by have:=Aa HLT;omega,by omega,SS⟩
  ·obtain rfl:i=h.l.length:=by omega
   go_wp2
   go_ret
   refine⟨A1,c1,vs,rfl, ?_⟩
   have:=Aa SS
   rw[show h.abs.take h.l.length=h.abs from List.take_of_length_le (by rw[Oo];exact Nat.le_refl _)] at this
   exact this
def ReadsP (w:World) (A:Option Addr) (l:List (KK×DD)):Prop:= ∀(j:Nat) (e:KK×DD),l[j]? =some e-> ∃b off,A=some ⟨b,off,none⟩/\b<w.heap.size/\w.rangeAt b (off+j * 20) (e.1.cs++e.2.cs)
theorem ReadsP.on {w X:World} {A:Option Addr} {l:List (KK×DD)} (h:ReadsP w A l) (k:Below w.heap.size w X):ReadsP X A l:=fun j e hj=>by
 obtain⟨b,off,h1,h2,h3⟩:=h j e hj
 exact⟨b,off,h1,Nat.lt_of_lt_of_le h2 k.size,Ea h3 h2 k⟩
theorem ZeA {X:World} {base n:Nat} {A:Option Addr} {c:Nat} {l:List (KK×DD)} (h:X.ownsRow base 69 20 (.slice A n c) n (Mb l)) (hn:l.length=n):ReadsP X A l:=fun j e hj=>by
 have hlt:=(List.getElem?_eq_some_iff.1 hj).1
 have he:=(List.getElem?_eq_some_iff.1 hj).2
 obtain⟨g,c',h1,h2,h3,h4⟩:=Zbm (f:=fun x:KK×DD=>x.1.cs++x.2.cs) (k:=20) (fun _=>rfl) h hn j hlt
 cases h1
 exact⟨g,0,rfl,h3,by rw[he] at h4;exact h4⟩
theorem ex_kne {o:Oper} {a:Act} {w:World} {x y:Operand} {k:KK} (ho:o.op= .binOp .neq 48 x y 48) (hx:a.eval x= .agg k.cs.toArray) (hc:a.eval y= .agg k.cs.toArray):(execOp a.eval o).run prog w= .ok (.value (.bool false)) w:=by
 have h2:=neq23 k w
 rw[Ds] at h2
 unfold execOp
 simp only[ho,hx,hc]
 simp[eqGuard,h2]
theorem ex_bneS {o:Oper} {a:Act} {w:World} {x y:Operand} {b:Bool} (ho:o.op= .binOp .neq 4 x y 4) (hx:a.eval x= .bool b) (hc:a.eval y= .bool b):(execOp a.eval o).run prog w= .ok (.value (.bool false)) w:=by
 unfold execOp
 simp only[ho,hx,hc]
 simp[go_sem,eqGuard]
theorem Zc (s:PO) (A1 A2:Option Addr) (c1 c2:Nat) (w:World) (hz:s.ps.length<=1000000) (hpx:s.p.x<2^64) (hps: ∀e∈s.ps,FD e.2) (hR1:ReadsP w A1 s.ps) (hR2:ReadsP w A2 s.ps):Calls prog 15 #[.agg (shC s (.slice A1 s.ps.length c1)).toArray, .agg (shC s (.slice A2 s.ps.length c2)).toArray] w fun e w'=>e= .returned (.bool true)/\Below w.heap.size w w':=by
 have SS:=Ab (Sy.nil w [])
 go_enter func15,ntmps15
 go_wp2_with (first|go_skip|((with_reducible show wpList ..);first|(refine zB 66 (shC s (.slice A1 s.ps.length c1)) (by rfl) rfl rfl rfl SS ?_;clear SS;intro Xa Ba SS;simp only[nn])|(refine zB 66 (shC s (.slice A2 s.ps.length c2)) (by rfl) rfl rfl rfl SS ?_;clear SS;intro Xb Bb SS;simp only[nn])|(refine rd rfl (Ad 3 isAgg3 rfl rfl ((Aa SS).hold 0 rfl) rfl) ?_;simp only[nn])|(refine rd rfl (Ad 3 isAgg3 rfl rfl ((Aa SS).hold 1 rfl) rfl) ?_;simp only[nn])|(refine rd rfl (Af (vs:=s.p.cs) 36 5 rwV szV rfl rfl ((Aa SS).hold 0 rfl) rfl rfl) ?_;simp only[nn])|(refine rd rfl (Af (vs:=s.p.cs) 36 5 rwV szV rfl rfl ((Aa SS).hold 1 rfl) rfl rfl) ?_;simp only[nn])|(refine rd rfl (Ef rfl rfl rfl rfl) ?_;simp only[nn])))
 have HC:=fun (w:World)=>Ra s.p s.p w
 simp only[Pp,By] at HC
 refine(HC _).mono ?_
 rintro _ Y1 ⟨rfl,hY1⟩
 replace SS:=Ab ((Aa SS).on hY1)
 clear hY1 HC
 go_wp2_with (first|go_skip|((with_reducible show wpList ..);first|(refine rd rfl (Ad 4 isAgg4 rfl rfl ((Aa SS).hold 0 rfl) rfl) ?_;simp only[nn])|(refine rd rfl (Ad 4 isAgg4 rfl rfl ((Aa SS).hold 1 rfl) rfl) ?_;simp only[nn])|(refine rd rfl (Ad 52 isAgg52 rfl rfl ((Aa SS).hold 0 rfl) rfl) ?_;simp only[nn])|(refine rd rfl (Ad 52 isAgg52 rfl rfl ((Aa SS).hold 1 rfl) rfl) ?_;simp only[nn])|(refine rd rfl (Bm 52 69 underlying52 rfl rfl) ?_;simp only[nn])|(refine rd rfl (Ef rfl rfl rfl rfl) ?_;simp only[nn])|(refine rd rfl (ex_bneS rfl rfl rfl) ?_;simp only[nn])))
 go_loopg [5] s.ps.length (fun gm s5 wr=> ∃i:Nat,s5= .int .i64 (i:Nat)/\i<=s.ps.length/\s.ps.length - i<=gm/\Hid (Sy w wr [] [Aq Ba (shC s (.slice A1 s.ps.length c1)),Aq Bb (shC s (.slice A2 s.ps.length c2))]))
 case atStart=>exact⟨0,rfl,by omega,by omega,SS⟩
 case round=>
  clear SS
  obtain⟨i,rfl,hil,hgm,SS⟩:=hrel
  by_cases hlt:i<s.ps.length
  ·obtain⟨x,hx⟩: ∃x,s.ps[i]? =some x:=⟨_,List.getElem?_eq_getElem hlt⟩
   obtain⟨b1,o1,rfl,hb1,hr1⟩:=hR1 i x hx
   obtain⟨b2,o2,rfl,hb2,hr2⟩:=hR2 i x hx
   have HR1: ∀X,Sy w X [] [Aq Ba (shC s (.slice (some ⟨b1,o1,none⟩) s.ps.length c1)),Aq Bb (shC s (.slice (some ⟨b2,o2,none⟩) s.ps.length c2))]->X.rangeAt b1 (o1+i * 20) (x.1.cs++x.2.cs):=fun X hX=>Ea hr1 hb1 hX.fr.below
   have HR2: ∀X,Sy w X [] [Aq Ba (shC s (.slice (some ⟨b1,o1,none⟩) s.ps.length c1)),Aq Bb (shC s (.slice (some ⟨b2,o2,none⟩) s.ps.length c2))]->X.rangeAt b2 (o2+i * 20) (x.1.cs++x.2.cs):=fun X hX=>Ea hr2 hb2 hX.fr.below
   have dlt:decide ((i:Int)<(s.ps.length:Int))=true:=decide_eq_true (by omega)
   have hw1:IntKind.i64.wrap ((i:Int)+1)=(i:Int)+1:=by rw[IntKind.wrap_i64];omega
   have eqc: ∀w,Calls prog 16 #[x.2.agg,x.2.agg] w fun e w'=>e= .returned (.bool true)/\Below w.heap.size w w':=fun w=>by
    have:=Zd8 x.2 x.2 w
    rw[Zcw] at this
    exact this
   go_wp2_with (first|go_skip|((with_reducible show wpList ..);first|(refine rd rfl (Ad 52 isAgg52 rfl rfl ((Aa SS).hold 0 rfl) rfl) ?_;simp only[nn])|(refine rd rfl (Bm 52 69 underlying52 rfl rfl) ?_;simp only[nn])))
   have hS6:Sy w _ [] [Aq Ba (shC s (.slice (some ⟨b1,o1,none⟩) s.ps.length c1)),Aq Bb (shC s (.slice (some ⟨b2,o2,none⟩) s.ps.length c2))]:=(Aa SS).drew
   clear SS
   refine wp_region_held_drew (P:=prog) (S:=fun X=>Sy w X [] _) (by kernel_rfl) (hS6) (fun hS0=> ?_)
   refine gp 0 (some 42) (.pointer (some ⟨Ba,7,none⟩)) rfl rfl (hS6) ?_
   simp only[nn]
   refine gq 1 (some 43) (.slice (some ⟨b1,o1,none⟩) s.ps.length c1) rfl rfl (fun X hX=>Ad 52 isAgg52 rfl rfl (hX.hold 0 rfl) rfl) (hS6) ?_
   simp only[nn]
   refine gp 2 (some 44) (.int .i64 (i:Nat)) rfl rfl (hS6) ?_
   simp only[nn]
   refine gq 3 (some 45) (.pointer (some ⟨b1,o1+i * 20,none⟩)) rfl rfl (fun X hX=>Az 52 20 i Rq Uj rfl rfl rfl hlt) (hS6) ?_
   simp only[nn]
   refine gp 4 (some 46) (.pointer (some ⟨b1,o1+i * 20,none⟩)) rfl rfl (hS6) ?_
   simp only[nn]
   refine gq 5 (some 47) (.agg x.1.cs.toArray) rfl rfl (fun X hX=>Db (vs:=x.1.cs) 48 2 rwK szK rfl rfl (Oa (HR1 _ hX)) rfl) (hS6) ?_
   simp only[nn]
   refine gp 6 (some 48) (.pointer (some ⟨Bb,7,none⟩)) rfl rfl (hS6) ?_
   simp only[nn]
   refine gq 7 (some 49) (.slice (some ⟨b2,o2,none⟩) s.ps.length c2) rfl rfl (fun X hX=>Ad 52 isAgg52 rfl rfl (hX.hold 1 rfl) rfl) (hS6) ?_
   simp only[nn]
   refine gp 8 (some 50) (.int .i64 (i:Nat)) rfl rfl (hS6) ?_
   simp only[nn]
   refine gq 9 (some 51) (.pointer (some ⟨b2,o2+i * 20,none⟩)) rfl rfl (fun X hX=>Az 52 20 i Rq Uj rfl rfl rfl hlt) (hS6) ?_
   simp only[nn]
   refine gp 10 (some 52) (.pointer (some ⟨b2,o2+i * 20,none⟩)) rfl rfl (hS6) ?_
   simp only[nn]
   refine gq 11 (some 53) (.agg x.1.cs.toArray) rfl rfl (fun X hX=>Db (vs:=x.1.cs) 48 2 rwK szK rfl rfl (Oa (HR2 _ hX)) rfl) (hS6) ?_
   simp only[nn]
   refine gq 12 (some 54) (.bool false) rfl rfl (fun X hX=>ex_kne rfl rfl rfl) (hS6) ?_
   simp only[nn]
   refine gp 13 (some 55) (.bool false) rfl rfl (hS6) ?_
   simp only[nn]
   refine gp 14 (some 56) (.pointer (some ⟨Ba,7,none⟩)) rfl rfl (hS6) ?_
   simp only[nn]
   refine gq 15 (some 57) (.slice (some ⟨b1,o1,none⟩) s.ps.length c1) rfl rfl (fun X hX=>Ad 52 isAgg52 rfl rfl (hX.hold 0 rfl) rfl) (hS6) ?_
   simp only[nn]
   refine gp 16 (some 58) (.int .i64 (i:Nat)) rfl rfl (hS6) ?_
   simp only[nn]
   refine gq 17 (some 59) (.pointer (some ⟨b1,o1+i * 20,none⟩)) rfl rfl (fun X hX=>Az 52 20 i Rq Uj rfl rfl rfl hlt) (hS6) ?_
   simp only[nn]
   refine gp 18 (some 60) (.pointer (some ⟨b1,o1+i * 20+2,none⟩)) rfl rfl (hS6) ?_
   simp only[nn]
   refine gq 19 (some 61) (.agg x.2.cs.toArray) rfl rfl (fun X hX=>Db (vs:=x.2.cs) 39 18 rwD szD rfl rfl (Mu (HR1 _ hX)) rfl) (hS6) ?_
   simp only[nn]
   refine gp 20 (some 62) (.pointer (some ⟨Bb,7,none⟩)) rfl rfl (hS6) ?_
   simp only[nn]
   refine gq 21 (some 63) (.slice (some ⟨b2,o2,none⟩) s.ps.length c2) rfl rfl (fun X hX=>Ad 52 isAgg52 rfl rfl (hX.hold 1 rfl) rfl) (hS6) ?_
   simp only[nn]
   refine gp 22 (some 64) (.int .i64 (i:Nat)) rfl rfl (hS6) ?_
   simp only[nn]
   refine gq 23 (some 65) (.pointer (some ⟨b2,o2+i * 20,none⟩)) rfl rfl (fun X hX=>Az 52 20 i Rq Uj rfl rfl rfl hlt) (hS6) ?_
   simp only[nn]
   refine gp 24 (some 66) (.pointer (some ⟨b2,o2+i * 20+2,none⟩)) rfl rfl (hS6) ?_
   simp only[nn]
   refine gq 25 (some 67) (.agg x.2.cs.toArray) rfl rfl (fun X hX=>Db (vs:=x.2.cs) 39 18 rwD szD rfl rfl (Mu (HR2 _ hX)) rfl) (hS6) ?_
   simp only[nn]
   refine gr (rs:= [26]) (gcB 26 (some 68) rfl rfl hS6 (eqc _) id ?_ gn)
   intro Y1 hq1
   refine gp 27 (some 69) (.bool false) rfl rfl (hq1) ?_
   simp only[nn]
   refine gp 28 (some 70) (.bool false) rfl rfl (hq1) ?_
   simp only[nn]
   refine wpAnyH_done (by kernel_rfl) ?_ _
   try simp only[nn]
   have SS:=Ab hq1
   go_wp2
   go_roundg (s.ps.length - (i+1))
   case measure=>omega
   case rel=>exact⟨i+1,by go_num,by omega,by omega,SS⟩
  ·obtain rfl:i=s.ps.length:=by omega
   go_wp2_with (first|go_skip|((with_reducible show wpList ..);first|(refine rd rfl (Ad 52 isAgg52 rfl rfl ((Aa SS).hold 0 rfl) rfl) ?_;simp only[nn])|(refine rd rfl (Bm 52 69 underlying52 rfl rfl) ?_;simp only[nn])))
   go_ret
   exact⟨rfl,(Aa SS).fr.below⟩
end
section
open Go Go.Proofs Go.Maps Go.RowKit FM
attribute [local go_sem] Ao Am Au Ah Ap Ai Ax Dn Dm Bq Aj Bp
def ZdB (w:World) (A:Option Addr) (l:List PO):Prop:= ∀(j:Nat) (s:PO),l[j]? =some s-> ∃b off PA pc,A=some ⟨b,off,none⟩/\b<w.heap.size/\w.rangeAt b (off+j * 8) (shC s (.slice PA s.ps.length pc))/\ReadsP w PA s.ps
theorem ZeL {l:List PO} {vs:List Value} (h:vs.length=l.length):(l.zip vs).length=l.length:=by simp[h]
theorem Mq {X:World} {base n:Nat} {A:Option Addr} {c:Nat} {l:List PO} {vs:List Value} (hn:l.length=n) (h:X.ownsRow base 66 8 (.slice A n c) n (Uk l vs)) (hp:(psO base l vs).P X):ZdB X A l:=fun j s hj=>by
 have hlt:=(List.getElem?_eq_some_iff.1 hj).1
 have hs:=(List.getElem?_eq_some_iff.1 hj).2
 have hlv:j<vs.length:=by rw[hp.1];exact hlt
 have hz:(l.zip vs).length=n:=by rw[ZeL hp.1];exact hn
 obtain⟨g,c',h1,h2,h3,h4⟩:=Zbm (f:=fun x:PO×Value=>shC x.1 x.2) (k:=8) (fun _=>rfl) h hz j (by rw[hz];omega)
 cases h1
 have hO:=hp.2 j s vs[j] hj (List.getElem?_eq_getElem hlv)
 obtain⟨PA,pc,e⟩:=Gw hO
 refine⟨g,0,PA,pc,rfl,h3, ?_, ?_⟩
 ·have e2:(l.zip vs)[j]'(by rw[hz];omega)=(s,vs[j]):=by rw[List.getElem_zip,hs]
  rw[e2,e] at h4
  exact h4
 ·rw[e] at hO
  exact ZeA hO rfl
theorem Rw (l:List PO) (A1 A2:Option Addr) (c1 c2:Nat) (w:World) (hz:l.length<=1000000) (hps: ∀s∈l,s.ps.length<=1000000/\s.p.x<2^64/\ ∀e∈s.ps,FD e.2) (hR1:ZdB w A1 l) (hR2:ZdB w A2 l):Calls Tryz.prog 12 #[.slice A1 l.length c1, .slice A2 l.length c2] w fun e w'=>e= .returned (.bool true)/\Below w.heap.size w w':=by
 have SS:=Ab (Sy.nil w [])
 go_enter Tryz.func12,Tryz.ntmps12
 go_wp2_with (first|go_skip|((with_reducible show wpList ..);first|(refine rd rfl (Bm 32 66 Tryz.underlying32 rfl rfl) ?_;simp only[nn])|(refine rd rfl (Ef rfl rfl rfl rfl) ?_;simp only[nn])))
 go_loopg [5] l.length (fun gm s5 wr=> ∃i:Nat,s5= .int .i64 (i:Nat)/\i<=l.length/\l.length - i<=gm/\Hid (Sy w wr [] []))
 case atStart=>exact⟨0,rfl,by omega,by omega,SS⟩
 case round=>
  clear SS
  obtain⟨i,rfl,hil,hgm,SS⟩:=hrel
  by_cases hlt:i<l.length
  ·obtain⟨s,hs⟩: ∃s,l[i]? =some s:=⟨_,List.getElem?_eq_getElem hlt⟩
   obtain⟨b1,o1,P1,q1,rfl,hb1,hr1,hp1⟩:=hR1 i s hs
   obtain⟨b2,o2,P2,q2,rfl,hb2,hr2,hp2⟩:=hR2 i s hs
   have HR1: ∀X,Sy w X [] []->X.rangeAt b1 (o1+i * 8) (shC s (.slice P1 s.ps.length q1)):=fun X hX=>Ea hr1 hb1 hX.fr.below
   have HR2: ∀X,Sy w X [] []->X.rangeAt b2 (o2+i * 8) (shC s (.slice P2 s.ps.length q2)):=fun X hX=>Ea hr2 hb2 hX.fr.below
   have dlt:decide ((i:Int)<(l.length:Int))=true:=decide_eq_true (by omega)
   have hw1:IntKind.i64.wrap ((i:Int)+1)=(i:Int)+1:=by rw[IntKind.wrap_i64];omega
   go_wp2_with (first|go_skip|((with_reducible show wpList ..);(refine rd rfl (Bm 32 66 Tryz.underlying32 rfl rfl) ?_;simp only[nn])))
   have hS6:Sy w _ [] []:=(Aa SS).drew
   clear SS
   refine wp_region_held_drew (P:=Tryz.prog) (S:=fun X=>Sy w X [] _) (by kernel_rfl) (hS6) (fun hS0=> ?_)
   refine gp 0 (some 17) (.slice (some ⟨b1,o1,none⟩) l.length c1) rfl rfl (hS6) ?_
   simp only[nn]
   refine gp 1 (some 18) (.int .i64 (i:Nat)) rfl rfl (hS6) ?_
   simp only[nn]
   refine gq 2 (some 19) (.pointer (some ⟨b1,o1+i * 8,none⟩)) rfl rfl (fun X hX=>Az 32 8 i unSs idSs rfl rfl rfl hlt) (hS6) ?_
   simp only[nn]
   refine gq 3 (some 20) (.agg (shC s (.slice P1 s.ps.length q1)).toArray) rfl rfl (fun X hX=>Db (vs:=shC s (.slice P1 s.ps.length q1)) 66 8 rwS szS rfl rfl (HR1 _ hX) rfl) (hS6) ?_
   simp only[nn]
   refine gp 4 (some 21) (.slice (some ⟨b2,o2,none⟩) l.length c2) rfl rfl (hS6) ?_
   simp only[nn]
   refine gp 5 (some 22) (.int .i64 (i:Nat)) rfl rfl (hS6) ?_
   simp only[nn]
   refine gq 6 (some 23) (.pointer (some ⟨b2,o2+i * 8,none⟩)) rfl rfl (fun X hX=>Az 32 8 i unSs idSs rfl rfl rfl hlt) (hS6) ?_
   simp only[nn]
   refine gq 7 (some 24) (.agg (shC s (.slice P2 s.ps.length q2)).toArray) rfl rfl (fun X hX=>Db (vs:=shC s (.slice P2 s.ps.length q2)) 66 8 rwS szS rfl rfl (HR2 _ hX) rfl) (hS6) ?_
   simp only[nn]
   refine gr (rs:= [8]) (gcB 8 (some 25) rfl rfl hS6 (Zc s P1 P2 q1 q2 _ (hps s (List.mem_of_getElem? hs)).1 (hps s (List.mem_of_getElem? hs)).2.1 (hps s (List.mem_of_getElem? hs)).2.2 (hp1.on hS6.fr.below) (hp2.on hS6.fr.below)) id ?_ gn)
   intro Y1 hq1
   refine gp 9 (some 26) (.bool false) rfl rfl (hq1) ?_
   simp only[nn]
   refine wpAnyH_done (by kernel_rfl) ?_ _
   try simp only[nn]
   have SS:=Ab hq1
   go_wp2
   go_roundg (l.length - (i+1))
   case measure=>omega
   case rel=>exact⟨i+1,by go_num,by omega,by omega,SS⟩
  ·obtain rfl:i=l.length:=by omega
   go_wp2_with (first|go_skip|((with_reducible show wpList ..);(refine rd rfl (Bm 32 66 Tryz.underlying32 rfl rfl) ?_;simp only[nn])))
   go_ret
   exact⟨rfl,(Aa SS).fr.below⟩
