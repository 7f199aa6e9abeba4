import Derived.Test.YtfnohipnenkhoaaGreatDoorRq
set_option linter.all false
namespace Go.Proofs.YtfnohipnenkhoaaGreatDoor
set_option maxRecDepth 100000
set_option maxHeartbeats 0
section
open Go Go.Proofs Go.Maps Go.RowKit FM
attribute [local go_sem] Ao Am Au Ah Ap Ai Ax Dn Dm Bq Aj Bp
theorem DefP.gd {h:HP} {N M m:Nat} {j:Nat} {q:OB} {k:KK} {d:DD} {h1:HP} {y:Bool} (G:h.Gd N) (hj:h.l[j]? =some q) (hm:q.T.last<=m) (hN:N<=M) (hM:m+1<=M) (hd:FD d) (hg:d.g.k≠7) (hs:d.s.k≠7) (D:DefP h j q k d h1 y):h1.Gd M/\Stp h h1/\h1.fuel=h.fuel/\ ∃q1,h1.l[j]? =some q1/\q1.T.last<=m+1:=by
 have hlt:=(List.getElem?_eq_some_iff.1 hj).1
 rcases D with ⟨hy,⟨-,rfl⟩|⟨rfl,T',rfl,hl,hp⟩⟩
 ·exact⟨G.mono hN,Stp.refl _,rfl,q,hj,by omega⟩
 ·have hO:=Zee (ZbF G.wf hj k) (get_k G.wf hj k) hd hg hs hy.symm
  have h2:(h.tab j q T').Gd M:=ZcM G hj (fun e he=>by
   rw[hp] at he
   rcases ZdJ he with h3|h3
   ·rw[h3];exact hO
   ·exact(G.wf.ob j q hj).ps e h3) (by omega) hN
  exact⟨h2,Zba h j q T',rfl,{q with T:=T'},by show (h.l.set j _)[j]? =_;rw[List.getElem?_set_self hlt],by show T'.last<=_;omega⟩
def OrdP (h:HP) (M:Nat) (w:World) (e:Ending) (w':World):Prop:= ∃(h1:HP) (c:Int) (er:Value),e= .returned (.tuple #[.int .i64 c,er])/\(er= .nilIface∨ ∃k,er=Br k)/\h1.Gd M/\h.To h1 w w'/\h1.cap=h.cap/\h1.depth=h.depth/\h1.ent=h.ent/\h1.fuel=h.fuel
theorem ordNew_h (h:HP) (v:VV) (A:Option Addr) (cp:Nat) (l:List (KK×DD)) (N:Nat) (w:World) (H:h.Is w) (G:h.Gd N) (hT:Tabs w) (hvx:v.x<2^64) (hFD: ∀e∈l,FD e.2) (hOk: ∀e∈l,OkK e.1) (hR: ∀X,Fr w X h.blocks->ReadsP X A l) (hz:l.length<=1000000):Calls Tryz.prog 24 #[.pointer (some ⟨h.b,0,none⟩),v.agg, .slice A l.length cp] w (OrdP h (max N l.length) w):=by
 have hl:=G.wf.ok.len
 have SS:=Ab H.start
 rw[By]
 go_enter Tryz.func24,Tryz.ntmps24
 go_wp2_with (first|go_skip|((with_reducible show wpList ..);(refine zB 36 (v.cs) (by rfl) rfl rfl rfl SS ?_;clear SS;intro Xa Ba SS;simp only[nn])))
 have hS1:Sy w _ h.blocks [hpO h,Aq Ba v.cs]:=(Aa SS).drew
 clear SS
 refine wp_region_held_drew (P:=Tryz.prog) (S:=fun X=>Sy w X h.blocks _) (by kernel_rfl) (hS1) (fun hS0=> ?_)
 refine gp 0 (some 13) (.pointer (some ⟨h.b,0,none⟩)) rfl rfl (hS1) ?_
 simp only[nn]
 refine gq 1 (some 14) (.agg (v.cs).toArray) rfl rfl (fun X hX=>Af (vs:=v.cs) 36 5 rwV szV rfl rfl (hX.hold 1 rfl) rfl rfl) (hS1) ?_
 simp only[nn]
 refine gq 3 (some 16) (.agg (v.cs).toArray) rfl rfl (fun X hX=>Af (vs:=v.cs) 36 5 rwV szV rfl rfl (hX.hold 1 rfl) rfl rfl) (hS1) ?_
 simp only[nn]
 refine gp 5 (some 18) (.slice A l.length cp) rfl rfl (hS1) ?_
 simp only[nn]
 refine gp 7 (some 20) (.pointer (some ⟨h.b,0,none⟩)) rfl rfl (hS1) ?_
 simp only[nn]
 refine gp 8 (some 21) (.slice A l.length cp) rfl rfl (hS1) ?_
 simp only[nn]
 refine gp 10 (some 23) (.pointer (some ⟨h.b,0,none⟩)) rfl rfl (hS1) ?_
 simp only[nn]
 refine gp 11 (some 24) (.slice A l.length cp) rfl rfl (hS1) ?_
 simp only[nn]
 refine gr (rs:= [2]) (gcB 2 (some 15) rfl rfl hS1 (Nb h v _ (hS1.hp 0 rfl) (hT.fr hS1.fr H.low).1) id ?_ gn)
 intro Yt1 hqt1
 simp only[nn]
 refine gr (rs:= [4]) (gcB 4 (some 17) rfl rfl hqt1 (ZcY v _) id ?_ gn)
 intro Yt2 hqt2
 simp only[nn]
 refine gr (rs:= [6]) (gc 6 (some 19) rfl rfl (Za5 A cp l _ (hT.fr hqt2.fr H.low).1 hFD (hR _ hqt2.fr) hz) ?_ gn)
 rintro e Yt3 ⟨c3,rfl,h3,hYt3⟩
 have hqt3:=Sy.on hqt2 hYt3
 refine⟨_,rfl,hqt3, ?_⟩
 simp only[nn]
 refine gr (rs:= [9]) (gc 9 (some 22) rfl rfl (oknown_h h A cp l _ (hqt3.hp 0 rfl) (hT.fr hqt3.fr H.low).1 (hR _ hqt3.fr) hz) ?_ gn)
 rintro e Yt4 ⟨c4,rfl, -,hYt4⟩
 have hqt4:=Sy.on hqt3 hYt4
 refine⟨_,rfl,hqt4, ?_⟩
 simp only[nn]
 refine gr (rs:= [12]) (gc 12 (some 25) rfl rfl (Zce h A cp l _ (hqt4.hp 0 rfl) hl (hT.fr hqt4.fr H.low).1 (hR _ hqt4.fr) hz) ?_ gn)
 rintro e Yt5 ⟨c5,rfl,h5,hYt5⟩
 have hqt5:=Sy.on hqt4 hYt5
 refine⟨_,rfl,hqt5, ?_⟩
 simp only[nn]
 refine gr (rs:= [13]) (Bi 13 (some 26) rfl rfl (by kernel_rfl) (Ed rfl rfl rfl rfl rfl rfl) (Nat.succ_pos _) hqt5 (fun _ hZ=>Sy.left (L:= [_,_]) (M:= [_]) hZ) ?_ gn)
 intro Yt6 Bt6 hEt6 hqt6
 clear hEt6
 simp only[nn]
 refine gr (rs:= [14]) (gcW 14 (some 27) rfl rfl (Sy.left (L:= [_,_]) (M:= [_]) hqt6) (Lw Bt6 5 [El h.l.length v,Da v,c3,c4,c5] _ (hqt6.hold 2 rfl) (by simp)) ?_ gn)
 refine gp 15 (some 8) (.int .i64 (orE [El h.l.length v,Da v,c3,c4,c5])) rfl rfl (Sy.left (L:= [_,_]) (M:= [_]) hqt6) ?_
 simp only[nn]
 refine wpAnyH_done (by kernel_rfl) ?_ _
 try simp only[nn]
 have SS:=Ab (Sy.left (L:= [hpO h,Aq Ba v.cs]) (M:= [Aq Bt6 (Ns [El h.l.length v,Da v,c3,c4,c5])]) hqt6)
 by_cases hc:orE [El h.l.length v,Da v,c3,c4,c5]=0
 ·have hcz:=Ep hc
  go_wp2_with (first|go_skip|((with_reducible show wpList ..);first|(refine rd rfl (Kx rfl rfl rfl hc) ?_;simp only[nn])|(refine zL (v.cs) 36 5 1 rwV szV (by rfl) rfl rfl SS rfl rfl rfl ?_;simp only[nn])))
  have HC:=Zbs h v _ ((Aa SS).hp 0 rfl) (hT.fr (Aa SS).fr H.low) hl
  rw[By] at HC
  refine HC.mono ?_
  rintro _ Y8 (⟨rfl,hmk,T1⟩|⟨hmk,gv,q,rfl,a1,a2,a3,a4,a5,T1⟩)
  ·replace SS:=Ab ((Aa SS).heap 0 rfl T1)
   clear T1 HC
   unfold Br
   go_wp2_with (first|go_skip|((with_reducible show wpList ..);(refine rd rfl (Uo rfl rfl rfl) ?_;simp only[nn])))
   go_ret2
   exact⟨h,_,_,rfl, .inr ⟨_,rfl⟩,G.mono (by omega),HP.To.end H (Aa SS) rfl,rfl,rfl,rfl,rfl⟩
  ·replace SS:=Ab ((Aa SS).heap 0 rfl T1)
   clear T1 HC
   have H35:=Ab (fun (e:KK×DD) (he:e∈l)=>And.intro (h3 (hcz c3 (by simp)) e he).1 (h5 (hcz c5 (by simp)) e he))
   have HG:=Ab (And.intro (ZdR (gv:=gv) G hmk hvx a1 a2 a3 a4 a5) (And.intro (show (h.more gv q).l[h.l.length]? =some q by unfold HP.more;simp) a5))
   go_wp2_with (first|go_skip|((with_reducible show wpList ..);(refine rd rfl (Bm 52 69 Tryz.underlying52 rfl rfl) ?_;simp only[nn])))
   go_loopg [43] l.length (fun gm s9 wr=> ∃(i:Nat) (hi:HP) (qi:OB),s9= .int .i64 (i:Nat)/\i<=l.length/\l.length - i<=gm/\Hid (Sy w wr h.blocks [hpO hi,Aq Ba v.cs])/\Hid (hi.Gd (max N i)/\hi.l[h.l.length]? =some qi/\qi.T.last<=i/\hi.b=h.b/\hi.cap=h.cap/\hi.depth=h.depth/\hi.ent=h.ent/\hi.fuel=h.fuel))
   case atStart=>exact⟨0,h.more gv q,q,rfl,by omega,by omega,SS,Ab ⟨(Aa HG).1.mono (by omega),(Aa HG).2.1,by rw[(Aa HG).2.2];exact Nat.le_refl _,rfl,rfl,rfl,rfl,rfl⟩⟩
   case round=>
    clear SS HG
    obtain⟨i,hi,qi,rfl,hil,hgm,SS,HG⟩:=hrel
    by_cases hlt:i<l.length
    ·have dlt:decide ((i:Int)<(l.length:Int))=true:=decide_eq_true (by omega)
     have hw1:IntKind.i64.wrap ((i:Int)+1)=(i:Int)+1:=by rw[IntKind.wrap_i64];omega
     obtain⟨e,hv⟩: ∃e,l[i]? =some e:=⟨_,List.getElem?_eq_getElem hlt⟩
     have hel:=List.mem_of_getElem? hv
     obtain⟨b,off,hA, -, -⟩:=hR w (Fr.refl _ _) i e hv
     subst hA
     have HA2:Hid (∀X,Fr w X h.blocks->X.rangeAt b (off+i * 20) (prC e)):=Ab (fun X hX=>by
      obtain⟨b2,off2,h1, -,h3⟩:=hR X hX i e hv
      cases h1
      exact h3)
     have HLT:=Ab hlt
     clear hlt hil
     go_wp2_with (first|go_skip|((with_reducible show wpList ..);first|(refine rd rfl (Az 52 20 i Rq Uj rfl rfl rfl (Aa HLT)) ?_;simp only[nn])|(refine rd rfl (Db (vs:=prC e) 69 20 rwP szP rfl rfl (Aa HA2 _ (Aa SS).fr) rfl) ?_;simp only[nn])|(refine zA 69 (prC Oy) (by rfl) rfl SS ?_;clear SS;intro X3 B3 SS;simp only[nn])|((refine stS (vs:=prC e) 2 69 (by rfl) rfl rfl rfl rfl (Ry _) szP (Aa SS) rfl (by simp[Bs,prC,Oy,KK.cs,DD.cs,VV.cs]) ?_);intro X4 S4 hf4 hs4;replace SS:=Ab S4;clear S4 hf4 hs4;simp only[nn])|(refine rd rfl (ex_b91 rfl) ?_;simp only[nn])|(refine rd rfl (Af (vs:=e.1.cs) 48 2 rwK szK rfl rfl ((Aa SS).hold 2 rfl) rfl rfl) ?_;simp only[nn])|(refine rd rfl (Af (vs:=e.2.cs) 39 18 rwD szD rfl rfl ((Aa SS).hold 2 rfl) rfl rfl) ?_;simp only[nn])))
     obtain⟨Gi,hqi,hla,hbi,k1,k2,k3,k4⟩:=Aa HG
     have HC:=Qt hi h.l.length qi e.1 e.2 _ ((Aa SS).hp 0 rfl) Gi.wf.ok.len hqi (hT.fr (Aa SS).fr H.low) (hOk e hel) (Aa H35 e hel).1 (ZbF Gi.wf hqi e.1) (hFD e hel) (by have:=hz;omega)
     rw[Ds,Mn,hbi] at HC
     refine HC.mono ?_
     rintro _ Y9 ⟨h9,y,rfl,hD,T9⟩
     have D9:=hD.gd Gi hqi hla (M:=max N (i+1)) (by omega) (by omega) (hFD e hel) (Aa H35 e hel).2.1 (Aa H35 e hel).2.2
     obtain⟨G9,S9,f9,q9,hq9,hl9⟩:=D9
     replace SS:=Ab (Sy.left (L:= [hpO h9,Aq Ba v.cs]) (M:= [_]) ((Aa SS).heap 0 rfl T9))
     have HG9:=Ab (And.intro G9 (And.intro hq9 (And.intro hl9 (And.intro (T9.hb.trans hbi) (And.intro (S9.cap.trans k1) (And.intro (S9.depth.trans k2) (And.intro (S9.ent.trans k3) (f9.trans k4))))))))
     clear hD T9 G9 S9 f9 hq9 hl9 HC Gi hqi hla hbi k1 k2 k3 k4 HG
     go_wp2
     go_roundg (l.length - (i+1))
     case measure=>have:=Aa HLT;omega
     case rel=>exact⟨i+1,h9,q9,by go_num,by have:=Aa HLT;omega,by omega,SS,HG9⟩
    ·obtain rfl:i=l.length:=by omega
     go_wp2_with (go_skip)
     go_ret2
     obtain⟨Gi,hqi,hla,hbi,k1,k2,k3,k4⟩:=Aa HG
     exact⟨hi,_,_,rfl, .inl rfl,Gi,HP.To.end H (Aa SS) hbi,k1,k2,k3,k4⟩
 ·go_wp2_with (first|go_skip|((with_reducible show wpList ..);(refine rd rfl (Gv rfl rfl rfl hc) ?_;simp only[nn])))
  go_ret2
  exact⟨h,_,_,rfl, .inr ⟨_,rfl⟩,G.mono (by omega),HP.To.end H (Aa SS) rfl,rfl,rfl,rfl,rfl⟩
end
section
open Go Go.Proofs Go.Maps Go.RowKit FM Tryz
attribute [local go_sem] Ao Am Au Ah Ap Ai Ax Dn Dm Bq Aj Bp
def Do (k:Int):List Value:= [.int .i64 k, .int .i64 0]++Av.cs
theorem Gc (k:Int): ∀u∈Do k,u.oneCell'=true:=by simp[Do,VV.cs,Value.oneCell']
def Bu (er:Value):Int:=match er with| .iface _ (.int _ c)=>c|_=>0
theorem ta_errno (c:Int) (w:World):(Instr.typeAssert (Br c) 72 28 true).run prog w= .ok (.tuple #[.int .i64 c, .bool true]) w:=by
 simp[Instr.typeAssert,Br,run_underlying underlying28]
theorem ex_taE {o:Oper} {a:Act} {w:World} {x:Operand} {c:Int} (ho:o.op= .typeAssert x 72 28 true) (hx:a.eval x=Br c):(execOp a.eval o).run prog w= .ok (.value (.tuple #[.int .i64 c, .bool true])) w:=by
 unfold execOp
 simp only[ho,hx]
 simp[ta_errno]
theorem ex_ifEqN {o:Oper} {a:Act} {w:World} {x:Operand} (ho:o.op= .binOp .eql 72 x (.const .nilIface) 72) (hx:a.eval x= .nilIface):(execOp a.eval o).run prog w= .ok (.value (.bool true)) w:=by
 unfold execOp
 simp only[ho,hx,show a.eval (.const .nilIface)= .nilIface from rfl]
 simp[go_sem,eqGuard]
theorem ex_ifEqE {o:Oper} {a:Act} {w:World} {x y:Operand} {c:Int} (ho:o.op= .binOp .eql 72 x y 72) (hx:a.eval x=Br c) (hc:a.eval y= .nilIface):(execOp a.eval o).run prog w= .ok (.value (.bool false)) w:=by
 unfold execOp
 simp only[ho,hx,hc,Br]
 simp[go_sem,eqGuard]
theorem ex_bf0 {o:Oper} {a:Act} {w:World} (ho:o.op= .build 43 #[]):(execOp a.eval o).run prog w= .ok (.value (.agg (Do 0).toArray)) w:=by
 have e:(Instr.build 43 #[]).run prog w= .ok (.agg (Do 0).toArray) w:=by kernel_rfl
 unfold execOp
 simp only[ho]
 simp[e]
theorem ex_bf1 {o:Oper} {a:Act} {w:World} {x:Operand} {c:Int} (ho:o.op= .build 43 #[(0,x)]) (hx:a.eval x= .int .i64 c):(execOp a.eval o).run prog w= .ok (.value (.agg (Do c).toArray)) w:=by
 have e:(Instr.build 43 #[(0, .int .i64 c)]).run prog w= .ok (.agg (Do c).toArray) w:=by kernel_rfl
 unfold execOp
 simp only[ho,List.map_toArray,List.map_cons,List.map_nil,hx]
 simp[e]
theorem fault_n (w:World):Calls prog 39 #[.nilIface] w fun e w'=>e= .returned (.agg (Do 0).toArray)/\Below w.heap.size w w':=by
 have SS:=Ab (Sy.nil w [])
 go_enter func39,ntmps39
 go_wp2_with (first|go_skip|((with_reducible show wpList ..);first|(refine zA 43 (Do 0) (by rfl) rfl SS ?_;clear SS;intro Xa Ba SS;simp only[nn])|(refine rd rfl (ex_ifEqN rfl rfl) ?_;simp only[nn])|(refine rd rfl (ex_bf0 rfl) ?_;simp only[nn])|((refine stS (vs:=Do 0) 0 43 (by rfl) rfl rfl rfl rfl (Gc _) szF (Aa SS) rfl (by simp[Bs,Do,VV.cs]) ?_);intro Xb Lb hfb hsb;replace SS:=Ab Lb;clear Lb hfb hsb;simp only[nn])))
 refine Jm rwF szF rfl rfl rfl ((Aa SS).hold 0 rfl) rfl ?_
 exact⟨rfl,(Aa SS).fr.below⟩
theorem fault_e (c:Int) (w:World):Calls prog 39 #[Br c] w fun e w'=>e= .returned (.agg (Do c).toArray)/\Below w.heap.size w w':=by
 have SS:=Ab (Sy.nil w [])
 go_enter func39,ntmps39
 go_wp2_with (first|go_skip|((with_reducible show wpList ..);first|(refine zA 43 (Do 0) (by rfl) rfl SS ?_;clear SS;intro Xa Ba SS;simp only[nn])|(refine rd rfl (ex_ifEqE rfl rfl rfl) ?_;simp only[nn])|(refine rd rfl (ex_taE rfl rfl) ?_;simp only[nn])|(refine rd rfl (ex_bf1 rfl rfl) ?_;simp only[nn])|((refine stS (vs:=Do c) 0 43 (by rfl) rfl rfl rfl rfl (Gc _) szF (Aa SS) rfl (by simp[Bs,Do,VV.cs]) ?_);intro Xb Lb hfb hsb;replace SS:=Ab Lb;clear Lb hfb hsb;simp only[nn])))
 refine Jm rwF szF rfl rfl rfl ((Aa SS).hold 0 rfl) rfl ?_
 exact⟨rfl,(Aa SS).fr.below⟩
theorem Jo (er:Value) (w:World) (h:er= .nilIface∨ ∃k,er=Br k):Calls prog 39 #[er] w fun e w'=>e= .returned (.agg (Do (Bu er)).toArray)/\Below w.heap.size w w':=by
 rcases h with rfl|⟨k,rfl⟩
 ·exact fault_n w
 ·exact fault_e k w

theorem Gf (l:List VV) (A1 A2:Option Addr) (c1 c2:Nat) (w:World) (hz:l.length<=4000000) (hx: ∀v∈l,v.x<2^64) (hR1:Gt w A1 l) (hR2:Gt w A2 l):Calls prog 70 #[.slice A1 l.length c1, .slice A2 l.length c2] w fun e w'=>e= .returned (.bool true)/\Below w.heap.size w w':=by
 have SS:=Ab (Sy.nil w [])
 go_enter func70,ntmps70
 go_wp2_with (first|go_skip|((with_reducible show wpList ..);first|(refine rd rfl (Bm 41 36 underlying41 rfl rfl) ?_;simp only[nn])|(refine rd rfl (Ef rfl rfl rfl rfl) ?_;simp only[nn])))
 go_loopg [5] l.length (fun gm s5 wr=> ∃i:Nat,s5= .int .i64 (i:Nat)/\i<=l.length/\l.length - i<=gm/\Hid (Sy w wr [] []))
 case atStart=>exact⟨0,rfl,by omega,by omega,SS⟩
 case round=>
  clear SS
  obtain⟨i,rfl,hil,hgm,SS⟩:=hrel
  by_cases hlt:i<l.length
  ·obtain⟨v,hs⟩: ∃v,l[i]? =some v:=⟨_,List.getElem?_eq_getElem hlt⟩
   have hvx:=hx v (List.mem_of_getElem? hs)
   obtain⟨b1,o1,rfl,hb1,hr1⟩:=hR1 i v hs
   obtain⟨b2,o2,rfl,hb2,hr2⟩:=hR2 i v hs
   have HR1: ∀X,Sy w X [] []->X.rangeAt b1 (o1+i * 5) v.cs:=fun X hX=>Ea hr1 hb1 hX.fr.below
   have HR2: ∀X,Sy w X [] []->X.rangeAt b2 (o2+i * 5) v.cs:=fun X hX=>Ea hr2 hb2 hX.fr.below
   have dlt:decide ((i:Int)<(l.length:Int))=true:=decide_eq_true (by omega)
   have hw1:IntKind.i64.wrap ((i:Int)+1)=(i:Int)+1:=by rw[IntKind.wrap_i64];omega
   have HC:=fun (w:World)=>Ra v v w
   simp only[Pp,By] at HC
   go_wp2_with (first|go_skip|((with_reducible show wpList ..);(refine rd rfl (Bm 41 36 underlying41 rfl rfl) ?_;simp only[nn])))
   have hS6:Sy w _ [] []:=(Aa SS).drew
   clear SS
   refine wp_region_held_drew (P:=prog) (S:=fun X=>Sy w X [] _) (by kernel_rfl) (hS6) (fun hS0=> ?_)
   refine gp 0 (some 17) (.slice (some ⟨b1,o1,none⟩) l.length c1) rfl rfl (hS6) ?_
   simp only[nn]
   refine gp 1 (some 18) (.int .i64 (i:Nat)) rfl rfl (hS6) ?_
   simp only[nn]
   refine gq 2 (some 19) (.pointer (some ⟨b1,o1+i * 5,none⟩)) rfl rfl (fun X hX=>Az 41 5 i Lu Lx rfl rfl rfl hlt) (hS6) ?_
   simp only[nn]
   refine gq 3 (some 20) (.agg (v.cs).toArray) rfl rfl (fun X hX=>Db (vs:=v.cs) 36 5 rwV szV rfl rfl (HR1 _ hX) rfl) (hS6) ?_
   simp only[nn]
   refine gp 4 (some 21) (.slice (some ⟨b2,o2,none⟩) l.length c2) rfl rfl (hS6) ?_
   simp only[nn]
   refine gp 5 (some 22) (.int .i64 (i:Nat)) rfl rfl (hS6) ?_
   simp only[nn]
   refine gq 6 (some 23) (.pointer (some ⟨b2,o2+i * 5,none⟩)) rfl rfl (fun X hX=>Az 41 5 i Lu Lx rfl rfl rfl hlt) (hS6) ?_
   simp only[nn]
   refine gq 7 (some 24) (.agg (v.cs).toArray) rfl rfl (fun X hX=>Db (vs:=v.cs) 36 5 rwV szV rfl rfl (HR2 _ hX) rfl) (hS6) ?_
   simp only[nn]
   refine gr (rs:= [8]) (gcB 8 (some 25) rfl rfl hS6 (HC _) id ?_ gn)
   intro Y1 hq1
   refine gp 9 (some 26) (.bool false) rfl rfl (hq1) ?_
   simp only[nn]
   refine wpAnyH_done (by kernel_rfl) ?_ _
   try simp only[nn]
   have SS:=Ab hq1
   go_wp2
   go_roundg (l.length - (i+1))
   case measure=>omega
   case rel=>exact⟨i+1,by go_num,by omega,by omega,SS⟩
  ·obtain rfl:i=l.length:=by omega
   go_wp2_with (first|go_skip|((with_reducible show wpList ..);(refine rd rfl (Bm 41 36 underlying41 rfl rfl) ?_;simp only[nn])))
   go_ret
   exact⟨rfl,(Aa SS).fr.below⟩
def RC (c:Int):Prop:=c=0∨c=4∨c=5∨c=8
theorem Pg: ∀{l:List Int},(∀e∈l,RC e)->RC (orE l)
 | [],_=> .inl rfl
 |e::l,h=>by
  unfold orE
  split
  ·exact Pg (fun x hx=>h x (List.mem_cons_of_mem _ hx))
  ·exact h e (List.mem_cons_self ..)
theorem Pe (o:Int) (n:Nat):RC (thE o n):=by unfold thE;split<;>simp[RC]
theorem ZcV (k:KK):RC (Bl k):=by unfold Bl;split<;>simp[RC]
theorem Zf (l:List VV):RC (Bh l):=by unfold Bh;split<;>simp[RC]
theorem Zh (n:Nat) (l:List VV):RC (Aw n l):=by unfold Aw;split<;>simp[RC]
theorem Zg (v:VV):RC (Da v):=by unfold Da;split<;>simp[RC]
theorem Zi (d:DD):RC (Ez d):=by unfold Ez;split<;>simp[RC]
theorem Zj (l:List VV):RC (Gg l):=by unfold Gg;split<;>simp[RC]
def AskP (h:HP) (N:Nat) (h1:HP) (er:Value):Prop:=h1.Gd (N+1)/\Stp h h1/\((∃c,(c=4∨c=5∨c=8)/\er=Br c/\h1=h)∨Jg h h1 er)
def SetQ (h:HP) (r:VV) (k:KK) (v:VV) (h1:HP) (y:Bool):Prop:=(y=false/\h1=h)∨(v.good=true/\ ∃er,SetP h r k v h1 y er)
theorem AskP.no {h:HP} {N:Nat} (G:h.Gd N) {c:Int} (h0:c≠0) (hc:RC c):AskP h N h (Br c):=by
 refine⟨G.mono (Nat.le_succ _),Stp.refl _, .inl ⟨c, ?_,rfl,rfl⟩⟩
 rcases hc with h|h
 ·exact absurd h h0
 ·exact h
theorem AskP.low {h h1:HP} {N:Nat} {er:Value} (G:h.Gd N) (L:Low h h1) (E:Jg h h1 er):AskP h N h1 er:=⟨(Ph G L).mono (Nat.le_succ _),L.stp, .inr E⟩
theorem AskP.er {h h1:HP} {N:Nat} {er:Value} (A:AskP h N h1 er):er= .nilIface∨ ∃k,er=Br k:=by
 rcases A.2.2 with ⟨c, -,h, -⟩|⟨h, -⟩
 ·exact .inr ⟨c,h⟩
 ·rcases h with h|h|h
  ·exact .inl h
  ·exact .inr ⟨_,h⟩
  ·exact .inr ⟨_,h⟩
theorem Zcj {n:Nat} {l:List VV} (h:Aw n l=0): ∀v∈l,v.k=7->1<=v.i/\v.i<=(n:Int):=by
 intro v hv h7
 unfold Aw at h
 split at h
 ·rename_i ha
  have:=List.all_eq_true.1 ha v hv
  simp[Mi,h7,Qx] at this
  exact this
 ·cases h
theorem Zfd {l:List VV} (h:Gg l=0): ∀v∈l,v.k≠7:=by
 intro v hv h7
 unfold Gg at h
 split at h
 ·rename_i ha
  have:=List.all_eq_true.1 ha v hv
  simp[Vz,h7] at this
 ·cases h
theorem Zb5 {v:VV} (h:Da v=0):v.k=2∨v.k=7:=by
 unfold Da at h
 split at h
 ·assumption
 ·cases h
theorem Uy (h:HP) (o:Int)  (N:Nat) (w:World) (H:h.Is w) (G:h.Gd N) (hN:N<=90000) (hT:Tabs w):Calls prog 60 #[.pointer (some ⟨h.b,0,none⟩), .int .i64 o] w fun e w'=> ∃(h1:HP) (V:VV) (er:Value),e= .returned (.tuple #[V.agg,er])/\AskP h N h1 er/\h.To h1 w w':=by
 refine(Vr h o  N w H G hN hT).mono ?_
 rintro _ Y ⟨h1,V,er,rfl,(⟨h0,rfl,rfl⟩|⟨h0,j,q,rfl,hj,hD,hE⟩),T⟩
 ·refine⟨_,_,_,rfl,AskP.no G h0 (Pe _ _),T⟩
 ·exact⟨h1,_,_,rfl,AskP.low G hD.1 hE,T⟩
theorem Yj (h:HP) (o:Int)  (N:Nat) (w:World) (H:h.Is w) (G:h.Gd N) (hN:N<=90000) (hT:Tabs w):Calls prog 62 #[.pointer (some ⟨h.b,0,none⟩), .int .i64 o] w fun e w'=> ∃(h1:HP) (y:Bool) (er:Value),e= .returned (.tuple #[.bool y,er])/\AskP h N h1 er/\h.To h1 w w':=by
 refine(Zal h o  N w H G hN hT).mono ?_
 rintro _ Y ⟨h1,y,er,rfl,(⟨h0,rfl,rfl,rfl⟩|⟨h0,j,q,rfl,hj,hD,hE⟩),T⟩
 ·refine⟨_,_,_,rfl,AskP.no G h0 (Pe _ _),T⟩
 ·exact⟨h1,_,_,rfl,AskP.low G hD.1 hE,T⟩
theorem Pv (h:HP) (o:Int)  (N:Nat) (w:World) (H:h.Is w) (G:h.Gd N) (hN:N<=90000) (hT:Tabs w):Calls prog 63 #[.pointer (some ⟨h.b,0,none⟩), .int .i64 o] w fun e w'=> ∃(h1:HP) (y:Bool) (er:Value),e= .returned (.tuple #[.bool y,er])/\AskP h N h1 er/\h.To h1 w w':=by
 refine(Qo h o  N w H G hN hT).mono ?_
 rintro _ Y ⟨h1,y,er,rfl,(⟨h0,rfl,rfl,rfl⟩|⟨h0,j,q,rfl,hj,hD,hE⟩),T⟩
 ·refine⟨_,_,_,rfl,AskP.no G h0 (Pe _ _),T⟩
 ·rcases hD with ⟨-,L⟩|⟨-, -,L⟩
  ·exact⟨h1,_,_,rfl,AskP.low G L hE,T⟩
  ·exact⟨h1,_,_,rfl,⟨(Ph (shut_gd G hj) L).mono (Nat.le_succ _),Stp.trans (h1:=h.shut j q) ⟨List.length_set,rfl,rfl,rfl⟩ L.stp, .inr hE⟩,T⟩
theorem Uz (h:HP) (o:Int) (k:KK) (N:Nat) (w:World) (H:h.Is w) (G:h.Gd N) (hN:N<=90000) (hT:Tabs w) (hk:OkK k):Calls prog 64 #[.pointer (some ⟨h.b,0,none⟩), .int .i64 o,k.agg] w fun e w'=> ∃(h1:HP) (V:DD) (y:Bool) (er:Value),e= .returned (.tuple #[V.agg, .bool y,er])/\AskP h N h1 er/\h.To h1 w w':=by
 refine(Vs h o k N w H G hN hT hk).mono ?_
 rintro _ Y ⟨h1,V,y,er,rfl,(⟨h0,rfl,rfl⟩|⟨h0,j,q,rfl,hj,hD,hE⟩),T⟩
 ·refine⟨_,_,_,_,rfl,AskP.no G h0 (Pg (fun e he=>by simp only[List.mem_cons,List.not_mem_nil,or_false] at he;rcases he with rfl|rfl<;>first|exact Pe _ _|exact ZcV _|exact Zf _|exact Zh _ _|exact Zg _|exact Zi _|exact Zj _)),T⟩
 ·exact⟨h1,_,_,_,rfl,AskP.low G hD hE,T⟩
theorem Zaq (h:HP) (o:Int) (k:KK) (N:Nat) (w:World) (H:h.Is w) (G:h.Gd N) (hN:N<=90000) (hT:Tabs w) (hk:OkK k):Calls prog 65 #[.pointer (some ⟨h.b,0,none⟩), .int .i64 o,k.agg] w fun e w'=> ∃(h1:HP) (y:Bool) (er:Value),e= .returned (.tuple #[.bool y,er])/\AskP h N h1 er/\h.To h1 w w':=by
 refine(ZaE h o k N w H G hN hT hk).mono ?_
 rintro _ Y ⟨h1,y,er,rfl,(⟨h0,rfl,rfl,rfl⟩|⟨h0,j,q,rfl,hj,hD,hE⟩),T⟩
 ·refine⟨_,_,_,rfl,AskP.no G h0 (Pg (fun e he=>by simp only[List.mem_cons,List.not_mem_nil,or_false] at he;rcases he with rfl|rfl<;>first|exact Pe _ _|exact ZcV _|exact Zf _|exact Zh _ _|exact Zg _|exact Zi _|exact Zj _)),T⟩
 ·exact⟨h1,_,_,rfl,AskP.low G hD hE,T⟩
theorem askGet (h:HP) (o:Int) (k:KK) (r:VV) (N:Nat) (w:World) (H:h.Is w) (G:h.Gd N) (hN:N<=90000) (hT:Tabs w) (hk:OkK k):Calls prog 19 #[.pointer (some ⟨h.b,0,none⟩), .int .i64 o,k.agg,r.agg] w fun e w'=> ∃(h1:HP) (V:VV) (er:Value),e= .returned (.tuple #[V.agg,er])/\AskP h N h1 er/\h.To h1 w w':=by
 refine(doGet h o k r N w H G hN hT hk).mono ?_
 rintro _ Y ⟨h1,V,er,rfl,(⟨h0,rfl,rfl⟩|⟨h0,j,q,rfl,hj,hD,hE⟩),T⟩
 ·refine⟨_,_,_,rfl,AskP.no G h0 (Pg (fun e he=>by simp only[List.mem_cons,List.not_mem_nil,or_false] at he;rcases he with rfl|rfl|rfl|rfl<;>first|exact Pe _ _|exact ZcV _|exact Zf _|exact Zh _ _|exact Zg _|exact Zi _|exact Zj _)),T⟩
 ·exact⟨h1,_,_,rfl,AskP.low G hD hE,T⟩
theorem Ze8 (h:HP) (o:Int) (k:KK) (N:Nat) (w:World) (H:h.Is w) (G:h.Gd N) (hN:N<=90000) (hT:Tabs w) (hk:OkK k):Calls prog 66 #[.pointer (some ⟨h.b,0,none⟩), .int .i64 o,k.agg] w fun e w'=> ∃(h1:HP) (y:Bool) (er:Value),e= .returned (.tuple #[.bool y,er])/\AskP h N h1 er/\h.To h1 w w':=by
 refine(doDelete h o k N w H G hN hT hk).mono ?_
 rintro _ Y ⟨h1,y,er,rfl,(⟨h0,rfl,rfl,rfl⟩|⟨h0,j,q,rfl,hj,hD,hE⟩),T⟩
 ·refine⟨_,_,_,rfl,AskP.no G h0 (Pg (fun e he=>by simp only[List.mem_cons,List.not_mem_nil,or_false] at he;rcases he with rfl|rfl<;>first|exact Pe _ _|exact ZcV _|exact Zf _|exact Zh _ _|exact Zg _|exact Zi _|exact Zj _)),T⟩
 ·rcases hD with ⟨-,L⟩|⟨-,⟨-,L⟩|⟨-,T',L,hl,hp⟩⟩
  ·exact⟨h1,_,_,rfl,AskP.low G L hE,T⟩
  ·exact⟨h1,_,_,rfl,AskP.low G L hE,T⟩
  ·have h2:(h.tab j q T').Gd (N+1):=ZcM G hj (fun e he=>by rw[hp] at he;exact(G.wf.ob j q hj).ps e (List.mem_filter.1 he).1) (by have:=G.few j q hj;omega) (Nat.le_succ _)
   exact⟨h1,_,_,rfl,⟨Ph h2 L,(Zba h j q T').trans L.stp, .inr hE⟩,T⟩
theorem Pw (h:HP) (o:Int) (k:KK) (d:DD) (N:Nat) (w:World) (H:h.Is w) (G:h.Gd N) (hN:N<=90000) (hT:Tabs w) (hk:OkK k) (hFd:FD d):Calls prog 18 #[.pointer (some ⟨h.b,0,none⟩), .int .i64 o,k.agg,d.agg] w fun e w'=> ∃(h1:HP) (y:Bool) (er:Value),e= .returned (.tuple #[.bool y,er])/\AskP h N h1 er/\h.To h1 w w':=by
 refine(Qp h o k d N w H G hN hT hk hFd).mono ?_
 rintro _ Y ⟨h1,y,er,rfl,(⟨h0,rfl,rfl,rfl⟩|⟨h0,j,q,rfl,hj,hD,hE⟩),T⟩
 ·refine⟨_,_,_,rfl,AskP.no G h0 (Pg (fun e he=>by simp only[List.mem_cons,List.not_mem_nil,or_false] at he;rcases he with rfl|rfl|rfl|rfl|rfl<;>first|exact Pe _ _|exact ZcV _|exact Zf _|exact Zh _ _|exact Zg _|exact Zi _|exact Zj _)),T⟩
 ·have hz:=Ep h0
  have ha:=Zfd (hz _ (by simp:Gg [d.g,d.s]∈_))
  have hg:=DefE.gd G hj hFd (ha d.g (by simp)) (ha d.s (by simp)) hD
  exact⟨h1,_,_,rfl,⟨hg.1,hg.2, .inr hE⟩,T⟩
theorem askSet (h:HP) (o:Int) (k:KK) (v:VV) (r:VV) (N:Nat) (w:World) (H:h.Is w) (G:h.Gd N) (hN:N<=90000) (hT:Tabs w) (hk:OkK k) (hvx:v.x<2^64):Calls prog 20 #[.pointer (some ⟨h.b,0,none⟩), .int .i64 o,k.agg,v.agg,r.agg] w fun e w'=> ∃(h1:HP) (y:Bool) (er:Value),e= .returned (.tuple #[.bool y,er])/\AskP h N h1 er/\SetQ h r k v h1 y/\h.To h1 w w':=by
 refine(doSet h o k v r N w H G hN hT hk hvx).mono ?_
 rintro _ Y ⟨h1,y,er,rfl,(⟨h0,rfl,rfl,rfl⟩|⟨h0,j,q,rfl,hj,hD,hE⟩),T⟩
 ·refine⟨_,_,_,rfl,AskP.no G h0 (Pg (fun e he=>by simp only[List.mem_cons,List.not_mem_nil,or_false] at he;rcases he with rfl|rfl|rfl|rfl<;>first|exact Pe _ _|exact ZcV _|exact Zf _|exact Zh _ _|exact Zg _|exact Zi _|exact Zj _)), .inl ⟨rfl,rfl⟩,T⟩
 ·have hg:=SetP.gd G hvx hD
  exact⟨h1,_,_,rfl,⟨hg.1,hg.2, .inr hE⟩, .inr ⟨ZcP (Ep h0 (Bh [v,r]) (by simp)) v (by simp),_,hD⟩,T⟩
theorem Ux (h:HP) (o:Int) (v:VV) (N:Nat) (w:World) (H:h.Is w) (G:h.Gd N) (hN:N<=90000) (hT:Tabs w) (hvx:v.x<2^64):Calls prog 61 #[.pointer (some ⟨h.b,0,none⟩), .int .i64 o,v.agg] w fun e w'=> ∃(h1:HP) (y:Bool) (er:Value),e= .returned (.tuple #[.bool y,er])/\AskP h N h1 er/\h.To h1 w w':=by
 refine(Vq h o v N w H G hN hT).mono ?_
 rintro _ Y ⟨h1,y,er,rfl,(⟨h0,rfl,rfl,rfl⟩|⟨h0,j,q,rfl,hj,hD,hE⟩),T⟩
 ·refine⟨_,_,_,rfl,AskP.no G h0 (Pg (fun e he=>by simp only[List.mem_cons,List.not_mem_nil,or_false] at he;rcases he with rfl|rfl|rfl|rfl<;>first|exact Pe _ _|exact ZcV _|exact Zf _|exact Zh _ _|exact Zg _|exact Zi _|exact Zj _)),T⟩
 ·have hz:=Ep h0
  have hkn:=Zcj (hz _ (by simp:Aw h.l.length [v]∈_)) v (by simp)
  have hpk:=Zb5 (hz _ (by simp:Da v∈_))
  rcases hD with ⟨-,L⟩|⟨-,L|⟨-,L, -,hR⟩⟩
  ·exact⟨h1,_,_,rfl,AskP.low G L hE,T⟩
  ·exact⟨h1,_,_,rfl,AskP.low G L hE,T⟩
  ·exact⟨h1,_,_,rfl,⟨(Ph (prot_gd G hj hvx hpk hkn hR) L).mono (Nat.le_succ _),Stp.trans (h1:=h.prot j q v) ⟨List.length_set,rfl,rfl,rfl⟩ L.stp, .inr hE⟩,T⟩
def ReadsG {α:Type} (f:α->List Value) (k:Nat) (X:World) (A:Option Addr) (l:List α):Prop:= ∀(j:Nat) (x:α),l[j]? =some x-> ∃b off,A=some ⟨b,off,none⟩/\b<X.heap.size/\X.rangeAt b (off+j * k) (f x)
theorem Zde {α:Type} {f:α->List Value} {k:Nat} (hk: ∀x,(f x).length=k) (h0:0<k) {X:World} {b off:Nat} {l:List α} (h: ∀(j:Nat) (x:α),l[j]? =some x->X.rangeAt b (off+j * k) (f x)):X.rangeAt b off (l.flatMap f):=fun j v hv=>by
 have hlt:=(List.getElem?_eq_some_iff.1 hv).1
 rw[Gb f k hk] at hlt
 have hq:j / k<l.length:=Nat.div_lt_of_lt_mul (by rw[Nat.mul_comm];exact hlt)
 have hr:j % k<k:=Nat.mod_lt _ h0
 have e:j / k * k+j % k=j:=by rw[Nat.mul_comm];exact Nat.div_add_mod j k
 have h1:=Po f k hk l (j / k) (j % k) hq hr
 rw[e,hv] at h1
 have h2:=h (j / k) l[j / k] (List.getElem?_eq_getElem hq) (j % k) v h1.symm
 rw[show off+j=off+j / k * k+j % k by omega]
 exact h2
theorem ReadsG.src {α:Type} {f:α->List Value} {k:Nat} (hk: ∀x,(f x).length=k) (h0:0<k) {X:World} {A:Option Addr} {l:List α} (h:ReadsG f k X A l): ∀ad,A=some ad-> ∀j u,(l.flatMap f)[j]? =some u->X.cell? (ad.add j)=some u:=by
 rintro ad rfl j u hj
 cases l with
 |nil=>cases hj
 |cons x l=>
  obtain⟨b,off,h1, -, -⟩:=h 0 x rfl
  cases h1
  rw[Addr.add_mid]
  exact Zde hk h0 (fun j x hx=>by
   obtain⟨b2,o2,h2, -,h3⟩:=h j x hx
   cases h2
   exact h3) j u hj
theorem ReadsG.left {α:Type} {f:α->List Value} {k:Nat} {X:World} {A:Option Addr} {l m:List α} (h:ReadsG f k X A (l++m)):ReadsG f k X A l:=fun j x hx=>h j x (by rw[List.getElem?_append_left (List.getElem?_eq_some_iff.1 hx).1];exact hx)
theorem Oc {α:Type} {f:α->List Value} {k:Nat} (hk: ∀x,(f x).length=k) {X:World} {base n e:Nat} {A:Option Addr} {c:Nat} {l:List α} (h:X.ownsRow base e k (.slice A n c) n (l.flatMap f)) (hn:l.length=n):ReadsG f k X A l:=fun j x hj=>by
 have hlt:=(List.getElem?_eq_some_iff.1 hj).1
 have he:=(List.getElem?_eq_some_iff.1 hj).2
 obtain⟨g,c',h1,h2,h3,h4⟩:=Zbm hk h hn j hlt
 cases h1
 exact⟨g,0,rfl,h3,by rw[he] at h4;exact h4⟩
section
variable {ops : Array Oper} {rest : List Oper} {Q : Exit → Act → World → Prop} {w w0 : World} {a : Act} {o : Oper} {E : List Nat} {L : List Ob}
theorem emS {t e:TypeId} {size:Nat} (base:Nat) (hw:Region.wanted o (yielded ops a.tmps)=true) (ho:o.op= .buildSlice t 0 #[]) (hr: ∀w,(Instr.buildSlice t 0 #[]).run prog w= .ok (.slice (some ⟨w.heap.size,0,none⟩) 0 0) (w.alloc (Obj.cells #[] e))) (hL:Sy w0 w E L) (hb:base<=w.heap.size)
  (h: ∀X B,Sy w0 X E (L++ [Ee base e size (.slice (some ⟨B,0,none⟩) 0 0) 0 []])->wpList prog ops Q rest (a.put o.dst (.slice (some ⟨B,0,none⟩) 0 0)) X):wpList prog ops Q (o::rest) a w:=by
 refine BigFrame.wpList_want hw fun K hK=> ?_
 have hown:(w.alloc (Obj.cells #[] e)).ownsRow w.heap.size e size (.slice (some ⟨w.heap.size,0,none⟩) 0 0) 0 []:=⟨by simp, .inr ⟨w.heap.size,0, #[],rfl,Nat.le_refl _,(MapKept.heap_alloc w _).1,Nat.le_refl _,Nat.zero_le _,by simp,by simp⟩⟩
 have hP:=hK _ _ (h (w.alloc (Obj.cells #[] e)) w.heap.size (Sy.addRow hL hown ((Below.refl _ _).alloc (Nat.le_refl _) _) hb))
 have he:(execOp a.eval o).run prog w= .ok (.value (.slice (some ⟨w.heap.size,0,none⟩) 0 0)) (w.alloc (Obj.cells #[] e)):=by
  unfold execOp
  simp only[ho,List.map_toArray,List.map_nil]
  simp[hr w]
 unfold Oper.wp
 rw[he]
 exact hP
theorem apA {t e:TypeId} {size bytes k m c base:Nat} {z v:Value} {xs news:List Value} {A:Option Addr} {s x:Operand} (i:Nat) (hw:Region.wanted o (yielded ops a.tmps)=true) (ho:o.op= .call {callee:= .builtin .append,args:= #[s,x],argTypes:= #[t,t]}) (hs:a.eval s=v) (hx:a.eval x= .slice A m c)
  (ht:prog.underlying t=some (.slice e)) (hi:(prog.info? e).map (fun i=>(i.zero,i.size,i.bytes))=some (some z,size,bytes)) (hz:z.cells.size=size) (hsz:0<size) (hL:Sy w0 w E L) (hi1:L[i]? =some (Ee base e size v k xs)) (hA:A=none->m=0/\c=0) (hl:news.length=m * size)
  (hnews: ∀ad,A=some ad-> ∀j u,news[j]? =some u->w.cell? (ad.add j)=some u) (h1: ∀u∈news,u.oneCell'=true)
  (hn:k+m<=4000000) (hby:bytes<=10000) (hbase:base<=w.heap.size)
  (h: ∀A c X,Sy w0 X E (L.set i (Ee base e size (.slice A (k+m) c) (k+m) (xs++news)))->wpList prog ops Q rest (a.put o.dst (.slice A (k+m) c)) X):wpList prog ops Q (o::rest) a w:=by
 obtain⟨i0,hi,hz0,hz1,hz2⟩:=info_parts hi
 have hown:w.ownsRow base e size v k xs:=hL.get i hi1
 refine BigFrame.wpList_want hw fun K hK=> ?_
 cases A with
 |none=>
  obtain⟨rfl,rfl⟩:=hA rfl
  obtain rfl:news= []:=List.length_eq_zero_iff.1 (by simpa using hl)
  have hrun:=run_append_owned_none (P:=prog) (w:=w) base t o.type e i0 size ht hi v k xs hown
  obtain⟨A',c',rfl⟩:=Gw hown
  have hP:=hK _ _ (h A' c' w (by
   simp only[Nat.add_zero,List.append_nil]
   exact hL.row i hi1 hown (World.grownBy.refl _ _) (.inl rfl)))
  simp only[Nat.add_zero] at hP
  unfold Oper.wp
  simp[execOp,ho,resolve,invoke,builtin,hs,hx,hrun,Result.andThen]
  exact hP
 |some ad=>
  obtain⟨v',w',hrun,h2,h3,h4⟩:=Jz w base t o.type e i0 _ size bytes ht hi hz0 hz1 hz2 hz hsz v k xs hown ad m c news hl (hnews ad rfl) h1 (by unfold maxLen;omega) (Nat.le_trans (Nat.mul_le_mul hn hby) (by decide)) hbase
  obtain⟨A',c',rfl⟩:=Gw h2
  have hP:=hK _ _ (h A' c' w' (hL.row i hi1 h2 h3 h4))
  unfold Oper.wp
  simp[execOp,ho,resolve,invoke,builtin,hs,hx,hrun,Result.andThen]
  exact hP
end
theorem Mk {o:Oper} {a:Act} {w:World} {x ix:Operand} {b n cap p:Nat} (ho:o.op= .slice 41 x none (some ix) none) (hx:a.eval x= .slice (some ⟨b,0,none⟩) n cap) (hix:a.eval ix= .int .i64 (p:Nat)) (hp:p<=cap):(execOp a.eval o).run prog w= .ok (.value (.slice (some ⟨b,0,none⟩) p cap)) w:=by
 have e0:(Instr.sliceAt 41 (.slice (some ⟨b,0,none⟩) n cap) none (some (.int .i64 (p:Nat))) none).run prog w= .ok (.slice (some ⟨b,0,none⟩) p cap) w:=by
  rw[run_sliceAt_slice (h:=by kernel_rfl),run_slice_h (ht:=by kernel_rfl) (h0:=by omega) (h2:=by omega)]
  have e:(sizeOf (prog.elem 41)).run prog w= .ok 5 w:=by kernel_rfl
  rw[e]
  simp[sliced,Addr.add,Result.andThen]
 unfold execOp
 simp only[ho,hx,hix,Option.map_some,Option.map_none]
 simp[e0]
theorem ex_slP {o:Oper} {a:Act} {w:World} {x ix:Operand} {b n cap p:Nat} (ho:o.op= .slice 52 x none (some ix) none) (hx:a.eval x= .slice (some ⟨b,0,none⟩) n cap) (hix:a.eval ix= .int .i64 (p:Nat)) (hp:p<=cap):(execOp a.eval o).run prog w= .ok (.value (.slice (some ⟨b,0,none⟩) p cap)) w:=by
 have e0:(Instr.sliceAt 52 (.slice (some ⟨b,0,none⟩) n cap) none (some (.int .i64 (p:Nat))) none).run prog w= .ok (.slice (some ⟨b,0,none⟩) p cap) w:=by
  rw[run_sliceAt_slice (h:=by kernel_rfl),run_slice_h (ht:=by kernel_rfl) (h0:=by omega) (h2:=by omega)]
  have e:(sizeOf (prog.elem 52)).run prog w= .ok 20 w:=by kernel_rfl
  rw[e]
  simp[sliced,Addr.add,Result.andThen]
 unfold execOp
 simp only[ho,hx,hix,Option.map_some,Option.map_none]
 simp[e0]
theorem askKeys (h:HP) (o:Int) (N:Nat) (w:World) (H:h.Is w) (G:h.Gd N) (hN:N<=90000) (hT:Tabs w):Calls prog 67 #[.pointer (some ⟨h.b,0,none⟩), .int .i64 o] w fun e w'=> ∃(h1:HP) (V:Value) (er:Value),e= .returned (.tuple #[V,er])/\AskP h N h1 er/\(∃A n c,V= .slice A n c)/\h.To h1 w w':=by
 refine(Uu h o N w H G hN hT).mono ?_
 rintro _ Y ⟨h1,V,er,rfl,(⟨h0,rfl,rfl,rfl⟩|⟨h0,j,q,rfl,hj,hD,hE⟩),T⟩
 ·exact⟨_,_,_,rfl,AskP.no G h0 (Pe _ _),⟨none,0,0,rfl⟩,T⟩
 ·exact⟨h1,_,_,rfl,AskP.low G hD.1 hE,hD.2,T⟩
structure AN where
 v:VV
 y:Bool
 d:DD
 kA:Option Addr
 kn:Nat
 kc:Nat
 o:Int
 f:Int
def Ay:AN:=⟨Av,false,Ak,none,0,0,0,0⟩
def Bj (n:AN):List Value:=n.v.cs++ [.bool n.y]++n.d.cs++ [.slice n.kA n.kn n.kc, .int .i64 n.o, .slice none 0 0]++Do n.f
theorem Ei (n:AN): ∀u∈Bj n,u.oneCell'=true:=by simp[Bj,Do,VV.cs,DD.cs,Value.oneCell']
def Jc (M o T:Int) (k:KK) (v r:VV) (d:DD) (a:Value):List Value:= [.int .i64 M, .int .i64 o, .int .i64 T]++k.cs++v.cs++r.cs++d.cs++ [a]
def Ym (h:HP) (N:Nat) (M:Int) (k:KK) (v r:VV) (w:World) (e:Ending) (w':World):Prop:= ∃(h1:HP) (n:AN) (er:Value),e= .returned (.agg (Bj n).toArray)/\n.f=Bu er/\AskP h N h1 er/\(M=9->SetQ h r k v h1 n.y)/\h.To h1 w w'
def v7:VV:={Av with i:=7}
theorem Eo:(prog.info? 36).map (fun i=>(i.zero,i.size,i.bytes))=some (some (.agg Av.cs.toArray),5,48):=by kernel_rfl
theorem Dr (l:List VV): ∀u∈l.flatMap VV.cs,u.oneCell'=true:=by
 intro u hu
 obtain⟨v, -,h⟩:=List.mem_flatMap.1 hu
 exact Ek v u h
theorem Ml {o:Oper} {a:Act} {w:World} (ho:o.op= .build 36 #[(4, .const (.int .i64 7))]):(execOp a.eval o).run prog w= .ok (.value (.agg v7.cs.toArray)) w:=by
 have e:(Instr.build 36 #[(4, .int .i64 7)]).run prog w= .ok (.agg v7.cs.toArray) w:=by kernel_rfl
 unfold execOp
 simp only[ho,List.map_toArray,List.map_cons,List.map_nil,show a.eval (.const (.int .i64 7))= .int .i64 7 from rfl]
 simp[e]
theorem Lv {X:World} {base e:Nat} {A:Option Addr} {c:Nat} {l:List VV} {v:VV} (h:X.ownsRow base e 5 (.slice A (l.length+1) c) (l.length+1) (l.flatMap VV.cs++ [v].flatMap VV.cs)):Gt X A (l++ [v]):=Oc (f:=VV.cs) (fun _=>rfl) (by rw[List.flatMap_append];exact h) (by simp)
theorem Ko {X:World} {base e:Nat} {A:Option Addr} {c:Nat} {n:Nat} {ys:List Value} (h:X.ownsRow base e 5 (.slice A (n+1) c) (n+1) ys): ∃g,A=some ⟨g,0,none⟩/\n+1<=c:=by
 rcases h.2 with ⟨h1,h0⟩|⟨g,cap,cur,h1,h2,h3,h4,h5⟩
 ·omega
 ·cases h1
  exact⟨g,rfl,h4⟩
theorem Jt {X:World} {base e g:Nat} {c:Nat} {l:List VV} {v:VV} (h:X.ownsRow base e 5 (.slice (some ⟨g,0,none⟩) (l.length+1) c) (l.length+1) (l.flatMap VV.cs++ [v].flatMap VV.cs)):X.rangeAt g (0+l.length * 5) v.cs:=by
 obtain⟨b,off,h1, -,h3⟩:=Lv h l.length v (by simp)
 cases h1
 exact h3
theorem Jv {o:Oper} {a:Act} {W:World} {x:Operand} {B p:Nat} {cs:List Value} {v:Value} (t:TypeId) (i:Nat) (hna: ∀w,(isAgg t).run prog w= .ok false w) (ho:o.op= .load t x) (hx:a.eval x= .pointer (some ⟨B,p+i,none⟩)) (hc:W.rangeAt B p cs) (hv:cs[i]? =some v):(execOp a.eval o).run prog W= .ok (.value v) W:=by
 have h0:=hc i v hv
 unfold execOp
 simp only[ho,hx]
 simp[go_sem,h0,hna]
section
variable {ops : Array Oper} {rest : List Oper} {Q : Exit → Act → World → Prop} {w w0 : World} {a : Act} {o : Oper} {E : List Nat} {L : List Ob}
theorem Yl {t e:TypeId} {size bytes m c base:Nat} {z v:Value} {news:List Value} {A:Option Addr} {s x:Operand} (i:Nat) (hw:Region.wanted o (yielded ops a.tmps)=true) (ho:o.op= .call {callee:= .builtin .append,args:= #[s,x],argTypes:= #[t,t]}) (hs:a.eval s=v) (hx:a.eval x= .slice A m c)
  (ht:prog.underlying t=some (.slice e)) (hi:(prog.info? e).map (fun i=>(i.zero,i.size,i.bytes))=some (some z,size,bytes)) (hz:z.cells.size=size) (hsz:0<size) (hL:Sy w0 w E L) (hi1:L[i]? =some (Ee base e size v 0 [])) (hA:A=none->m=0/\c=0) (hl:news.length=m * size)
  (hnews: ∀ad,A=some ad-> ∀j u,news[j]? =some u->w.cell? (ad.add j)=some u) (h1: ∀u∈news,u.oneCell'=true)
  (hn:m<=4000000) (hby:bytes<=10000) (hbase:base<=w.heap.size)
  (h: ∀A c X,Sy w0 X E (L.set i (Ee base e size (.slice A m c) m news))->wpList prog ops Q rest (a.put o.dst (.slice A m c)) X):wpList prog ops Q (o::rest) a w:=
 apA i hw ho hs hx ht hi hz hsz hL hi1 hA hl hnews h1 (by omega) hby hbase (fun A c X hS=>by simp only[Nat.zero_add,List.nil_append] at hS ⊢;exact h A c X hS)
end
