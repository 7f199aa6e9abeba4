import Derived.Test.YtieahhciibdnaaaGreatDoorRv
set_option linter.all false
namespace Go.Proofs.YtieahhciibdnaaaGreatDoor
set_option maxRecDepth 100000
set_option maxHeartbeats 0
section
open Go Go.Proofs Go.Maps Go.RowKit FM
attribute [local go_sem] Ak Ae Aq Dl Dk Bl Af Aj Ad Bj Et Es
def LI1 (w:World) (ns:List ByteArray) (rc:VV) (B5 B0 Bm i:Nat) (wr:World):Prop:= ∃(F:ByteArray->Option VV) (h:HP) (p:EX) (n:Nat),LV ns B0 F (5 * i+1) (100000 - 30 * i) h p/\n<=i/\Sy w wr [] [Ao B5 rc.cs,hpO h,Eb vR vD zeroV Bm n F]
def LI2 (w:World) (ns:List ByteArray) (rc:VV) (B5 B0 Bm n:Nat) (F:ByteArray->Option VV) (p:EX) (gz ck K1 i:Nat) (wr:World):Prop:= ∃h,LV ns B0 F (302+2 * i) (98194 - 12 * i) h p/\Sy w wr [] [Ao B5 rc.cs,hpO h,Eb vR vD zeroV Bm n F,Do 0 45 2 (.slice (some ⟨gz,0,none⟩) K1 ck) K1 (flatK (Ez p))]
def CutB (w:World) (ns:List ByteArray) (B0:Nat) (F:ByteArray->Option VV) (rc:VV) (B5 Bm n:Nat) (p:EX) (gz ck K1 i:Nat) (h3:HP) (x:BN) (s27 s28:Value) (wq:World):Prop:= ∃(h4:HP) (B:Nat),LV ns B0 F (302+2 * (i+1)) (98194 - 12 * ((i+1:Nat):Int)) h4 p/\s27= .pointer (some ⟨B,0,none⟩)/\s28= .nilIface/\Hid (Sy w wq [] [Ao B5 rc.cs,hpO h4,Eb vR vD zeroV Bm n F,Do 0 45 2 (.slice (some ⟨gz,0,none⟩) K1 ck) K1 (flatK (Ez p)),Ao B x.v.cs])
def CutR (w:World) (ns:List ByteArray) (B0:Nat) (F:ByteArray->Option VV) (rc:VV) (B5 Bm n:Nat) (p:EX) (gz ck K1 i:Nat) (h3:HP) (x:BN) (s27 s28:Value) (wq:World):Prop:= ∃B B9:Nat,s27= .pointer (some ⟨B,0,none⟩)/\s28= .iface 136 (.pointer (some ⟨B9,0,none⟩))/\Hid (Sy w wq [] [Ao B5 rc.cs,hpO h3.less,Eb vR vD zeroV Bm n F,Do 0 45 2 (.slice (some ⟨gz,0,none⟩) K1 ck) K1 (flatK (Ez p)),Ao B zeroV.cs,Ao B9 Gz])
section
variable {w : World} {ns : List ByteArray} {B0 : Nat} {F : ByteArray → Option VV} {rc : VV} {B5 Bm n : Nat} {p : EX} {gz ck K1 i : Nat} {h3 : HP} {x : BN} {s27 s28 : Value} {wq : World}
theorem CutB.mk (h4:HP) (B:Nat) (V:LV ns B0 F (302+2 * (i+1)) (98194 - 12 * ((i+1:Nat):Int)) h4 p) (e1:s27= .pointer (some ⟨B,0,none⟩)) (e2:s28= .nilIface) (S:Hid (Sy w wq [] [Ao B5 rc.cs,hpO h4,Eb vR vD zeroV Bm n F,Do 0 45 2 (.slice (some ⟨gz,0,none⟩) K1 ck) K1 (flatK (Ez p)),Ao B x.v.cs])):CutB w ns B0 F rc B5 Bm n p gz ck K1 i h3 x s27 s28 wq:=⟨h4,B,V,e1,e2,S⟩
theorem CutR.mk (B B9:Nat) (e1:s27= .pointer (some ⟨B,0,none⟩)) (e2:s28= .iface 136 (.pointer (some ⟨B9,0,none⟩))) (S:Hid (Sy w wq [] [Ao B5 rc.cs,hpO h3.less,Eb vR vD zeroV Bm n F,Do 0 45 2 (.slice (some ⟨gz,0,none⟩) K1 ck) K1 (flatK (Ez p)),Ao B zeroV.cs,Ao B9 Gz])):CutR w ns B0 F rc B5 Bm n p gz ck K1 i h3 x s27 s28 wq:=⟨B,B9,e1,e2,S⟩
end
def CutP (w:World) (B5:Nat) (wq:World):Prop:= ∃rc:VV,Aw [rc]=0/\Ap 1 [rc]=0/\Hid (Sy w wq [] [Ao B5 rc.cs])
theorem CutP.mk {w:World} {B5:Nat} {wq:World} (rc:VV) (h1:Aw [rc]=0) (h2:Ap 1 [rc]=0) (S:Hid (Sy w wq [] [Ao B5 rc.cs])):CutP w B5 wq:=⟨rc,h1,h2,S⟩
def CutQ (w:World) (r:VV) (B5:Nat) (s48:Value) (wq:World):Prop:= ∃bq:Bool,s48= .bool bq/\(bq=false->Aw [r]=0/\Ap 1 [r]=0)/\Hid (Sy w wq [] [Ao B5 r.cs])
theorem CutQ.mk {w:World} {r:VV} {B5:Nat} {s48:Value} {wq:World} (bq:Bool) (e:s48= .bool bq) (h:bq=false->Aw [r]=0/\Ap 1 [r]=0) (S:Hid (Sy w wq [] [Ao B5 r.cs])):CutQ w r B5 s48 wq:=⟨bq,e,h,S⟩
theorem LV.cmp {ns:List ByteArray} {B0 L:Nat} {F:ByteArray->Option VV} {fl:Int} {h:HP} {p:EX} (V:LV ns B0 F L fl h p) (hE:(∀s∈ns,gkN s=true)/\ns.Nodup) {a b:Nat} {x y:BN} (hx:p.l[a]? =some x) (hy:p.l[b]? =some y) (hab:a<b):cmI x.n y.n= -1/\cmE x.n y.n=0:=by
 have vx:=(Rk x.n (hE.1 x.n (V.nm.mem_iff.1 (List.mem_map.2 ⟨x,List.mem_of_getElem? hx,rfl⟩)))).1
 have vy:=(Rk y.n (hE.1 y.n (V.nm.mem_iff.1 (List.mem_map.2 ⟨y,List.mem_of_getElem? hy,rfl⟩)))).1
 have hnd:(p.l.map (·.n)).Nodup:=V.nm.nodup_iff.2 hE.2
 obtain⟨ha,hax⟩:=List.getElem?_eq_some_iff.1 hx
 obtain⟨hb,hby⟩:=List.getElem?_eq_some_iff.1 hy
 have hne:x.n≠y.n:=by
  have:=List.pairwise_iff_getElem.1 hnd a b (by rw[List.length_map];exact ha) (by rw[List.length_map];exact hb) hab
  simp only[List.getElem_map,hax,hby] at this
  exact this
 have ho:ZdQ x.n y.n=true:=by
  unfold ZdQ
  rw[vx,vy]
  rfl
 unfold cmI cmE
 rw[ho,if_pos rfl,if_pos rfl]
 refine⟨?_,rfl⟩
 have h1:=V.srt a b x y hab hx hy
 rcases M.cmpL_rng (unS x.n) (unS y.n) with h2|h2|h2
 ·exact h2
 ·exact absurd (un_inj vx vy ((M.cmpL_zero _ _).1 h2)) hne
 ·omega
theorem find_ix {p:EX} (W:p.Wf) {i:Nat} {x:BN} (h:p.l[i]? =some x):p.find x.n=some x:=by
 unfold EX.find
 rw[W.all i x h]
 exact h
theorem Rr {o:Oper} {a:Act} {w:World} {x y:Operand} {n:Int} {r:Bool} (ho:o.op= .binOp .gtr 3 x y 3) (hx:a.eval x= .int .i64 n) (hc:a.eval y= .int .i64 0) (h:decide ((0:Int)<n)=r):(execOp a.eval o).run Tryz.prog w= .ok (.value (.bool r)) w:=by
 unfold execOp
 simp only[ho,hx,hc]
 simp[go_sem,eqGuard,h]
theorem ex_lsI {o:Oper} {a:Act} {w:World} {x y:Operand} {n m:Nat} {r:Bool} (ho:o.op= .binOp .lss 3 x y 3) (hx:a.eval x= .int .i64 (n:Nat)) (hc:a.eval y= .int .i64 (m:Nat)) (h:decide ((n:Int)<(m:Int))=r):(execOp a.eval o).run Tryz.prog w= .ok (.value (.bool r)) w:=by
 unfold execOp
 simp only[ho,hx,hc]
 simp[go_sem,eqGuard]
 simpa using h
theorem ex_subI {o:Oper} {a:Act} {w:World} {x y:Operand} {n m:Nat} (ho:o.op= .binOp .sub 3 x y 3) (hx:a.eval x= .int .i64 (n:Nat)) (hy:a.eval y= .int .i64 1) (h:n=m+1) (hn:n<=100000):(execOp a.eval o).run Tryz.prog w= .ok (.value (.int .i64 (m:Nat))) w:=by
 have z:IntKind.i64.wrap ((n:Int) - 1)=(m:Int):=by rw[IntKind.wrap_i64];omega
 unfold execOp
 simp only[ho,hx,hy]
 simp[go_sem,eqGuard]
 simpa using z
