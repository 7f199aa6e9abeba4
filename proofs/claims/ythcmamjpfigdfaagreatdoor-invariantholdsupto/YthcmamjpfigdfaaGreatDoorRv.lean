import Derived.Test.YthcmamjpfigdfaaGreatDoorRr
import Derived.Test.YthcmamjpfigdfaaGreatDoorRs
set_option linter.all false
namespace Go.Proofs.YthcmamjpfigdfaaGreatDoor
set_option maxRecDepth 100000
set_option maxHeartbeats 0
section
open Go Go.Proofs Go.Maps Go.RowKit
section
attribute [local go_sem] Gt Lq
end
theorem kl_inj8 {k k':KK} (h:OkK k) (h':OkK k') (e:kl k=kl k'):k=k':=by
 obtain⟨h1,h2⟩:=Zga h.1 h.2 h'.1 h'.2 e
 exact KK.ext' h1 h2
theorem Zfj {k:KK} (h:OkK k):WideAt.IsKeyLit (kl k):=Zf9 h.1 h.2
end
section
open Go Go.Proofs Go.Maps Go.RowKit FM
def flatP8 (l:List PR):List Value:=l.flatMap PR.cs
theorem Zfq:(Tryz.prog.info? 80).map (fun i=>(i.zero,i.size,i.bytes))=some (some Es.agg,20,192):=by kernel_rfl
theorem inf28:(Tryz.prog.info? 85).map (fun i=>(i.zero,i.size,i.bytes))=some (some (Dr.agg none 0),8,88):=by kernel_rfl
section
variable {ops:Array Oper} {rest:List Oper} {Q:Exit->Act->World->Prop} {a:Act} {w:World} {o:Oper}
end
end
section
open Go Go.Proofs Go.Maps Go.RowKit FM Tryz
theorem Nh: ∃d,prog.underlying 40=some d/\d.isRow=true:=⟨_,underlying40,rfl⟩
theorem rwC: ∃d,prog.underlying 102=some d/\d.isRow=true:=⟨_,underlying102,rfl⟩
theorem szC:(prog.info? 102).map (·.size)=some 17:=by kernel_rfl
theorem rwR: ∃d,prog.underlying 106=some d/\d.isRow=true:=⟨_,underlying106,rfl⟩
theorem szR:(prog.info? 106).map (·.size)=some 2:=by kernel_rfl
theorem rwL: ∃d,prog.underlying 91=some d/\d.isRow=true:=⟨_,underlying91,rfl⟩
theorem szL:(prog.info? 91).map (·.size)=some 29:=by kernel_rfl
theorem szI:(prog.info? 3).map (·.size)=some 1:=by kernel_rfl
theorem szM:(prog.info? 178).map (·.size)=some 1:=by kernel_rfl
theorem szLs:(prog.info? 86).map (·.size)=some 1:=by kernel_rfl
theorem idLs (w:World):(sizeOf (prog.elem 86)).run prog w= .ok 29 w:=by kernel_rfl
theorem unLs:prog.underlying 86=some (.slice (prog.elem 86)):=by kernel_rfl
theorem Zgh (w:World):(sizeOf (prog.elem 99)).run prog w= .ok 2 w:=by kernel_rfl
theorem ZfO:prog.underlying 99=some (.slice (prog.elem 99)):=by kernel_rfl

def inR:Value->Option (DataW Unit×List MemPlace)
 | .int .i64 n=>some (.lit (.int .i64 n), [])
 |_=>none
theorem Zfr {v:Value} {n:Int} {ps:List MemPlace} (h:inR v=some (.lit (.int .i64 n),ps)):v= .int .i64 n:=by
 unfold inR at h
 split at h
 ·have e:=congrArg Prod.fst (Option.some.inj h)
  simp at e
  rw[e]
 ·cases h
def nz:Option Nat->Int
 |none=>0
 |some n=>(n:Int)
def MapI (w:World) (b n sz:Nat) (F:KK->Option Nat):Prop:=
 ∃D:DataW Unit,w.ownsMap prog 37 inR b n D/\Maps.size D=sz/\ ∀k,OkK k->D.atKey (kl k) (.lit (.int .i64 0))= .lit (.int .i64 (nz (F k)))/\Maps.has D (kl k)=(F k).isSome
theorem MapI.made (w:World):MapI (w.alloc (.map #[] 0)) w.heap.size 0 0 (fun _=>none):=
 ⟨_,World.ownsMap_made w _ _ _,rfl,fun k _=>⟨rfl,rfl⟩⟩
theorem MapI.lt {w:World} {b n sz:Nat} {F:KK->Option Nat} (h:MapI w b n sz F):b<w.heap.size:=by
 obtain⟨D,h, -⟩:=h
 exact h.lt
theorem MapI.block {w w':World} {b n sz:Nat} {F:KK->Option Nat} (h:MapI w b n sz F) (he:w'.heap[b]? =w.heap[b]?):MapI w' b n sz F:=by
 obtain⟨D,⟨es,clock,hb,Ft,hs,hD⟩,h2,h3⟩:=h
 exact⟨D,⟨es,clock,he.trans hb,Ft,hs,hD⟩,h2,h3⟩
theorem MapI.on {w w':World} {b n sz:Nat} {F:KK->Option Nat} (h:MapI w b n sz F) (he:Below w.heap.size w w'):MapI w' b n sz F:=h.block (he.block b h.lt)
theorem MapI.far {w w':World} {b n sz g:Nat} {F:KK->Option Nat} (h:MapI w b n sz F) (he:Fr w w' [g]) (hg:b≠g):MapI w' b n sz F:=h.block (he.block b h.lt (by simpa using hg))
theorem MapI.congr {w:World} {b n sz sz':Nat} {F G:KK->Option Nat} (h:MapI w b n sz F) (hs:sz=sz') (hK: ∀k,F k=G k):MapI w b n sz' G:=by
 obtain⟨D,h1,h2,h3⟩:=h
 exact⟨D,h1,h2.trans hs,fun k hk=>by rw[←hK k];exact h3 k hk⟩
theorem zeroI (w:World):(zeroValue 3).run prog w= .ok (.int .i64 0) w:=by kernel_rfl
theorem MapI.look {w:World} {b n sz:Nat} {F:KK->Option Nat} (h:MapI w b n sz F) {k:KK} (hk:OkK k):
  (Instr.lookup 178 (.map (some b)) k.agg true).run prog w= .ok (.tuple #[.int .i64 (nz (F k)), .bool (F k).isSome]) w:=by
 obtain⟨D,h,h2,h3⟩:=h
 obtain⟨v,ps,hrun,hv⟩:=h.look_ok ZbE underlying178 (zeroI w) (show inR (.int .i64 0)=some (.lit (.int .i64 0), []) from rfl) (Zcn hk)
 obtain⟨h4,h5⟩:=h3 k hk
 have hv':inR v=some (.lit (.int .i64 (nz (F k))),ps):=by rw[←h4];exact hv
 rw[hrun,h5,Zfr hv']
theorem MapI.look1 {w:World} {b n sz:Nat} {F:KK->Option Nat} (h:MapI w b n sz F) {k:KK} (hk:OkK k):
  (Instr.lookup 178 (.map (some b)) k.agg false).run prog w= .ok (.int .i64 (nz (F k))) w:=by
 obtain⟨D,h,h2,h3⟩:=h
 obtain⟨v,ps,hrun,hv⟩:=h.lookup ZbE underlying178 (zeroI w) (show inR (.int .i64 0)=some (.lit (.int .i64 0), []) from rfl) (Zcn hk)
 obtain⟨h4,h5⟩:=h3 k hk
 have hv':inR v=some (.lit (.int .i64 (nz (F k))),ps):=by rw[←h4];exact hv
 rw[hrun,Zfr hv']
theorem MapI.len {w:World} {b n sz:Nat} {F:KK->Option Nat} (h:MapI w b n sz F) (ty:TypeId):(Builtin.len_ #[178] ty #[.map (some b)]).run prog w= .ok (.int .i64 sz) w:=by
 obtain⟨D,h,h2,h3⟩:=h
 rw[h.len underlying178 ty,h2]
def Zby (F:KK->Option Nat) (k:KK) (r:Nat):KK->Option Nat:=fun q=>if q=k then some r else F q
theorem MapI.store {w:World} {b n sz:Nat} {F:KK->Option Nat} (h:MapI w b n sz F) {k:KK} (hk:OkK k) (hn:n<maxLen) (r:Nat):
  ∃w',(Instr.mapUpdate 178 (.map (some b)) k.agg (.int .i64 (r:Nat))).run prog w= .ok () w'/\MapI w' b (n+1) (if (F k).isSome then sz else sz+1) (Zby F k r)/\w.mapTurned w' b:=by
 obtain⟨D,h,h2,h3⟩:=h
 obtain⟨w',hrun,ho,ht⟩:=h.store ZbE underlying178 hn (Zcn hk) (show inR (.int .i64 (r:Nat))=some (.lit (.int .i64 (r:Nat)), []) from rfl)
 have ti:=h.tidy ZbE
 refine⟨w',hrun,⟨_,ho, ?_,fun q hq=> ?_⟩,ht⟩
 ·rw[size_put ti,(h3 k hk).2,h2]
 ·by_cases e:q=k
  ·subst e
   rw[atKey_put_same ti.isMap (Zfj hk),has_put_same ti.isMap (Zfj hk),Zby,if_pos rfl]
   exact⟨rfl,rfl⟩
  ·have ne:kl q≠kl k:=fun e'=>e (kl_inj8 hq hk e')
   rw[atKey_put_other ne,has_put_other ne,Zby,if_neg e]
   exact h3 q hq
section
variable {ops:Array Oper} {rest:List Oper} {Q:Exit->Act->World->Prop} {w w0:World} {a:Act} {o:Oper} {E:List Nat} {L:List (Nat×List Value)}
theorem mmI {x:Operand} {n:Int} (hw:Region.wanted o (yielded ops a.tmps)=true) (ho:o.op= .makeMap 178 (some x)) (hx:a.eval x= .int .i64 n) (hL:Hq w0 w E L)
  (h: ∀X B,B=w.heap.size->Hq w0 X E L->MapI X B 0 0 (fun _=>none)->Below w.heap.size w X->wpList prog ops Q rest (a.put o.dst (.map (some B))) X):wpList prog ops Q (o::rest) a w:=by
 refine BigFrame.wpList_want hw fun K hK=> ?_
 have bl:Below w.heap.size w (w.alloc (Obj.map #[] 0)):=(Below.refl _ _).alloc (Nat.le_refl _) _
 have hP:=hK _ _ (h _ _ rfl (hL.on bl) (MapI.made w) bl)
 have e:(Instr.makeMap 178 (some (.int .i64 n))).run prog w= .ok (.map (some w.heap.size)) (w.alloc (.map #[] 0)):=by
  simp[Instr.makeMap,run_underlying underlying178,asInt,asIntOf,Result.andThen]
 unfold Oper.wp execOp
 simp only[ho,Option.map_some,hx]
 simp[e]
 exact hP
theorem updI {m x y:Operand} {b n sz r:Nat} {F:KK->Option Nat} {k:KK} (hw:Region.wanted o (yielded ops a.tmps)=true) (ho:o.op= .mapUpdate 178 m x y) (hm:a.eval m= .map (some b)) (hx:a.eval x=k.agg) (hy:a.eval y= .int .i64 (r:Nat)) (h:MapI w b n sz F) (hk:OkK k) (hn:n<maxLen)
  (hh: ∀X,MapI X b (n+1) (if (F k).isSome then sz else sz+1) (Zby F k r)->Fr w X [b]->wpList prog ops Q rest (a.put o.dst undef) X):wpList prog ops Q (o::rest) a w:=by
 obtain⟨X,h1,h2,h3⟩:=h.store hk hn r
 refine BigFrame.wpList_want hw fun K hK=> ?_
 have hP:=hK _ _ (hh X h2 (Fr.grown h3.grown))
 unfold Oper.wp
 have e:(execOp a.eval o).run prog w= .ok .skip X:=by
  unfold execOp
  simp only[ho,hm,hx,hy]
  simp[h1]
 rw[e]
 exact hP
theorem Nw {m x:Operand} {b n sz:Nat} {F:KK->Option Nat} {k:KK} {r:Option Nat} (ho:o.op= .lookup 178 m x true) (hm:a.eval m= .map (some b)) (hx:a.eval x=k.agg) (h:MapI w b n sz F) (hk:OkK k) (hr:F k=r):(execOp a.eval o).run prog w= .ok (.value (.tuple #[.int .i64 (nz r), .bool r.isSome])) w:=by
 subst hr
 unfold execOp
 simp only[ho,hm,hx]
 simp[h.look hk]
theorem Qf {m x:Operand} {b n sz:Nat} {F:KK->Option Nat} {k:KK} {r:Option Nat} (ho:o.op= .lookup 178 m x false) (hm:a.eval m= .map (some b)) (hx:a.eval x=k.agg) (h:MapI w b n sz F) (hk:OkK k) (hr:F k=r):(execOp a.eval o).run prog w= .ok (.value (.int .i64 (nz r))) w:=by
 subst hr
 unfold execOp
 simp only[ho,hm,hx]
 simp[h.look1 hk]
theorem ex_lenI {m:Operand} {b n sz:Nat} {F:KK->Option Nat} (ho:o.op= .call {callee:= .builtin .len,args:= #[m],argTypes:= #[178]}) (hm:a.eval m= .map (some b)) (h:MapI w b n sz F):(execOp a.eval o).run prog w= .ok (.value (.int .i64 (sz:Nat))) w:=by
 have e:=h.len o.type
 simp[execOp,ho,resolve,invoke,builtin,hm,e,Result.andThen]
end
structure CO where
 was:SH
 wA:Option Addr
 wc:Nat
 is:SH
 iA:Option Addr
 ic:Nat
 gone:Bool
def CO.cs (c:CO):List Value:=c.was.cs c.wA c.wc++c.is.cs c.iA c.ic++ [.bool c.gone]
def CO.agg (c:CO):Value:= .agg c.cs.toArray
theorem Za1 (c:CO): ∀u∈c.cs,u.oneCell'=true:=by simp[CO.cs,SH.cs,VV.cs,Value.oneCell']
structure DL where
 o:Int
 wh:Int
 n:Int
 y:Bool
 v:VV
 k:KK
 d:DD
def DL.cs (c:DL):List Value:= [.int .i64 c.o, .int .i64 c.wh, .int .i64 c.n, .bool c.y]++c.v.cs++c.k.cs++c.d.cs
def DL.agg (c:DL):Value:= .agg c.cs.toArray
theorem ZaX (c:DL): ∀u∈c.cs,u.oneCell'=true:=by simp[DL.cs,KK.cs,DD.cs,VV.cs,Value.oneCell']
theorem Zao (p:PR):p.agg= .agg p.cs.toArray:=rfl
theorem sagg (p:SH) (A:Option Addr) (c:Nat):p.agg A c= .agg (p.cs A c).toArray:=rfl
end
section
open Go Go.Proofs Go.Maps Go.RowKit FM Tryz
attribute [local go_sem] Gt
theorem Zfe (x:Nat) (w:World):Calls prog 164 #[.float .f64 x] w fun e w'=>e= .returned (VV.agg ⟨4,false,x,ByteArray.empty,0⟩)/\Below w.heap.size w w':=by
 have LL:=Ab (Hq.nil w [])
 have HO:=Ab (outside4 x)
 rw[Rq] at HO
 rw[Rq]
 generalize hv:VV.mk 4 false x ByteArray.empty 0=v at *
 go_enter func164,ntmps164
 go_wp2_with (first|go_skip|((with_reducible show wpList ..);((refine alG 40 (Aq.cs) rfl (fun w=>by kernel_rfl) (Aa LL) ?_);intro X1 B1 hE1 L1 hb1;have hB1:=Ab (Nat.le_trans (Aa LL).fr.size (Nat.le_of_eq hE1.symm));replace LL:=Ab L1;clear L1 hb1 hE1;simp only[nn])))
 refine(Aa HO _).mono ?_
 rintro e w' ⟨rfl,hb⟩
 replace LL:=Ab ((Aa LL).on hb)
 clear hb
 go_wp2_with (first|go_skip|((with_reducible show wpList ..);((refine st (vs:=v.cs) 0 40 (by rfl) rfl rfl rfl rfl (Uu v) (szV) (Aa LL) rfl (by simp[Bt,PR.cs,SH.cs,VV.cs,KK.cs,DD.cs,CO.cs,DL.cs,Es,Dr,zeroD,Aq]) (Or.inr (Aa hB1)) ?_);intro X2 L2 hf2 hs2;replace LL:=Ab L2;clear L2 hf2 hs2;simp only[nn])))
 refine Lt (cs:=v.cs) Nh szV rfl rfl rfl ((Aa LL).get 0 rfl) rfl ?_
 exact⟨rfl,(Aa LL).fr.below⟩
theorem Zdg (x:Nat):VV.good ⟨4,false,x,ByteArray.empty,0⟩=true:=by
 have e:ByteArray.empty.toList.isEmpty=true:=by kernel_rfl
 simp[VV.good,Ml,inG,Zbc,e]
theorem num_same (x y:Nat):okE (VV.good ⟨4,false,x,ByteArray.empty,0⟩ && VV.good ⟨4,false,y,ByteArray.empty,0⟩) (Eb Ew ⟨4,false,x,ByteArray.empty,0⟩ ⟨4,false,y,ByteArray.empty,0⟩)= .tuple #[.bool (Ew x y), .int .i64 0]:=by
 rw[Zdg,Zdg]
 simp[okE,Eb,Za]
theorem Zaf (x y:Nat) (w:World) (hT:Lib.Utf8Tabs 1 2 w):Calls prog 145 #[.float .f64 x, .float .f64 y] w fun e w'=>e= .returned (.bool (Ew x y))/\Below w.heap.size w w':=by
 have HT:=Ab hT
 clear hT
 have HS:=Ab (fun w hT=>Rp ⟨4,false,x,ByteArray.empty,0⟩ ⟨4,false,y,ByteArray.empty,0⟩ w hT)
 simp only[num_same] at HS
 have HX:=Ab (Zfe x)
 have HY:=Ab (Zfe y)
 generalize VV.agg ⟨4,false,x,ByteArray.empty,0⟩=vx at *
 generalize VV.agg ⟨4,false,y,ByteArray.empty,0⟩=vy at *
 generalize Ew x y=r at *
 go_enter func145,ntmps145
 go_wp2_with fail
 refine(Aa HX _).mono ?_
 rintro e w1 ⟨rfl,hb1⟩
 have HB:=Ab hb1
 clear hb1
 go_wp2_with fail
 refine(Aa HY _).mono ?_
 rintro e w2 ⟨rfl,hb2⟩
 replace HB:=Ab ((Aa HB).trans (hb2.mono (Aa HB).size))
 clear hb2
 go_wp2_with fail
 refine(Aa HS _ (Ao (Aa HT) (Aa HB))).mono ?_
 rintro e w3 ⟨rfl,hb3⟩
 replace HB:=Ab ((Aa HB).trans (hb3.mono (Aa HB).size))
 clear hb3
 go_wp2
 go_ret
 exact⟨rfl,Aa HB⟩
theorem Gz {o:Oper} {a:Act} {w:World} {x y:Operand} {n m:Int} {r:Bool} (ho:o.op= .binOp .eql 3 x y 3) (hx:a.eval x= .int .i64 n) (hc:a.eval y= .int .i64 m) (h:(n==m)=r):(execOp a.eval o).run prog w= .ok (.value (.bool r)) w:=by
 unfold execOp
 simp only[ho,hx,hc]
 simp[go_sem,eqGuard,h]
theorem ZcD {o:Oper} {a:Act} {w:World} {x y:Operand} {n m r:Bool} (ho:o.op= .binOp .eql 4 x y 4) (hx:a.eval x= .bool n) (hc:a.eval y= .bool m) (h:(n==m)=r):(execOp a.eval o).run prog w= .ok (.value (.bool r)) w:=by
 unfold execOp
 simp only[ho,hx,hc]
 simp[go_sem,eqGuard,h]
theorem ex_eqS {o:Oper} {a:Act} {w:World} {x y:Operand} {n m:ByteArray} {r:Bool} (ho:o.op= .binOp .eql 9 x y 9) (hx:a.eval x= .string n) (hc:a.eval y= .string m) (h:decide (n.toList=m.toList)=r):(execOp a.eval o).run prog w= .ok (.value (.bool r)) w:=by
 have h2:(n.toList==m.toList)=r:=by rw[←h];by_cases e:n.toList=m.toList<;>simp[e]
 unfold execOp
 simp only[ho,hx,hc]
 simp[go_sem,eqGuard,h2]
theorem Jw (a b:VV) (w:World) (hT:Lib.Utf8Tabs 1 2 w):Calls prog 112 #[a.agg,b.agg] w fun e w'=>e= .returned (.bool (eqB a b))/\Below w.heap.size w w':=by
 obtain⟨k,c,x,s,i⟩:=a
 obtain⟨k2,c2,x2,s2,i2⟩:=b
 unfold eqB
 dsimp only at *
 have e1:(decide (x=x2)||isN x && isN x2)=Ew x x2:=by unfold Ew;rw[Bool.or_comm]
 rw[e1]
 clear e1
 have HS:=Ab (Zaf x x2)
 have HT:=Ab hT
 generalize Ew x x2=q at *
 have LL:=Ab (Hq.nil w [])
 clear hT
 rw[Rq,Rq]
 generalize hk:(k==k2)=ek
 generalize hc:(c==c2)=ec
 generalize hs:decide (s.toList=s2.toList)=es
 generalize hi:(i==i2)=ei
 cases ek
 ·go_enter func112,ntmps112
  go_wp2_with (first|go_skip|((with_reducible show wpList ..);first|((refine bx 40 (VV.cs ⟨k,c,x,s,i⟩) (by rfl) rfl rfl rfl (Nat.succ_pos _) (Aa LL) ?_);intro X1 B1 hE1 L1 hb1;have hB1:=Ab (Nat.le_trans (Aa LL).fr.size (Nat.le_of_eq hE1.symm));replace LL:=Ab L1;clear L1 hb1 hE1;simp only[nn])|((refine bx 40 (VV.cs ⟨k2,c2,x2,s2,i2⟩) (by rfl) rfl rfl rfl (Nat.succ_pos _) (Aa LL) ?_);intro X2 B2 hE2 L2 hb2;have hB2:=Ab (Nat.le_trans (Aa LL).fr.size (Nat.le_of_eq hE2.symm));replace LL:=Ab L2;clear L2 hb2 hE2;simp only[nn])|(refine rd rfl (Ad 3 isAgg3 rfl rfl ((Aa LL).get 0 rfl) rfl) ?_)|(refine rd rfl (Ad 3 isAgg3 rfl rfl ((Aa LL).get 1 rfl) rfl) ?_)|(refine rd rfl (Gz rfl rfl rfl hk) ?_)))
  go_ret
  exact⟨by simp,(Aa LL).fr.below⟩
 ·cases ec
  ·go_enter func112,ntmps112
   go_wp2_with (first|go_skip|((with_reducible show wpList ..);first|((refine bx 40 (VV.cs ⟨k,c,x,s,i⟩) (by rfl) rfl rfl rfl (Nat.succ_pos _) (Aa LL) ?_);intro X1 B1 hE1 L1 hb1;have hB1:=Ab (Nat.le_trans (Aa LL).fr.size (Nat.le_of_eq hE1.symm));replace LL:=Ab L1;clear L1 hb1 hE1;simp only[nn])|((refine bx 40 (VV.cs ⟨k2,c2,x2,s2,i2⟩) (by rfl) rfl rfl rfl (Nat.succ_pos _) (Aa LL) ?_);intro X2 B2 hE2 L2 hb2;have hB2:=Ab (Nat.le_trans (Aa LL).fr.size (Nat.le_of_eq hE2.symm));replace LL:=Ab L2;clear L2 hb2 hE2;simp only[nn])|(refine rd rfl (Ad 3 isAgg3 rfl rfl ((Aa LL).get 0 rfl) rfl) ?_)|(refine rd rfl (Ad 3 isAgg3 rfl rfl ((Aa LL).get 1 rfl) rfl) ?_)|(refine rd rfl (Ad 4 isAgg4 rfl rfl ((Aa LL).get 0 rfl) rfl) ?_)|(refine rd rfl (Ad 4 isAgg4 rfl rfl ((Aa LL).get 1 rfl) rfl) ?_)|(refine rd rfl (Gz rfl rfl rfl hk) ?_)|(refine rd rfl (ZcD rfl rfl rfl hc) ?_)))
   go_ret
   exact⟨by simp,(Aa LL).fr.below⟩
  ·cases ei
   ·go_enter func112,ntmps112
    go_wp2_with (first|go_skip|((with_reducible show wpList ..);first|((refine bx 40 (VV.cs ⟨k,c,x,s,i⟩) (by rfl) rfl rfl rfl (Nat.succ_pos _) (Aa LL) ?_);intro X1 B1 hE1 L1 hb1;have hB1:=Ab (Nat.le_trans (Aa LL).fr.size (Nat.le_of_eq hE1.symm));replace LL:=Ab L1;clear L1 hb1 hE1;simp only[nn])|((refine bx 40 (VV.cs ⟨k2,c2,x2,s2,i2⟩) (by rfl) rfl rfl rfl (Nat.succ_pos _) (Aa LL) ?_);intro X2 B2 hE2 L2 hb2;have hB2:=Ab (Nat.le_trans (Aa LL).fr.size (Nat.le_of_eq hE2.symm));replace LL:=Ab L2;clear L2 hb2 hE2;simp only[nn])|(refine rd rfl (Ad 3 isAgg3 rfl rfl ((Aa LL).get 0 rfl) rfl) ?_)|(refine rd rfl (Ad 3 isAgg3 rfl rfl ((Aa LL).get 1 rfl) rfl) ?_)|(refine rd rfl (Ad 4 isAgg4 rfl rfl ((Aa LL).get 0 rfl) rfl) ?_)|(refine rd rfl (Ad 4 isAgg4 rfl rfl ((Aa LL).get 1 rfl) rfl) ?_)|(refine rd rfl (Gz rfl rfl rfl hk) ?_)|(refine rd rfl (Gz rfl rfl rfl hi) ?_)|(refine rd rfl (ZcD rfl rfl rfl hc) ?_)))
    go_ret
    exact⟨by simp,(Aa LL).fr.below⟩
   ·cases es
    ·go_enter func112,ntmps112
     go_wp2_with (first|go_skip|((with_reducible show wpList ..);first|((refine bx 40 (VV.cs ⟨k,c,x,s,i⟩) (by rfl) rfl rfl rfl (Nat.succ_pos _) (Aa LL) ?_);intro X1 B1 hE1 L1 hb1;have hB1:=Ab (Nat.le_trans (Aa LL).fr.size (Nat.le_of_eq hE1.symm));replace LL:=Ab L1;clear L1 hb1 hE1;simp only[nn])|((refine bx 40 (VV.cs ⟨k2,c2,x2,s2,i2⟩) (by rfl) rfl rfl rfl (Nat.succ_pos _) (Aa LL) ?_);intro X2 B2 hE2 L2 hb2;have hB2:=Ab (Nat.le_trans (Aa LL).fr.size (Nat.le_of_eq hE2.symm));replace LL:=Ab L2;clear L2 hb2 hE2;simp only[nn])|(refine rd rfl (Ad 3 isAgg3 rfl rfl ((Aa LL).get 0 rfl) rfl) ?_)|(refine rd rfl (Ad 3 isAgg3 rfl rfl ((Aa LL).get 1 rfl) rfl) ?_)|(refine rd rfl (Ad 4 isAgg4 rfl rfl ((Aa LL).get 0 rfl) rfl) ?_)|(refine rd rfl (Ad 4 isAgg4 rfl rfl ((Aa LL).get 1 rfl) rfl) ?_)|(refine rd rfl (Ad 9 isAgg9 rfl rfl ((Aa LL).get 0 rfl) rfl) ?_)|(refine rd rfl (Ad 9 isAgg9 rfl rfl ((Aa LL).get 1 rfl) rfl) ?_)|(refine rd rfl (Gz rfl rfl rfl hk) ?_)|(refine rd rfl (Gz rfl rfl rfl hi) ?_)|(refine rd rfl (ZcD rfl rfl rfl hc) ?_)|(refine rd rfl (ex_eqS rfl rfl rfl hs) ?_)))
     go_ret
     exact⟨by simp,(Aa LL).fr.below⟩
    ·go_enter func112,ntmps112
     go_wp2_with (first|go_skip|((with_reducible show wpList ..);first|((refine bx 40 (VV.cs ⟨k,c,x,s,i⟩) (by rfl) rfl rfl rfl (Nat.succ_pos _) (Aa LL) ?_);intro X1 B1 hE1 L1 hb1;have hB1:=Ab (Nat.le_trans (Aa LL).fr.size (Nat.le_of_eq hE1.symm));replace LL:=Ab L1;clear L1 hb1 hE1;simp only[nn])|((refine bx 40 (VV.cs ⟨k2,c2,x2,s2,i2⟩) (by rfl) rfl rfl rfl (Nat.succ_pos _) (Aa LL) ?_);intro X2 B2 hE2 L2 hb2;have hB2:=Ab (Nat.le_trans (Aa LL).fr.size (Nat.le_of_eq hE2.symm));replace LL:=Ab L2;clear L2 hb2 hE2;simp only[nn])|(refine rd rfl (Ad 3 isAgg3 rfl rfl ((Aa LL).get 0 rfl) rfl) ?_)|(refine rd rfl (Ad 3 isAgg3 rfl rfl ((Aa LL).get 1 rfl) rfl) ?_)|(refine rd rfl (Ad 4 isAgg4 rfl rfl ((Aa LL).get 0 rfl) rfl) ?_)|(refine rd rfl (Ad 4 isAgg4 rfl rfl ((Aa LL).get 1 rfl) rfl) ?_)|(refine rd rfl (Ad 9 isAgg9 rfl rfl ((Aa LL).get 0 rfl) rfl) ?_)|(refine rd rfl (Ad 9 isAgg9 rfl rfl ((Aa LL).get 1 rfl) rfl) ?_)|(refine rd rfl (Ad 38 isAgg38 rfl rfl ((Aa LL).get 0 rfl) rfl) ?_)|(refine rd rfl (Ad 38 isAgg38 rfl rfl ((Aa LL).get 1 rfl) rfl) ?_)|(refine rd rfl (Gz rfl rfl rfl hk) ?_)|(refine rd rfl (Gz rfl rfl rfl hi) ?_)|(refine rd rfl (ZcD rfl rfl rfl hc) ?_)|(refine rd rfl (ex_eqS rfl rfl rfl hs) ?_)))
     refine(Aa HS _ (Ao (Aa HT) (Aa LL).fr.below)).mono ?_
     rintro e w' ⟨rfl,hb⟩
     replace LL:=Ab ((Aa LL).on hb)
     clear hb
     go_wp2_with (go_skip)
     go_ret
     exact⟨by simp,(Aa LL).fr.below⟩
end
section
open Go Go.Proofs Go.Maps Go.RowKit FM Tryz
def Zgr (a b:DD):Bool:=eqB a.v b.v && eqB a.g b.g && eqB a.s b.s && a.w==b.w && a.e==b.e && a.c==b.c
theorem Ow {o:Oper} {a:Act} {w:World} {x y:Operand} {n m:Int} {r:Bool} (ho:o.op= .binOp .eql 41 x y 41) (hx:a.eval x= .int .i64 n) (hc:a.eval y= .int .i64 m) (h:(n==m)=r):(execOp a.eval o).run prog w= .ok (.value (.bool r)) w:=by
 unfold execOp
 simp only[ho,hx,hc]
 simp[go_sem,eqGuard,h]
theorem Zb8 (a b:DD) (w:World) (hT:Lib.Utf8Tabs 1 2 w):Calls prog 148 #[a.agg,b.agg] w fun e w'=>e= .returned (.bool (Zgr a b))/\Below w.heap.size w w':=by
 have HV:=Ab (Jw a.v b.v)
 have HG:=Ab (Jw a.g b.g)
 have HS:=Ab (Jw a.s b.s)
 have HT:=Ab hT
 clear hT
 have LL:=Ab (Hq.nil w [])
 unfold Zgr
 generalize eqB a.v b.v=ev at *
 generalize eqB a.g b.g=eg at *
 generalize eqB a.s b.s=es at *
 generalize hqw:(a.w==b.w)=ew
 generalize hqe:(a.e==b.e)=ee
 generalize hqc:(a.c==b.c)=ec
 rw[ZaZ,ZaZ]
 simp only[Rq] at HV HG HS
 cases ew
 ·go_enter func148,ntmps148
  go_wp2_with (first|go_skip|((with_reducible show wpList ..);first|((refine bx 43 (a.cs) (by rfl) rfl rfl rfl (Nat.succ_pos _) (Aa LL) ?_);intro X1 B1 hE1 L1 hb1;have hB1:=Ab (Nat.le_trans (Aa LL).fr.size (Nat.le_of_eq hE1.symm));replace LL:=Ab L1;clear L1 hb1 hE1;simp only[nn])|((refine bx 43 (b.cs) (by rfl) rfl rfl rfl (Nat.succ_pos _) (Aa LL) ?_);intro X2 B2 hE2 L2 hb2;have hB2:=Ab (Nat.le_trans (Aa LL).fr.size (Nat.le_of_eq hE2.symm));replace LL:=Ab L2;clear L2 hb2 hE2;simp only[nn])|(refine rd rfl (Ad 41 isAgg41 rfl rfl ((Aa LL).get 0 rfl) rfl) ?_)|(refine rd rfl (Ad 41 isAgg41 rfl rfl ((Aa LL).get 1 rfl) rfl) ?_)|(refine rd rfl (Ow rfl rfl rfl hqw) ?_)))
  go_ret
  exact⟨by simp,(Aa LL).fr.below⟩
 ·cases ee
  ·go_enter func148,ntmps148
   go_wp2_with (first|go_skip|((with_reducible show wpList ..);first|((refine bx 43 (a.cs) (by rfl) rfl rfl rfl (Nat.succ_pos _) (Aa LL) ?_);intro X1 B1 hE1 L1 hb1;have hB1:=Ab (Nat.le_trans (Aa LL).fr.size (Nat.le_of_eq hE1.symm));replace LL:=Ab L1;clear L1 hb1 hE1;simp only[nn])|((refine bx 43 (b.cs) (by rfl) rfl rfl rfl (Nat.succ_pos _) (Aa LL) ?_);intro X2 B2 hE2 L2 hb2;have hB2:=Ab (Nat.le_trans (Aa LL).fr.size (Nat.le_of_eq hE2.symm));replace LL:=Ab L2;clear L2 hb2 hE2;simp only[nn])|(refine rd rfl (Ad 41 isAgg41 rfl rfl ((Aa LL).get 0 rfl) rfl) ?_)|(refine rd rfl (Ad 41 isAgg41 rfl rfl ((Aa LL).get 1 rfl) rfl) ?_)|(refine rd rfl (Ow rfl rfl rfl hqw) ?_)|(refine rd rfl (Ow rfl rfl rfl hqe) ?_)))
   go_ret
   exact⟨by simp,(Aa LL).fr.below⟩
  ·cases ec
   ·go_enter func148,ntmps148
    go_wp2_with (first|go_skip|((with_reducible show wpList ..);first|((refine bx 43 (a.cs) (by rfl) rfl rfl rfl (Nat.succ_pos _) (Aa LL) ?_);intro X1 B1 hE1 L1 hb1;have hB1:=Ab (Nat.le_trans (Aa LL).fr.size (Nat.le_of_eq hE1.symm));replace LL:=Ab L1;clear L1 hb1 hE1;simp only[nn])|((refine bx 43 (b.cs) (by rfl) rfl rfl rfl (Nat.succ_pos _) (Aa LL) ?_);intro X2 B2 hE2 L2 hb2;have hB2:=Ab (Nat.le_trans (Aa LL).fr.size (Nat.le_of_eq hE2.symm));replace LL:=Ab L2;clear L2 hb2 hE2;simp only[nn])|(refine rd rfl (Ad 41 isAgg41 rfl rfl ((Aa LL).get 0 rfl) rfl) ?_)|(refine rd rfl (Ad 41 isAgg41 rfl rfl ((Aa LL).get 1 rfl) rfl) ?_)|(refine rd rfl (Ow rfl rfl rfl hqw) ?_)|(refine rd rfl (Ow rfl rfl rfl hqe) ?_)|(refine rd rfl (Ow rfl rfl rfl hqc) ?_)))
    go_ret
    exact⟨by simp,(Aa LL).fr.below⟩
   ·go_enter func148,ntmps148
    go_wp2_with (first|go_skip|((with_reducible show wpList ..);first|((refine bx 43 (a.cs) (by rfl) rfl rfl rfl (Nat.succ_pos _) (Aa LL) ?_);intro X1 B1 hE1 L1 hb1;have hB1:=Ab (Nat.le_trans (Aa LL).fr.size (Nat.le_of_eq hE1.symm));replace LL:=Ab L1;clear L1 hb1 hE1;simp only[nn])|((refine bx 43 (b.cs) (by rfl) rfl rfl rfl (Nat.succ_pos _) (Aa LL) ?_);intro X2 B2 hE2 L2 hb2;have hB2:=Ab (Nat.le_trans (Aa LL).fr.size (Nat.le_of_eq hE2.symm));replace LL:=Ab L2;clear L2 hb2 hE2;simp only[nn])|(refine rd rfl (Af (vs:=a.v.cs) 40 5 Nh szV rfl rfl ((Aa LL).get 0 rfl) rfl rfl) ?_)|(refine rd rfl (Af (vs:=b.v.cs) 40 5 Nh szV rfl rfl ((Aa LL).get 1 rfl) rfl rfl) ?_)|(refine rd rfl (Ad 41 isAgg41 rfl rfl ((Aa LL).get 0 rfl) rfl) ?_)|(refine rd rfl (Ad 41 isAgg41 rfl rfl ((Aa LL).get 1 rfl) rfl) ?_)|(refine rd rfl (Ow rfl rfl rfl hqw) ?_)|(refine rd rfl (Ow rfl rfl rfl hqe) ?_)|(refine rd rfl (Ow rfl rfl rfl hqc) ?_)))
    refine(Aa HV _ (Ao (Aa HT) (Aa LL).fr.below)).mono ?_
    rintro e w' ⟨rfl,hb⟩
    replace LL:=Ab ((Aa LL).on hb)
    clear hb
    cases ev
    ·go_wp2_with (go_skip)
     go_ret
     exact⟨by simp,(Aa LL).fr.below⟩
    ·go_wp2_with (first|go_skip|((with_reducible show wpList ..);first|(refine rd rfl (Af (vs:=a.g.cs) 40 5 Nh szV rfl rfl ((Aa LL).get 0 rfl) rfl rfl) ?_)|(refine rd rfl (Af (vs:=b.g.cs) 40 5 Nh szV rfl rfl ((Aa LL).get 1 rfl) rfl rfl) ?_)))
     refine(Aa HG _ (Ao (Aa HT) (Aa LL).fr.below)).mono ?_
     rintro e w' ⟨rfl,hb⟩
     replace LL:=Ab ((Aa LL).on hb)
     clear hb
     cases eg
     ·go_wp2_with (go_skip)
      go_ret
      exact⟨by simp,(Aa LL).fr.below⟩
     ·go_wp2_with (first|go_skip|((with_reducible show wpList ..);first|(refine rd rfl (Af (vs:=a.s.cs) 40 5 Nh szV rfl rfl ((Aa LL).get 0 rfl) rfl rfl) ?_)|(refine rd rfl (Af (vs:=b.s.cs) 40 5 Nh szV rfl rfl ((Aa LL).get 1 rfl) rfl rfl) ?_)))
      refine(Aa HS _ (Ao (Aa HT) (Aa LL).fr.below)).mono ?_
      rintro e w' ⟨rfl,hb⟩
      replace LL:=Ab ((Aa LL).on hb)
      clear hb
      cases es
      ·go_wp2_with (go_skip)
       go_ret
       exact⟨by simp,(Aa LL).fr.below⟩
      ·go_wp2_with (go_skip)
       go_ret
       exact⟨by simp,(Aa LL).fr.below⟩
theorem Zev {o:Oper} {a:Act} {w:World} {x y:Operand} {n m:Int} {r:Bool} (ho:o.op= .binOp .neq 41 x y 41) (hx:a.eval x= .int .i64 n) (hc:a.eval y= .int .i64 m) (h:(n !=m)=r):(execOp a.eval o).run prog w= .ok (.value (.bool r)) w:=by
 unfold execOp
 simp only[ho,hx,hc]
 simp[go_sem,eqGuard,h]
theorem Na {o:Oper} {a:Act} {w:World} {x y:Operand} {n m:Int} {r:Bool} (ho:o.op= .binOp .neq 3 x y 3) (hx:a.eval x= .int .i64 n) (hc:a.eval y= .int .i64 m) (h:(n !=m)=r):(execOp a.eval o).run prog w= .ok (.value (.bool r)) w:=by
 unfold execOp
 simp only[ho,hx,hc]
 simp[go_sem,eqGuard,h]
def Lr (p:PR):Bool:=p.d.c !=1
def chgP (p:PR):Bool:=p.d.g.k==0 && p.d.s.k==0 && p.d.w !=1
theorem ZbD (p:PR) (w:World):Calls prog 116 #[p.agg] w fun e w'=>e= .returned (.bool (Lr p))/\Below w.heap.size w w':=by
 have LL:=Ab (Hq.nil w [])
 have hr:(p.d.c !=1)=Lr p:=rfl
 generalize Lr p=r at *
 rw[Zao]
 go_enter func116,ntmps116
 go_wp2_with (first|go_skip|((with_reducible show wpList ..);first|((refine bx 80 (p.cs) (by rfl) rfl rfl rfl (Nat.succ_pos _) (Aa LL) ?_);intro X1 B1 hE1 L1 hb1;have hB1:=Ab (Nat.le_trans (Aa LL).fr.size (Nat.le_of_eq hE1.symm));replace LL:=Ab L1;clear L1 hb1 hE1;simp only[nn])|(refine rd rfl (Ad 41 isAgg41 rfl rfl ((Aa LL).get 0 rfl) rfl) ?_)|(refine rd rfl (Zev rfl rfl rfl hr) ?_)))
 go_ret
 exact⟨rfl,(Aa LL).fr.below⟩
theorem Za2 (p:PR) (w:World):Calls prog 67 #[p.agg] w fun e w'=>e= .returned (.bool (chgP p))/\Below w.heap.size w w':=by
 have LL:=Ab (Hq.nil w [])
 unfold chgP
 generalize hg:(p.d.g.k==0)=eg
 generalize hs:(p.d.s.k==0)=es
 generalize hw:(p.d.w !=1)=ew
 rw[Zao]
 cases eg
 ·go_enter func67,ntmps67
  go_wp2_with (first|go_skip|((with_reducible show wpList ..);first|((refine bx 80 (p.cs) (by rfl) rfl rfl rfl (Nat.succ_pos _) (Aa LL) ?_);intro X1 B1 hE1 L1 hb1;have hB1:=Ab (Nat.le_trans (Aa LL).fr.size (Nat.le_of_eq hE1.symm));replace LL:=Ab L1;clear L1 hb1 hE1;simp only[nn])|(refine rd rfl (Af (vs:=p.d.cs) 43 18 rwD szD rfl rfl ((Aa LL).get 0 rfl) rfl rfl) ?_)|((refine alG 43 (zeroD.cs) rfl (fun w=>by kernel_rfl) (Aa LL) ?_);intro X2 B2 hE2 L2 hb2;have hB2:=Ab (Nat.le_trans (Aa LL).fr.size (Nat.le_of_eq hE2.symm));replace LL:=Ab L2;clear L2 hb2 hE2;simp only[nn])|((refine st (vs:=p.d.cs) 1 43 (by rfl) rfl rfl rfl rfl (by simp[DD.cs,Value.oneCell']) (szD) (Aa LL) rfl (by simp[Bt,PR.cs,SH.cs,VV.cs,KK.cs,DD.cs,CO.cs,DL.cs,Es,Dr,zeroD,Aq]) (Or.inr (Aa hB2)) ?_);intro X3 L3 hf3 hs3;replace LL:=Ab L3;clear L3 hf3 hs3;simp only[nn])|(refine rd rfl (Ad 3 isAgg3 rfl rfl ((Aa LL).get 1 rfl) rfl) ?_)|(refine rd rfl (Gz rfl rfl rfl hg) ?_)))
  go_ret
  exact⟨rfl,(Aa LL).fr.below⟩
 ·cases es
  ·go_enter func67,ntmps67
   go_wp2_with (first|go_skip|((with_reducible show wpList ..);first|((refine bx 80 (p.cs) (by rfl) rfl rfl rfl (Nat.succ_pos _) (Aa LL) ?_);intro X1 B1 hE1 L1 hb1;have hB1:=Ab (Nat.le_trans (Aa LL).fr.size (Nat.le_of_eq hE1.symm));replace LL:=Ab L1;clear L1 hb1 hE1;simp only[nn])|(refine rd rfl (Af (vs:=p.d.cs) 43 18 rwD szD rfl rfl ((Aa LL).get 0 rfl) rfl rfl) ?_)|((refine alG 43 (zeroD.cs) rfl (fun w=>by kernel_rfl) (Aa LL) ?_);intro X2 B2 hE2 L2 hb2;have hB2:=Ab (Nat.le_trans (Aa LL).fr.size (Nat.le_of_eq hE2.symm));replace LL:=Ab L2;clear L2 hb2 hE2;simp only[nn])|((refine st (vs:=p.d.cs) 1 43 (by rfl) rfl rfl rfl rfl (by simp[DD.cs,Value.oneCell']) (szD) (Aa LL) rfl (by simp[Bt,PR.cs,SH.cs,VV.cs,KK.cs,DD.cs,CO.cs,DL.cs,Es,Dr,zeroD,Aq]) (Or.inr (Aa hB2)) ?_);intro X3 L3 hf3 hs3;replace LL:=Ab L3;clear L3 hf3 hs3;simp only[nn])|(refine rd rfl (Ad 3 isAgg3 rfl rfl ((Aa LL).get 1 rfl) rfl) ?_)|(refine rd rfl (Gz rfl rfl rfl hg) ?_)|(refine rd rfl (Gz rfl rfl rfl hs) ?_)))
   go_ret
   exact⟨rfl,(Aa LL).fr.below⟩
  ·cases ew
   ·go_enter func67,ntmps67
    go_wp2_with (first|go_skip|((with_reducible show wpList ..);first|((refine bx 80 (p.cs) (by rfl) rfl rfl rfl (Nat.succ_pos _) (Aa LL) ?_);intro X1 B1 hE1 L1 hb1;have hB1:=Ab (Nat.le_trans (Aa LL).fr.size (Nat.le_of_eq hE1.symm));replace LL:=Ab L1;clear L1 hb1 hE1;simp only[nn])|(refine rd rfl (Af (vs:=p.d.cs) 43 18 rwD szD rfl rfl ((Aa LL).get 0 rfl) rfl rfl) ?_)|((refine alG 43 (zeroD.cs) rfl (fun w=>by kernel_rfl) (Aa LL) ?_);intro X2 B2 hE2 L2 hb2;have hB2:=Ab (Nat.le_trans (Aa LL).fr.size (Nat.le_of_eq hE2.symm));replace LL:=Ab L2;clear L2 hb2 hE2;simp only[nn])|((refine st (vs:=p.d.cs) 1 43 (by rfl) rfl rfl rfl rfl (by simp[DD.cs,Value.oneCell']) (szD) (Aa LL) rfl (by simp[Bt,PR.cs,SH.cs,VV.cs,KK.cs,DD.cs,CO.cs,DL.cs,Es,Dr,zeroD,Aq]) (Or.inr (Aa hB2)) ?_);intro X3 L3 hf3 hs3;replace LL:=Ab L3;clear L3 hf3 hs3;simp only[nn])|(refine rd rfl (Ad 3 isAgg3 rfl rfl ((Aa LL).get 1 rfl) rfl) ?_)|(refine rd rfl (Ad 41 isAgg41 rfl rfl ((Aa LL).get 1 rfl) rfl) ?_)|(refine rd rfl (Gz rfl rfl rfl hg) ?_)|(refine rd rfl (Gz rfl rfl rfl hs) ?_)|(refine rd rfl (Zev rfl rfl rfl hw) ?_)))
    go_ret
    exact⟨rfl,(Aa LL).fr.below⟩
   ·go_enter func67,ntmps67
    go_wp2_with (first|go_skip|((with_reducible show wpList ..);first|((refine bx 80 (p.cs) (by rfl) rfl rfl rfl (Nat.succ_pos _) (Aa LL) ?_);intro X1 B1 hE1 L1 hb1;have hB1:=Ab (Nat.le_trans (Aa LL).fr.size (Nat.le_of_eq hE1.symm));replace LL:=Ab L1;clear L1 hb1 hE1;simp only[nn])|(refine rd rfl (Af (vs:=p.d.cs) 43 18 rwD szD rfl rfl ((Aa LL).get 0 rfl) rfl rfl) ?_)|((refine alG 43 (zeroD.cs) rfl (fun w=>by kernel_rfl) (Aa LL) ?_);intro X2 B2 hE2 L2 hb2;have hB2:=Ab (Nat.le_trans (Aa LL).fr.size (Nat.le_of_eq hE2.symm));replace LL:=Ab L2;clear L2 hb2 hE2;simp only[nn])|((refine st (vs:=p.d.cs) 1 43 (by rfl) rfl rfl rfl rfl (by simp[DD.cs,Value.oneCell']) (szD) (Aa LL) rfl (by simp[Bt,PR.cs,SH.cs,VV.cs,KK.cs,DD.cs,CO.cs,DL.cs,Es,Dr,zeroD,Aq]) (Or.inr (Aa hB2)) ?_);intro X3 L3 hf3 hs3;replace LL:=Ab L3;clear L3 hf3 hs3;simp only[nn])|(refine rd rfl (Ad 3 isAgg3 rfl rfl ((Aa LL).get 1 rfl) rfl) ?_)|(refine rd rfl (Ad 41 isAgg41 rfl rfl ((Aa LL).get 1 rfl) rfl) ?_)|(refine rd rfl (Gz rfl rfl rfl hg) ?_)|(refine rd rfl (Gz rfl rfl rfl hs) ?_)|(refine rd rfl (Zev rfl rfl rfl hw) ?_)))
    go_ret
    exact⟨rfl,(Aa LL).fr.below⟩
theorem Ny (c:CO):c.agg= .agg c.cs.toArray:=rfl
theorem lost_any (c:CO) (w:World):Calls prog 80 #[c.agg] w fun e w'=>e= .returned (.bool c.gone)/\Below w.heap.size w w':=by
 have LL:=Ab (Hq.nil w [])
 rw[Ny]
 go_enter func80,ntmps80
 go_wp2_with (first|go_skip|((with_reducible show wpList ..);first|((refine bx 102 (c.cs) (by rfl) rfl rfl rfl (Nat.succ_pos _) (Aa LL) ?_);intro X1 B1 hE1 L1 hb1;have hB1:=Ab (Nat.le_trans (Aa LL).fr.size (Nat.le_of_eq hE1.symm));replace LL:=Ab L1;clear L1 hb1 hE1;simp only[nn])|(refine rd rfl (Ad 4 isAgg4 rfl rfl ((Aa LL).get 0 rfl) rfl) ?_)))
 go_ret
 exact⟨rfl,(Aa LL).fr.below⟩
def clV (c:CO):Bool:=c.is.c !=c.was.c
def oaV (c:CO):Bool:= !c.was.x && c.is.x
def opV (c:CO):Bool:= !c.was.x && !eqB c.was.p c.is.p
theorem Zaq (c:CO) (w:World):Calls prog 81 #[c.agg] w fun e w'=>e= .returned (.bool (clV c))/\Below w.heap.size w w':=by
 have LL:=Ab (Hq.nil w [])
 have hr:(c.is.c !=c.was.c)=clV c:=rfl
 generalize clV c=r at *
 rw[Ny]
 go_enter func81,ntmps81
 go_wp2_with (first|go_skip|((with_reducible show wpList ..);first|((refine bx 102 (c.cs) (by rfl) rfl rfl rfl (Nat.succ_pos _) (Aa LL) ?_);intro X1 B1 hE1 L1 hb1;have hB1:=Ab (Nat.le_trans (Aa LL).fr.size (Nat.le_of_eq hE1.symm));replace LL:=Ab L1;clear L1 hb1 hE1;simp only[nn])|(refine rd rfl (Ad 3 isAgg3 rfl rfl ((Aa LL).get 0 rfl) rfl) ?_)|(refine rd rfl (Na rfl rfl rfl hr) ?_)))
 go_ret
 exact⟨rfl,(Aa LL).fr.below⟩
theorem Zbg (c:CO) (w:World):Calls prog 82 #[c.agg] w fun e w'=>e= .returned (.bool (oaV c))/\Below w.heap.size w w':=by
 have LL:=Ab (Hq.nil w [])
 unfold oaV
 rw[Ny]
 have hc:c.cs=c.was.cs c.wA c.wc++c.is.cs c.iA c.ic++ [.bool c.gone]:=rfl
 have h6:c.cs[6]? =some (.bool c.was.x):=rfl
 have h14:c.cs[14]? =some (.bool c.is.x):=rfl
 generalize c.cs=l at *
 generalize c.was.x=x at *
 generalize c.is.x=y at *
 clear hc
 have H6:=Ab h6
 have H14:=Ab h14
 clear h6 h14
 have hl:0<l.length:=by have:=(List.getElem?_eq_some_iff.1 (Aa H6)).1;omega
 have HL:=Ab hl
 clear hl
 cases x
 ·go_enter func82,ntmps82
  go_wp2_with (first|go_skip|((with_reducible show wpList ..);first|((refine bx 102 l (by rfl) rfl rfl rfl (Aa HL) (Aa LL) ?_);intro X1 B1 hE1 L1 hb1;replace LL:=Ab L1;clear L1 hb1 hE1;simp only[nn])|(refine rd rfl (Ad 4 isAgg4 rfl rfl ((Aa LL).get 0 rfl) (Aa H6)) ?_)|(refine rd rfl (Ad 4 isAgg4 rfl rfl ((Aa LL).get 0 rfl) (Aa H14)) ?_)))
  go_ret
  exact⟨by simp,(Aa LL).fr.below⟩
 ·go_enter func82,ntmps82
  go_wp2_with (first|go_skip|((with_reducible show wpList ..);first|((refine bx 102 l (by rfl) rfl rfl rfl (Aa HL) (Aa LL) ?_);intro X1 B1 hE1 L1 hb1;replace LL:=Ab L1;clear L1 hb1 hE1;simp only[nn])|(refine rd rfl (Ad 4 isAgg4 rfl rfl ((Aa LL).get 0 rfl) (Aa H6)) ?_)))
  go_ret
  exact⟨by simp,(Aa LL).fr.below⟩
theorem co_at6 (c:CO):c.cs[6]? =some (.bool c.was.x):=rfl
theorem Zap (c:CO) (w:World) (hT:Lib.Utf8Tabs 1 2 w):Calls prog 83 #[c.agg] w fun e w'=>e= .returned (.bool (opV c))/\Below w.heap.size w w':=by
 have LL:=Ab (Hq.nil w [])
 have HT:=Ab hT
 clear hT
 have HS:=Ab (Jw c.was.p c.is.p)
 simp only[Rq] at HS
 unfold opV
 rw[Ny]
 have H6:=Ab (co_at6 c)
 generalize c.was.x=x at *
 generalize eqB c.was.p c.is.p=q at *
 cases x
 ·go_enter func83,ntmps83
  go_wp2_with (first|go_skip|((with_reducible show wpList ..);first|((refine bx 102 (c.cs) (by rfl) rfl rfl rfl (Nat.succ_pos _) (Aa LL) ?_);intro X1 B1 hE1 L1 hb1;have hB1:=Ab (Nat.le_trans (Aa LL).fr.size (Nat.le_of_eq hE1.symm));replace LL:=Ab L1;clear L1 hb1 hE1;simp only[nn])|(refine rd rfl (Ad 4 isAgg4 rfl rfl ((Aa LL).get 0 rfl) (Aa H6)) ?_)|(refine rd rfl (Af (vs:=c.was.p.cs) 40 5 Nh szV rfl rfl ((Aa LL).get 0 rfl) rfl rfl) ?_)|(refine rd rfl (Af (vs:=c.is.p.cs) 40 5 Nh szV rfl rfl ((Aa LL).get 0 rfl) rfl rfl) ?_)))
  refine(Aa HS _ (Ao (Aa HT) (Aa LL).fr.below)).mono ?_
  rintro e w' ⟨rfl,hb⟩
  replace LL:=Ab ((Aa LL).on hb)
  clear hb
  go_wp2_with (go_skip)
  go_ret
  exact⟨by simp,(Aa LL).fr.below⟩
 ·go_enter func83,ntmps83
  go_wp2_with (first|go_skip|((with_reducible show wpList ..);first|((refine bx 102 (c.cs) (by rfl) rfl rfl rfl (Nat.succ_pos _) (Aa LL) ?_);intro X1 B1 hE1 L1 hb1;have hB1:=Ab (Nat.le_trans (Aa LL).fr.size (Nat.le_of_eq hE1.symm));replace LL:=Ab L1;clear L1 hb1 hE1;simp only[nn])|(refine rd rfl (Ad 4 isAgg4 rfl rfl ((Aa LL).get 0 rfl) (Aa H6)) ?_)))
  go_ret
  exact⟨by simp,(Aa LL).fr.below⟩
theorem keep_e (a b:DD):(keepB a b && Zdo a b==0)=keepB a b:=by
 unfold keepB Zdo
 cases stV a<;>cases stV b<;>simp
theorem ex_eqE8 {o:Oper} {a:Act} {w:World} {x y:Operand} {n m:Int} {r:Bool} (ho:o.op= .binOp .eql 31 x y 31) (hx:a.eval x= .int .i64 n) (hc:a.eval y= .int .i64 m) (h:(n==m)=r):(execOp a.eval o).run prog w= .ok (.value (.bool r)) w:=by
 unfold execOp
 simp only[ho,hx,hc]
 simp[go_sem,eqGuard,h]
theorem keeps65 (a b:DD) (ha:FD a) (hb:FD b) (w:World) (hT:Lib.Utf8Tabs 1 2 w):Calls prog 133 #[a.agg,b.agg] w fun e w'=>e= .returned (.bool (keepB a b))/\Below w.heap.size w w':=by
 have LL:=Ab (Hq.nil w [])
 have HT:=Ab hT
 clear hT
 have HS:=Ab (Zgc a b ha hb)
 clear ha hb
 rw[←keep_e]
 simp only[ZaZ] at HS ⊢
 generalize keepB a b=q at *
 generalize Zdo a b=e at *
 generalize hz:(e==0)=z
 go_enter func133,ntmps133
 go_wp2_with (first|go_skip|((with_reducible show wpList ..);first|((refine bx 43 (a.cs) (by rfl) rfl rfl rfl (Nat.succ_pos _) (Aa LL) ?_);intro X1 B1 hE1 L1 hb1;have hB1:=Ab (Nat.le_trans (Aa LL).fr.size (Nat.le_of_eq hE1.symm));replace LL:=Ab L1;clear L1 hb1 hE1;simp only[nn])|((refine bx 43 (b.cs) (by rfl) rfl rfl rfl (Nat.succ_pos _) (Aa LL) ?_);intro X2 B2 hE2 L2 hb2;have hB2:=Ab (Nat.le_trans (Aa LL).fr.size (Nat.le_of_eq hE2.symm));replace LL:=Ab L2;clear L2 hb2 hE2;simp only[nn])|(refine rd rfl (Af (vs:=a.cs) 43 18 rwD szD rfl rfl ((Aa LL).get 0 rfl) rfl rfl) ?_)|(refine rd rfl (Af (vs:=b.cs) 43 18 rwD szD rfl rfl ((Aa LL).get 1 rfl) rfl rfl) ?_)))
 refine(Aa HS _ (Ao (Aa HT) (Aa LL).fr.below)).mono ?_
 rintro _ w' ⟨rfl,hb⟩
 replace LL:=Ab ((Aa LL).on hb)
 clear hb
 cases q
 ·go_wp2_with (go_skip)
  go_ret
  exact⟨by simp,(Aa LL).fr.below⟩
 ·go_wp2_with (first|go_skip|((with_reducible show wpList ..);(refine rd rfl (ex_eqE8 rfl rfl rfl hz) ?_)))
  go_ret
  exact⟨by simp,(Aa LL).fr.below⟩
end
section
open Go Go.Proofs Go.Maps Go.RowKit FM
def fO (l:List PR) (k:KK):Option Nat:=l.findIdx? (fun p=>decide (p.k=k))
def oI:Option Nat->Int
 |some j=>(j:Int)
 |none=> -1
theorem Zfv {l:List PR} {i:Nat} {p:PR} (hp:l[i]? =some p) (q:KK):fO (l.take (i+1)) q=(fO (l.take i) q).or (if q=p.k then some i else none):=by
 obtain⟨hi,rfl⟩:=List.getElem?_eq_some_iff.1 hp
 unfold fO
 rw[List.take_succ_eq_append_getElem hi,List.findIdx?_append]
 congr 1
 by_cases e:q=l[i].k
 ·subst e
  simp[List.findIdx?_cons,Nat.min_eq_left (Nat.le_of_lt hi)]
 ·simp[List.findIdx?_cons,e,Ne.symm e]
def Ph (l:List PR):Nat->Nat
 |0=>0
 |i+1=>match l[i]? with
  |none=>Ph l i
  |some p=>if (fO (l.take i) p.k).isSome then Ph l i else Ph l i+1
theorem cntK_yes {l:List PR} {i:Nat} {p:PR} (hp:l[i]? =some p) (h:(fO (l.take i) p.k).isSome=true):Ph l (i+1)=Ph l i:=by
 simp[Ph,hp,h]
theorem cntK_no {l:List PR} {i:Nat} {p:PR} (hp:l[i]? =some p) (h:fO (l.take i) p.k=none):Ph l (i+1)=Ph l i+1:=by
 simp[Ph,hp,h]
theorem fO_yes {l:List PR} {i:Nat} {p:PR} (hp:l[i]? =some p) (h:(fO (l.take i) p.k).isSome=true) (q:KK):fO (l.take i) q=fO (l.take (i+1)) q:=by
 rw[Zfv hp]
 by_cases e:q=p.k
 ·subst e
  obtain⟨j,hj⟩:=Option.isSome_iff_exists.1 h
  simp[hj]
 ·simp[e]
theorem fO_put {l:List PR} {i:Nat} {p:PR} (hp:l[i]? =some p) (h:fO (l.take i) p.k=none) (q:KK):Zby (fO (l.take i)) p.k i q=fO (l.take (i+1)) q:=by
 rw[Zfv hp,Zby]
 by_cases e:q=p.k
 ·subst e
  simp[h]
 ·simp[e]
def PlPost (w:World) (ps:List PR) (e:Ending) (X:World):Prop:= ∃B n:Nat,e= .returned (.map (some B))/\w.heap.size<=B/\MapI X B n (Ph ps ps.length) (fO ps)/\Below w.heap.size w X
theorem Om (B:Option Addr) (cap:Nat) (ps:List PR) (w:World) (hR:ReadsP9 w B ps) (hz:ps.length<=733007751850):Calls Tryz.prog 110 #[.slice B ps.length cap] w (PlPost w ps):=by
 have LL:=Ab (Hq.nil w [])
 have HR:=Ab hR
 have HZ:=Ab hz
 clear hR hz
 go_enter Tryz.func110,Tryz.ntmps110
 go_wp2_with (first|go_skip|((with_reducible show wpList ..);first|(refine rd rfl (Bp 49 80 Tryz.underlying49 rfl rfl) ?_)|((refine mmI (by rfl) rfl rfl (Aa LL) ?_);intro X1 M1 hE1 L1 hM1 hb1;have HM:=Ab (And.intro hM1 (Nat.le_trans (Aa LL).fr.size (Nat.le_of_eq hE1.symm)));replace LL:=Ab L1;clear L1 hM1 hb1 hE1;simp only[nn])))
 go_loopg [13] ps.length (fun gm s13 wr=> ∃i:Nat,s13= .int .i64 (i:Nat)/\i<=ps.length/\ps.length - i<=gm/\Hid ((∃n,n<=i/\MapI wr M1 n (Ph ps i) (fO (ps.take i)))/\w.heap.size<=M1)/\Hid (Hq w wr [] []))
 case atStart=>exact⟨0,rfl,by omega,by omega,Ab ⟨⟨0,Nat.le_refl _,(Aa HM).1.congr rfl (fun k=>by simp[fO])⟩,(Aa HM).2⟩,LL⟩
 case round=>
  clear LL HM
  obtain⟨i,rfl,hil,hgm,HM0,LL⟩:=hrel
  by_cases hlt:i<ps.length
  ·have dlt:decide ((i:Int)<(ps.length:Int))=true:=decide_eq_true (by omega)
   have hw1:IntKind.i64.wrap ((i:Int)+1)=(i:Int)+1:=by have:=Aa HZ;rw[IntKind.wrap_i64];omega
   obtain⟨p,hp⟩: ∃p,ps[i]? =some p:=⟨_,List.getElem?_eq_getElem hlt⟩
   obtain⟨hok,b,off,hA,hb,hrg⟩:=(Aa HR) i p hp
   subst hA
   have HA2:Hid (∀X,Fr w X []->X.rangeAt b (off+i * 20) p.cs):=Ab (fun X hX=>Dm hrg hb hX)
   have HLT:=Ab hlt
   obtain⟨⟨n,hni,hm0⟩,hM0⟩:=Aa HM0
   have HM:=Ab (And.intro hm0 hM0)
   have HMX:Hid (n<maxLen):=Ab (by have:=Aa HZ;unfold maxLen;omega)
   have HNI:=Ab hni
   have HOK:=Ab hok.2
   clear HM0 hm0 hM0 hb hrg hlt hil hok hni
   cases hfo:fO (ps.take i) p.k
   ·have HFO:=Ab hfo
    have HS:=Ab (cntK_no hp hfo)
    have HP:=Ab (fO_put hp hfo)
    clear hp hfo
    go_wp2_with (first|go_skip|((with_reducible show wpList ..);first|(refine rd rfl (Bw 49 20 i Mq Ms rfl rfl rfl (Aa HLT)) ?_)|(refine rd rfl (Br (vs:=p.cs) 80 20 rwP szP rfl rfl (Aa HA2 _ (Aa LL).fr) rfl) ?_)|((refine alG 80 (Es.cs) rfl (fun w=>by kernel_rfl) (Aa LL) ?_);intro X3 B3 hE3 L3 hb3;have hB3:=Ab (Nat.le_trans (Aa LL).fr.size (Nat.le_of_eq hE3.symm));have hNE:Hid (M1≠B3):=Ab (Nat.ne_of_lt (Nat.lt_of_lt_of_le (Aa HM).1.lt (Nat.le_of_eq hE3.symm)));replace HM:=Ab (And.intro ((Aa HM).1.on hb3) (Aa HM).2);replace LL:=Ab L3;clear L3 hb3 hE3;simp only[nn])|((refine st (vs:=p.cs) 0 80 (by rfl) rfl rfl rfl rfl (Jf p) (szP) (Aa LL) rfl (by simp[Bt,PR.cs,SH.cs,VV.cs,KK.cs,DD.cs,CO.cs,DL.cs,Es,Dr,zeroD,Aq]) (Or.inr (Aa hB3)) ?_);intro X4 L4 hf4 hs4;replace HM:=Ab (And.intro ((Aa HM).1.far hf4 (Aa hNE)) (Aa HM).2);replace LL:=Ab L4;clear L4 hf4 hs4;simp only[nn])|(refine rd rfl (Af (vs:=p.k.cs) 37 2 rwK szK rfl rfl ((Aa LL).get 0 rfl) rfl rfl) ?_)|(refine rd rfl (Nw rfl rfl rfl (Aa HM).1 (Aa HOK) (Aa HFO)) ?_)|((refine updI (k:=p.k) (by rfl) rfl rfl rfl rfl (Aa HM).1 (Aa HOK) (Aa HMX) ?_);intro X6 hm6 hf6;have HM6:=Ab (And.intro hm6 (And.intro (Aa HM).2 ((Aa LL).fr.trans hf6 (fun b hb=> .inr (by obtain rfl:b=M1:=(by simpa using hb);exact(Aa HM).2)))));clear hm6 hf6 HM LL;simp only[nn])))
    unfold nz
    go_wp2_with (go_skip)
    have HMN:Hid ((∃n,n<=i+1/\MapI _ M1 n (Ph ps (i+1)) (fO (ps.take (i+1))))/\w.heap.size<=M1):=Ab ⟨⟨n+1,by have:=Aa HNI;omega,(Aa HM6).1.congr (by rw[Aa HS,Aa HFO];rfl) (Aa HP)⟩,(Aa HM6).2.1⟩
    have LN:Hid (Hq w _ [] []):=Ab ⟨(Aa HM6).2.2,by simp,by simp⟩
    clear HM6
    go_wp2_with (go_skip)
    go_roundg (ps.length - (i+1))
    case measure=>have:=Aa HLT;omega
    case rel=>exact⟨i+1,by go_num,by have:=Aa HLT;omega,by omega,HMN,LN⟩
   ·rename_i jj
    have HFO:=Ab hfo
    have HS:=Ab (cntK_yes hp (by rw[hfo];rfl))
    have HP:=Ab (fO_yes hp (by rw[hfo];rfl))
    clear hp hfo
    go_wp2_with (first|go_skip|((with_reducible show wpList ..);first|(refine rd rfl (Bw 49 20 i Mq Ms rfl rfl rfl (Aa HLT)) ?_)|(refine rd rfl (Br (vs:=p.cs) 80 20 rwP szP rfl rfl (Aa HA2 _ (Aa LL).fr) rfl) ?_)|((refine alG 80 (Es.cs) rfl (fun w=>by kernel_rfl) (Aa LL) ?_);intro X3 B3 hE3 L3 hb3;have hB3:=Ab (Nat.le_trans (Aa LL).fr.size (Nat.le_of_eq hE3.symm));have hNE:Hid (M1≠B3):=Ab (Nat.ne_of_lt (Nat.lt_of_lt_of_le (Aa HM).1.lt (Nat.le_of_eq hE3.symm)));replace HM:=Ab (And.intro ((Aa HM).1.on hb3) (Aa HM).2);replace LL:=Ab L3;clear L3 hb3 hE3;simp only[nn])|((refine st (vs:=p.cs) 0 80 (by rfl) rfl rfl rfl rfl (Jf p) (szP) (Aa LL) rfl (by simp[Bt,PR.cs,SH.cs,VV.cs,KK.cs,DD.cs,CO.cs,DL.cs,Es,Dr,zeroD,Aq]) (Or.inr (Aa hB3)) ?_);intro X4 L4 hf4 hs4;replace HM:=Ab (And.intro ((Aa HM).1.far hf4 (Aa hNE)) (Aa HM).2);replace LL:=Ab L4;clear L4 hf4 hs4;simp only[nn])|(refine rd rfl (Af (vs:=p.k.cs) 37 2 rwK szK rfl rfl ((Aa LL).get 0 rfl) rfl rfl) ?_)|(refine rd rfl (Nw rfl rfl rfl (Aa HM).1 (Aa HOK) (Aa HFO)) ?_)))
    have HMN:Hid ((∃n,n<=i+1/\MapI _ M1 n (Ph ps (i+1)) (fO (ps.take (i+1))))/\w.heap.size<=M1):=Ab ⟨⟨n,by have:=Aa HNI;omega,(Aa HM).1.congr (Aa HS).symm (Aa HP)⟩,(Aa HM).2⟩
    replace LL:=Ab (Hq.left (L:= []) (Aa LL))
    clear HM
    go_roundg (ps.length - (i+1))
    case measure=>have:=Aa HLT;omega
    case rel=>exact⟨i+1,by go_num,by have:=Aa HLT;omega,by omega,HMN,LL⟩
  ·obtain rfl:i=ps.length:=by omega
   clear hlt hil
   go_wp2_with (go_skip)
   go_ret
   obtain⟨⟨n,_,hm0⟩,hM0⟩:=Aa HM0
   exact⟨M1,n,rfl,hM0,hm0.congr rfl (fun k=>by rw[List.take_length]),(Aa LL).fr.below⟩
