import Derived.Test.YtieahhciibdnaaaGreatDoorQz
set_option linter.all false
namespace Go.Proofs.YtieahhciibdnaaaGreatDoor
set_option maxRecDepth 100000
set_option maxHeartbeats 0
section
open Go Go.Proofs Go.Maps Go.RowKit FM Tryz
def kS (s:ByteArray):Lit:= .string s.data.toList
def okN (s:ByteArray):Prop:=s.size<=maxLen
theorem lawS:Keyed prog 9:=Keyed.of_law (WideMaps.string_law underlying9)
theorem keyS {s:ByteArray} (h:okN s):keyOf prog 9 (.string s)=some (kS s):=WideMaps.keyOf_string_mk underlying9 h
theorem Zah {a b:ByteArray} (h:a.data.toList=b.data.toList):a=b:=by
 cases a
 cases b
 simp at h
 rw[h]
theorem kS_inj {a b:ByteArray} (h:kS a=kS b):a=b:=by
 unfold kS at h
 simp only[Lit.string.injEq] at h
 exact Zah h
structure Enc {α:Type} (R:Value->Option (DataW Unit×List MemPlace)) (val:α->Value) (dat:α->DataW Unit):Prop where
 tot: ∀a,R (val a)=some (dat a, [])
 inv: ∀{v:Value} {a:α} {ps:List MemPlace},R v=some (dat a,ps)->v=val a
structure EncT {α:Type} (val:α->Value) (z:α) (t e:TypeId):Prop where
 und:prog.underlying t=some (.map 9 e)
 zero: ∀w,(zeroValue e).run prog w= .ok (val z) w
def MapT {α:Type} (R:Value->Option (DataW Unit×List MemPlace)) (dat:α->DataW Unit) (z:α) (w:World) (b n:Nat) (F:ByteArray->Option α):Prop:=
 ∃D:DataW Unit,w.ownsMap prog 9 R b n D/\ ∀s,okN s->D.atKey (kS s) (dat z)=dat ((F s).getD z)/\Maps.has D (kS s)=(F s).isSome
def Mx {α:Type} (F:ByteArray->Option α) (s:ByteArray) (r:Option α):ByteArray->Option α:=fun q=>if q=s then r else F q
theorem Zs {α:Type} (F:ByteArray->Option α) (s:ByteArray) (r:Option α):Mx F s r s=r:=by simp[Mx]
theorem Vp {α:Type} {F:ByteArray->Option α} {s q:ByteArray} (h:q≠s) (r:Option α):Mx F s r q=F q:=by simp[Mx,h]
section
variable {α : Type} {R : Value → Option (DataW Unit × List MemPlace)} {val : α → Value} {dat : α → DataW Unit} {z : α} {w w' : World} {b n : Nat} {F : ByteArray → Option α} {k : ByteArray} {t e : TypeId}
theorem MapT.made (w:World):MapT R dat z (w.alloc (.map #[] 0)) w.heap.size 0 (fun _=>none):=
 ⟨_,World.ownsMap_made w _ _ _,fun k _=>⟨rfl,rfl⟩⟩
theorem MapT.lt (h:MapT R dat z w b n F):b<w.heap.size:=by
 obtain⟨D,h, -⟩:=h
 exact h.lt
theorem MapT.block (h:MapT R dat z w b n F) (he:w'.heap[b]? =w.heap[b]?):MapT R dat z w' b n F:=by
 obtain⟨D,⟨es,clock,hb,Ft,hs,hD⟩,h3⟩:=h
 exact⟨D,⟨es,clock,he.trans hb,Ft,hs,hD⟩,h3⟩
theorem MapT.look (E:Enc R val dat) (T:EncT val z t e) (h:MapT R dat z w b n F) (hk:okN k):
  (Instr.lookup t (.map (some b)) (.string k) true).run prog w= .ok (.tuple #[val ((F k).getD z), .bool (F k).isSome]) w:=by
 obtain⟨D,h,h3⟩:=h
 obtain⟨v,ps,hrun,hv⟩:=h.look_ok lawS T.und (T.zero w) (E.tot z) (keyS hk)
 obtain⟨h4,h5⟩:=h3 k hk
 rw[h4] at hv
 rw[hrun,h5,E.inv hv]
theorem MapT.store (E:Enc R val dat) (T:EncT val z t e) (h:MapT R dat z w b n F) (hk:okN k) (hn:n<maxLen) (r:α):
  ∃w',(Instr.mapUpdate t (.map (some b)) (.string k) (val r)).run prog w= .ok () w'/\MapT R dat z w' b (n+1) (Mx F k (some r))/\w.mapTurned w' b:=by
 obtain⟨D,h,h3⟩:=h
 obtain⟨w',hrun,ho,ht⟩:=h.store lawS T.und hn (keyS hk) (E.tot r)
 have ti:=h.tidy lawS
 refine⟨w',hrun,⟨_,ho,fun q hq=> ?_⟩,ht⟩
 by_cases e:q=k
 ·subst e
  rw[atKey_put_same ti.isMap (lawS.key (keyS hk)),has_put_same ti.isMap (lawS.key (keyS hk)),Zs]
  exact⟨rfl,rfl⟩
 ·have ne:kS q≠kS k:=fun e'=>e (kS_inj e')
  rw[atKey_put_other ne,has_put_other ne,Vp e]
  exact h3 q hq
def Eb (R:Value->Option (DataW Unit×List MemPlace)) (dat:α->DataW Unit) (z:α) (b n:Nat) (F:ByteArray->Option α):Ob:=⟨[b],fun X=>MapT R dat z X b n F⟩
theorem Nw (R:Value->Option (DataW Unit×List MemPlace)) (dat:α->DataW Unit) (z:α) (b n:Nat) (F:ByteArray->Option α):(Eb R dat z b n F).Ok:=
 ⟨fun h k=>MapT.block k (h b (List.mem_singleton.2 rfl)),fun h c hc=>by obtain rfl:=List.mem_singleton.1 hc;exact MapT.lt h⟩
theorem Zm {w w':World} {b:Nat} (h:w.mapTurned w' b):Fr w w' [b]:=by
 obtain⟨es,clock,es',clock',hb,rfl⟩:=h
 exact Fr.grown (World.mapTurned.grown ⟨es,clock,es',clock',hb,rfl⟩)
theorem Yh {o:Oper} {a:Act} {x y:Operand} (E:Enc R val dat) (T:EncT val z t e) (h:MapT R dat z w b n F) (hk:okN k) {v:Value} (hv:Value.tuple #[val ((F k).getD z), .bool (F k).isSome]=v) (ho:o.op= .lookup t x y true) (hx:a.eval x= .map (some b)) (hy:a.eval y= .string k):(execOp a.eval o).run prog w= .ok (.value v) w:=by
 unfold execOp
 simp only[ho,hx,hy]
 simp[MapT.look E T h hk,hv]
end
def iR:Value->Option (DataW Unit×List MemPlace)
 | .int .i64 n=>some (.lit (.int .i64 n), [])
 |_=>none
def iV (n:Nat):Value:= .int .i64 (n:Int)
def iD (n:Nat):DataW Unit:= .lit (.int .i64 (n:Int))
theorem encI:Enc iR iV iD:=⟨fun _=>rfl,fun {v a ps} hv=>by
 unfold iR at hv
 split at hv
 ·have e:=congrArg Prod.fst (Option.some.inj hv)
  simp[iD] at e
  rw[e]
  rfl
 ·cases hv⟩
theorem Yj:EncT iV 0 126 3:=⟨by kernel_rfl,fun w=>by kernel_rfl⟩
def uR:Value->Option (DataW Unit×List MemPlace)
 | .agg ⟨[]⟩=>some (.agg [], [])
 |_=>none
def uV (_:Unit):Value:= .agg #[]
def uD (_:Unit):DataW Unit:= .agg []
theorem encE0:Enc uR uV uD:=⟨fun _=>rfl,fun {v a ps} hv=>by
 unfold uR at hv
 split at hv
 ·rfl
 ·cases hv⟩
theorem ZcC:EncT uV () 115 78:=⟨by kernel_rfl,fun w=>by kernel_rfl⟩
def vD (v:VV):DataW Unit:= .agg [.lit (.int .i64 v.k), .lit (.bool v.b), .lit (.float .f64 v.x), .lit (.string v.s.data.toList), .lit (.int .i64 v.i)]
theorem vv_inj {a b:VV} (h1:a.k=b.k) (h2:a.b=b.b) (h3:a.x=b.x) (h4:a.s=b.s) (h5:a.i=b.i):a=b:=by
 cases a
 cases b
 cases h1
 cases h2
 cases h3
 cases h4
 cases h5
 rfl
theorem vD_inj {a b:VV} (h:vD a=vD b):a=b:=by
 unfold vD at h
 simp only[DataW.agg.injEq,List.cons.injEq,DataW.lit.injEq,Lit.int.injEq,Lit.bool.injEq,Lit.float.injEq,Lit.string.injEq,true_and,and_true] at h
 obtain⟨a0,a1,a2,a3,a4⟩:=h
 exact vv_inj a0 a1 a2 (Zah a3) a4
theorem vagg_inj {a b:VV} (h:a.agg=b.agg):a=b:=by
 have h': [Value.int .i64 a.k, .bool a.b, .float .f64 a.x, .string a.s, .int .i64 a.i]= [Value.int .i64 b.k, .bool b.b, .float .f64 b.x, .string b.s, .int .i64 b.i]:=by
  simpa [VV.agg] using h
 simp only[List.cons.injEq,Value.int.injEq,Value.bool.injEq,Value.float.injEq,Value.string.injEq,true_and,and_true] at h'
 obtain⟨a0,a1,a2,a3,a4⟩:=h'
 exact vv_inj a0 a1 a2 a3 a4
open Classical in
noncomputable def vR (v:Value):Option (DataW Unit×List MemPlace):=if h: ∃d:VV,v=d.agg then some (vD h.choose, []) else none
theorem vR_agg (d:VV):vR d.agg=some (vD d, []):=by
 have h: ∃d':VV,d.agg=d'.agg:=⟨d,rfl⟩
 unfold vR
 rw[dif_pos h,←vagg_inj h.choose_spec]
theorem encV:Enc vR VV.agg vD:=⟨vR_agg,fun {v a ps} hv=>by
 unfold vR at hv
 split at hv
 ·rename_i h
  have e:vD h.choose=vD a:=congrArg Prod.fst (Option.some.inj hv)
  rw[h.choose_spec,vD_inj e]
 ·cases hv⟩
theorem encTV:EncT VV.agg zeroV 43 26:=⟨by kernel_rfl,fun w=>by kernel_rfl⟩
