import Derived.Test.YtfefpbjkbmaicaaGreatDoorRi
set_option linter.all false
namespace Go.Proofs.YtfefpbjkbmaicaaGreatDoor
set_option maxRecDepth 100000
set_option maxHeartbeats 0
section
open Go Go.Proofs Go.Maps Go.RowKit FM Tryz
def Zci:Value->Option (DataW Unit×List MemPlace)
 | .int .i64 n=>some (.lit (.int .i64 n), [])
 |_=>none
def zl (n:Int):DataW Unit:= .lit (.int .i64 n)
theorem Ua (n:Int):Zci (.int .i64 n)=some (zl n, []):=rfl
theorem Zab {v:Value} {n:Int} {ps:List MemPlace} (h:Zci v=some (zl n,ps)):v= .int .i64 n:=by
 unfold Zci at h
 split at h
 ·rename_i m
  have e:=congrArg Prod.fst (Option.some.inj h)
  simp[zl] at e
  rw[e]
 ·cases h
def zv:Option Nat->Int
 |none=>0
 |some n=>n
structure KE (κ:Type) where
 kt:TypeId
 mt:TypeId
 val:κ->Value
 ok:κ->Prop
 kl:κ->Lit
structure KE.Ok {κ:Type} (K:KE κ):Prop where
 law:Keyed prog K.kt
 und:prog.underlying K.mt=some (.map K.kt 3)
 key: ∀{k},K.ok k->keyOf prog K.kt (K.val k)=some (K.kl k)
 inj: ∀{a b},K.val a=K.val b->a=b
theorem KE.Ok.ne {κ:Type} {K:KE κ} (h:K.Ok) {a b:κ} (ha:K.ok a) (hb:K.ok b) (hne:a≠b):K.kl a≠K.kl b:=fun e=>hne (h.inj (h.law.inj (h.key ha) (e▸h.key hb)))
def MapK {κ:Type} (K:KE κ) (w:World) (b n:Nat) (F:κ->Option Nat):Prop:=
 ∃D:DataW Unit,w.ownsMap prog K.kt Zci b n D/\ ∀s,K.ok s->D.atKey (K.kl s) (zl 0)=zl (zv (F s))/\Maps.has D (K.kl s)=(F s).isSome
open Classical in
noncomputable def putK {κ:Type} (F:κ->Option Nat) (s:κ) (r:Option Nat):κ->Option Nat:=fun q=>if q=s then r else F q
theorem Gs {κ:Type} (F:κ->Option Nat) (s:κ) (r:Option Nat):putK F s r s=r:=by simp[putK]
theorem Gl {κ:Type} (F:κ->Option Nat) {s q:κ} (r:Option Nat) (h:q≠s):putK F s r q=F q:=by simp[putK,h]
section
variable {κ : Type} {K : KE κ} {w w' : World} {b n : Nat} {F : κ → Option Nat}
theorem MapK.made (K:KE κ) (w:World):MapK K (w.alloc (.map #[] 0)) w.heap.size 0 (fun _=>none):=⟨_,World.ownsMap_made w _ _ _,fun k _=>⟨rfl,rfl⟩⟩
theorem MapK.lt (h:MapK K w b n F):b<w.heap.size:=by
 obtain⟨D,h, -⟩:=h
 exact h.lt
theorem MapK.block (h:MapK K w b n F) (he:w'.heap[b]? =w.heap[b]?):MapK K w' b n F:=by
 obtain⟨D,⟨es,clock,hb,Ft,hs,hD⟩,h3⟩:=h
 exact⟨D,⟨es,clock,he.trans hb,Ft,hs,hD⟩,h3⟩
theorem zero3 (w:World):(zeroValue 3).run prog w= .ok (.int .i64 0) w:=by kernel_rfl
theorem MapK.look (O:K.Ok) (h:MapK K w b n F) {s:κ} (hk:K.ok s):(Instr.lookup K.mt (.map (some b)) (K.val s) true).run prog w= .ok (.tuple #[.int .i64 (zv (F s)), .bool (F s).isSome]) w:=by
 obtain⟨D,h,h3⟩:=h
 obtain⟨v,ps,hrun,hv⟩:=h.look_ok O.law O.und (zero3 w) (Ua 0) (O.key hk)
 obtain⟨h4,h5⟩:=h3 s hk
 have hv':Zci v=some (zl (zv (F s)),ps):=by rw[←h4];exact hv
 rw[hrun,h5,Zab hv']
theorem MapK.look1 (O:K.Ok) (h:MapK K w b n F) {s:κ} (hk:K.ok s):(Instr.lookup K.mt (.map (some b)) (K.val s) false).run prog w= .ok (.int .i64 (zv (F s))) w:=by
 obtain⟨D,h,h3⟩:=h
 obtain⟨v,ps,hrun,hv⟩:=h.lookup O.law O.und (zero3 w) (Ua 0) (O.key hk)
 obtain⟨h4,h5⟩:=h3 s hk
 have hv':Zci v=some (zl (zv (F s)),ps):=by rw[←h4];exact hv
 rw[hrun,Zab hv']
theorem MapK.store (O:K.Ok) (h:MapK K w b n F) {s:κ} (hk:K.ok s) (hn:n<maxLen) (r:Nat):
  ∃w',(Instr.mapUpdate K.mt (.map (some b)) (K.val s) (.int .i64 (r:Nat))).run prog w= .ok () w'/\MapK K w' b (n+1) (putK F s (some r))/\w.mapTurned w' b:=by
 obtain⟨D,h,h3⟩:=h
 obtain⟨w',hrun,ho,ht⟩:=h.store O.law O.und hn (O.key hk) (Ua r)
 have ti:=h.tidy O.law
 refine⟨w',hrun,⟨_,ho,fun q hq=> ?_⟩,ht⟩
 by_cases e:q=s
 ·subst e
  rw[atKey_put_same ti.isMap (O.law.key (O.key hk)),has_put_same ti.isMap (O.law.key (O.key hk)),Gs]
  exact⟨rfl,rfl⟩
 ·have ne:=O.ne hq hk e
  rw[atKey_put_other ne,has_put_other ne,Gl _ _ e]
  exact h3 q hq
theorem MapK.drop (O:K.Ok) (h:MapK K w b n F) {s:κ} (hk:K.ok s) (ty:TypeId):
  ∃w',(Builtin.delete_ #[K.mt,K.kt] ty #[.map (some b),K.val s]).run prog w= .ok (.tuple #[]) w'/\MapK K w' b n (putK F s none)/\w.mapTurned w' b:=by
 obtain⟨D,h,h3⟩:=h
 obtain⟨w',hrun,ho,ht⟩:=h.drop O.law O.und (O.key hk) ty
 refine⟨w',hrun,⟨_,ho,fun q hq=> ?_⟩,ht⟩
 by_cases e:q=s
 ·subst e
  rw[atKey_del_same,has_del_same,Gs]
  exact⟨rfl,rfl⟩
 ·have ne:=O.ne hq hk e
  rw[atKey_del_other ne,has_del_other ne,Gl _ _ e]
  exact h3 q hq
def Gd (K:KE κ) (b n:Nat) (F:κ->Option Nat):Ob:=⟨[b],fun X=>MapK K X b n F⟩
theorem Ns (K:KE κ) (b n:Nat) (F:κ->Option Nat):(Gd K b n F).Ok:=
 ⟨fun h k=>MapK.block k (h b (List.mem_singleton.2 rfl)),fun h c hc=>by obtain rfl:=List.mem_singleton.1 hc;exact MapK.lt h⟩
theorem Qa {w w':World} {b:Nat} (h:w.mapTurned w' b):Fr w w' [b]:=by
 obtain⟨es,clock,es',clock',hb,rfl⟩:=h
 exact Fr.grown (World.mapTurned.grown ⟨es,clock,es',clock',hb,rfl⟩)
end
def KS:KE ByteArray:=⟨9,83,fun s=> .string s,fun s=>s.size<=maxLen,fun s=> .string s.data.toList⟩
theorem KS_ok:KS.Ok:=⟨Keyed.of_law (WideMaps.string_law underlying9),by kernel_rfl,fun h=>WideMaps.keyOf_string_mk underlying9 h,fun {a b} h=>by
 have:Value.string a=Value.string b:=h
 simpa using this⟩
def KI:KE Int:=⟨3,84,fun n=> .int .i64 n,fun n=>(Lit.int .i64 n).wf=true,fun n=> .int .i64 n⟩
theorem KI_ok:KI.Ok:=⟨int_keyed underlying3,by kernel_rfl,fun {k} h=>by
 unfold KI at h ⊢
 dsimp only at h ⊢
 simp[keyOf,mapKey,underlying3,h],fun {a b} h=>by
 have:Value.int .i64 a=Value.int .i64 b:=h
 simpa using this⟩
