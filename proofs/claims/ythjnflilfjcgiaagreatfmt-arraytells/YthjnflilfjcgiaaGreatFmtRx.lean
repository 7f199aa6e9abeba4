import Derived.Test.YthjnflilfjcgiaaGreatFmtRw
import Derived.ProofKit
import Derived.OpenShut
import Derived.Deep.Slices
import Derived.ShutString
import Derived.ChangeOld
import Derived.Deep.DeepHandedRow
import Derived.Deep.DeepWitnessRef
import Derived.Deep.DeepWitnessRowRef
import Derived.Lib.LaidTab
import Derived.Lib.LaidIn
import Derived.Lib.LaidU8
import Derived.PinnedBridge
set_option linter.all false
namespace Go.Proofs.YthjnflilfjcgiaaGreatFmt
set_option maxRecDepth 100000
set_option maxHeartbeats 0
section
open Go.WideShapes Go.ChangeShapes Go Go.Proofs Go.Maps Go.RowKit FM
theorem cellsOf35:Tryz.prog.cellsOf 35=5:=by kernel_rfl
theorem cellsOf3:Tryz.prog.cellsOf 3=1:=by kernel_rfl
theorem cellsOf4:Tryz.prog.cellsOf 4=1:=by kernel_rfl
theorem cellsOf33:Tryz.prog.cellsOf 33=1:=by kernel_rfl
theorem cellsOf9:Tryz.prog.cellsOf 9=1:=by kernel_rfl
section
variable {H : Type} {enc : TypeId × Value → H} {P : Program} {W : World} {base : Nat} {sp : Nat → Bool} {held : Bool} {m : Nat} {c : Value} {x : DataW H × List MemPlace} {t : TypeId}
theorem cell_bool (hu:P.underlying t=some .bool) (h:DataW.trod enc P W base sp held m t [c]=some x): ∃b,c= .bool b/\x=(.lit (.bool b), []):=by
 cases m with
 |zero=>simp[DataW.trod] at h
 |succ m=>
  unfold DataW.trod at h
  rw[hu] at h
  split at h<;>simp_all
theorem wf64 {b:Nat} (h:(Lit.float .f64 b).wf=true):b<2^64:=by
 unfold Lit.wf at h
 exact of_decide_eq_true h
theorem cell_float (hu:P.underlying t=some (.float .f64)) (h:DataW.trod enc P W base sp held m t [c]=some x): ∃b,c= .float .f64 b/\b<2^64/\x=(.lit (.float .f64 b), []):=by
 cases m with
 |zero=>simp[DataW.trod] at h
 |succ m=>
  unfold DataW.trod at h
  rw[hu] at h
  split at h<;>simp_all
  rename_i e
  subst e
  exact wf64 h.1.2
theorem cell_string (hu:P.underlying t=some .string) (h:DataW.trod enc P W base sp held m t [c]=some x): ∃s,c= .string s/\s.size<=maxLen/\x=(.lit (.string s.data.toList), []):=by
 cases m with
 |zero=>simp[DataW.trod] at h
 |succ m=>
  unfold DataW.trod at h
  rw[hu] at h
  split at h<;>simp_all
theorem cell_int (hu:P.underlying t=some (.int .i64)) (h:DataW.trod enc P W base sp held m t [c]=some x): ∃n,c= .int .i64 n/\(Lit.int .i64 n).wf=true/\x=(.lit (.int .i64 n), []):=by
 cases m with
 |zero=>simp[DataW.trod] at h
 |succ m=>
  unfold DataW.trod at h
  rw[hu] at h
  split at h<;>simp_all
theorem cells_value' {f0 f1 f2 f3 f4:Field} {cs:List Value} (hs:P.underlying t=some (.struct #[f0,f1,f2,f3,f4])) (hC:P.cellsOf t=5)
  (o0:f0.offset=0) (o1:f1.offset=1) (o2:f2.offset=2) (o3:f3.offset=3) (o4:f4.offset=4)
  (u0:P.underlying f0.type=some (.int .i64)) (u1:P.underlying f1.type=some .bool) (u2:P.underlying f2.type=some (.float .f64)) (u3:P.underlying f3.type=some .string) (u4:P.underlying f4.type=some (.int .i64))
  (s0:P.cellsOf f0.type=1) (s1:P.cellsOf f1.type=1) (s2:P.cellsOf f2.type=1) (s3:P.cellsOf f3.type=1) (s4:P.cellsOf f4.type=1)
  (h:DataW.trod enc P W base sp held m t cs=some x):
  ∃u:VV,cs= [.int .i64 u.k, .bool u.b, .float .f64 u.x, .string u.s, .int .i64 u.i]/\u.x<2^64/\u.s.size<=maxLen/\(Lit.int .i64 u.k).wf=true/\(Lit.int .i64 u.i).wf=true:=by
 obtain⟨xs,n,_,rfl,hl,hlen,hf⟩:=DataW.trod_struct hs h
 rw[hC] at hl
 match cs,hl with
 | [c0,c1,c2,c3,c4],_=>
  have h0:=hf 0 _ rfl
  have h1:=hf 1 _ rfl
  have h2:=hf 2 _ rfl
  have h3:=hf 3 _ rfl
  have h4:=hf 4 _ rfl
  simp[s0,s1,s2,s3,s4,o0,o1,o2,o3,o4] at h0 h1 h2 h3 h4 hlen
  have g: ∀j,j<5-> ∃y,xs[j]? =some y:=fun j hj=>⟨_,List.getElem?_eq_getElem (by omega)⟩
  obtain⟨y0,e0⟩:=g 0 (by omega)
  obtain⟨y1,e1⟩:=g 1 (by omega)
  obtain⟨y2,e2⟩:=g 2 (by omega)
  obtain⟨y3,e3⟩:=g 3 (by omega)
  obtain⟨y4,e4⟩:=g 4 (by omega)
  rw[e0] at h0
  rw[e1] at h1
  rw[e2] at h2
  rw[e3] at h3
  rw[e4] at h4
  obtain⟨k,rfl,wk, -⟩:=cell_int u0 h0
  obtain⟨b,rfl, -⟩:=cell_bool u1 h1
  obtain⟨f,rfl,wf, -⟩:=cell_float u2 h2
  obtain⟨s,rfl,ws, -⟩:=cell_string u3 h3
  obtain⟨i,rfl,wi, -⟩:=cell_int u4 h4
  exact⟨⟨k,b,f,s,i⟩,rfl,wf,ws,wk,wi⟩
end
theorem cells_value {H:Type} {enc:TypeId×Value->H} {W:World} {base:Nat} {sp:Nat->Bool} {held:Bool} {m:Nat} {x:DataW H×List MemPlace} {cs:List Value} (h:DataW.trod enc Tryz.prog W base sp held m 35 cs=some x):
  ∃u:VV,cs=u.cs/\u.x<2^64:=by
 obtain⟨u,h1,h2,_⟩:=cells_value' Tryz.underlying35 cellsOf35 rfl rfl rfl rfl rfl Tryz.underlying3 Tryz.underlying4 Tryz.underlying33 Tryz.underlying9 Tryz.underlying3 cellsOf3 cellsOf4 cellsOf33 cellsOf9 cellsOf3 h
 exact⟨u,h1,h2⟩
theorem add_plain (b o i:Nat):(Addr.add ⟨b,o,none⟩ i)=⟨b,o+i,none⟩:=by
 unfold Addr.add
 by_cases h:i=0
 ·subst h;simp
 ·simp[h]
theorem cell_spot' {w:World} {b o:Nat} {sp:Option Nat} {v:Value} (h:w.cell? ⟨b,o,sp⟩=some v):sp=none/\b<w.heap.size:=by
 constructor
 ·cases sp with
  |none=>rfl
  |some s=>
   simp only[World.cell?] at h
   split at h<;>simp at h
 ·rcases Nat.lt_or_ge b w.heap.size with h'|h'
  ·exact h'
  ·simp[World.cell?,Array.getElem?_eq_none h'] at h
theorem rows_of {α:Type} {f:α->List Value} {k:Nat} (hk: ∀a,(f a).length=k) (h0:0<k) {Pr:α->Prop} {W:World} {a:Addr} {n:Nat} (each: ∀i,i<n-> ∃u:α,Pr u/\W.cells? 0 (a.add (i * k)) k=some (f u)):
  ∃l:List α,l.length=n/\ ∀(j:Nat) (u:α),l[j]? =some u->Pr u/\ ∃b off,a=⟨b,off,none⟩/\b<W.heap.size/\W.rangeAt b (off+j * k) (f u):=by
 have mk: ∀q,q<=n-> ∃l:List α,l.length=q/\ ∀(i:Nat) (u:α),l[i]? =some u->Pr u/\W.cells? 0 (a.add (i * k)) k=some (f u):=by
  intro q
  induction q with
  |zero=>exact fun _=>⟨[],rfl,fun i u hu=>by simp at hu⟩
  |succ q ih=>
   intro hq
   obtain⟨l,hl,hl2⟩:=ih (by omega)
   obtain⟨u,hu2⟩:=each q (by omega)
   refine⟨l++ [u],by simp[hl],fun i u' hu'=> ?_⟩
   rcases Nat.lt_or_ge i l.length with h1|h1
   ·rw[List.getElem?_append_left h1] at hu'
    exact hl2 i u' hu'
   ·rw[List.getElem?_append_right h1] at hu'
    have h3:=(List.getElem?_eq_some_iff.1 hu').1
    have h4:i=q:=by simp at h3;omega
    subst h4
    rw[hl,Nat.sub_self] at hu'
    obtain rfl:u=u':=by simpa using hu'
    exact hu2
 obtain⟨l,hll,hlc⟩:=mk n (Nat.le_refl _)
 refine⟨l,hll,fun j u hu=>⟨(hlc j u hu).1, ?_⟩⟩
 have h1:=(World.cells?_some (hlc j u hu).2).2.2
 obtain⟨b,off,sp⟩:=a
 have hl0:0<l.length:=Nat.lt_of_le_of_lt (Nat.zero_le _) (List.getElem?_eq_some_iff.1 hu).1
 have h00:=(World.cells?_some (hlc 0 l[0] (List.getElem?_eq_getElem hl0)).2).2.2 0 h0
 have e0:(Addr.add (Addr.add ⟨b,off,sp⟩ (0 * k)) 0)=⟨b,off,sp⟩:=by simp[Addr.add]
 have hlen:0<(f l[0]).length:=by rw[hk];exact h0
 rw[e0,List.getElem?_eq_getElem hlen] at h00
 obtain⟨rfl,hb⟩:=cell_spot' h00
 refine⟨b,off,rfl,hb,fun t v hv=> ?_⟩
 have ht:t<k:=by
  have:=(List.getElem?_eq_some_iff.1 hv).1
  rwa [hk] at this
 have h2:=h1 t ht
 rw[add_plain,add_plain] at h2
 rw[h2]
 exact hv
theorem open_rowV {H:Type} {enc:TypeId×Value->H} {W:World} {v:Value} {d:DataW H} {p:List MemPlace} {A:Option Addr} {n cap:Nat} (hv:v= .slice A n cap) (h:DataW.Trod enc Tryz.prog W 0 (fun _=>true) true 22 v d p): ∃l:List VV,n=l.length/\ReadsV W A l/\n<=cap/\ ∀(i:Nat) (u:VV),l[i]? =some u->u.x<2^64:=by
 subst hv
 obtain⟨fuel,hf⟩:=h
 rcases Go.Deep.open_slice Tryz.underlying22 hf with ⟨hcs,hx⟩|⟨a,len,cap',mm,k,D,Pl,hcs,_,hl,hm,hme,hx,hel⟩
 ·simp[Value.cells] at hcs
  obtain⟨rfl,rfl,rfl⟩:=hcs
  exact⟨[],rfl,fun j u hu=>by simp at hu,Nat.le_refl _,fun i u hu=>by simp at hu⟩
 ·simp[Value.cells] at hcs
  obtain⟨rfl,rfl,rfl⟩:=hcs
  have hme':n<=mm:=by
   simp at hme
   omega
  have each: ∀i,i<n-> ∃u:VV,u.x<2^64/\W.cells? 0 (a.add (i * 5)) 5=some u.cs:=by
   intro i hi
   obtain⟨cs',h1,h2⟩:=hel i (by omega)
   obtain⟨u,rfl,hu⟩:=cells_value h2
   rw[cellsOf35] at h1
   exact⟨u,hu,h1⟩
  obtain⟨l,hll,hlr⟩:=rows_of vcs_length (by omega) each
  refine⟨l,hll.symm,fun j u hu=> ?_,hl,fun i u hu=>(hlr i u hu).1⟩
  obtain⟨_,b,off,rfl,h6,h7⟩:=hlr j u hu
  exact⟨b,off,rfl,h6,h7⟩
end
end Go.Proofs.YthjnflilfjcgiaaGreatFmt
namespace Go.Proofs.YthjnflilfjcgiaaGreatFmt.arrayTells
open Go.ChangeShapes Go.WideShapes Go.ChangeAt Go.RowKit
open Go.ChangeMaps (open_string shut_string)
def tab32:List Int:= [0,1,28,2,29,14,24,3,30,22,20,15,25,17,4,8,31,27,13,23,21,19,16,7,26,12,18,6,11,5,10,9]
def tab64:List Int:= [0,1,56,2,57,49,28,3,61,58,42,50,38,29,17,4,62,47,59,36,45,43,51,22,53,39,33,30,24,18,12,5,63,55,48,27,60,41,37,16,46,35,44,21,52,32,23,11,54,26,40,15,34,20,31,10,25,14,19,9,13,8,7,6]
theorem own:ownKnob Tryz.prog.godebug=none:=by kernel_rfl
theorem laidOut:laidOutB Tryz.prog=true:=by kernel_rfl
theorem extra:U8Extra Tryz.prog Tryz.lays260_ren:=⟨by kernel_rfl,by kernel_rfl,by kernel_rfl,by kernel_rfl,by kernel_rfl,by kernel_rfl,by kernel_rfl⟩
theorem accept_eq:(Rows.laid_unicode_utf8_acceptRanges:DataW Unit)=Lib.acceptData:=by kernel_rfl
theorem pow_eq:(Rows.laid_internal_strconv_uint64pow10:DataW Unit)=Lib.tabData .u64 Lib.pow10Tab:=by kernel_rfl
theorem plainLaid:(Rows.arrayTellsRow.laid.all fun x=>x.2.handleName?.isNone)=true:=by kernel_rfl

theorem tabs {W:World} (h:laidMetH Tryz.prog Rows.arrayTellsRow.laid W):Lib.Utf8Tabs 4 5 W:=by
 rw[MakeChecks.laidMetH_plain _ _ _ plainLaid] at h
 have h1 : Lib.VarReads Tryz.prog W "unicode/utf8.acceptRanges" Rows.laid_unicode_utf8_acceptRanges := Lib.laidMet.reads h (.tail _ (.tail _ (.tail _ (.head _))))
 have h2 : Lib.VarReads Tryz.prog W "unicode/utf8.first" Go.Pinned.utf8First := Lib.laidMet.reads h (.tail _ (.tail _ (.tail _ (.tail _ (.head _)))))
 rw[accept_eq] at h1
 rw[Pinned.utf8First_eq] at h2
 exact utf8Tabs_of_reads Tryz.lays260 extra h2 h1
theorem tabPow {W:World} (h:laidMetH Tryz.prog Rows.arrayTellsRow.laid W):TabP W:=by
 rw[MakeChecks.laidMetH_plain _ _ _ plainLaid] at h
 have h1 : Lib.VarReads Tryz.prog W "internal/strconv.uint64pow10" Rows.laid_internal_strconv_uint64pow10 := Lib.laidMet.reads h (.tail _ (.tail _ (.head _)))
 rw[pow_eq] at h1
 obtain⟨g',t',cs,fuel,p,hg',ht',hvar,hd⟩:=h1
 obtain rfl := Option.some.inj ((show Tryz.prog.globalNamed "internal/strconv.uint64pow10" = some 1 by kernel_rfl).symm.trans hg')
 obtain rfl:=Option.some.inj ((show (Tryz.prog.globals[1]?).map (·.type)=some 182 by kernel_rfl).symm.trans ht')
 unfold TabP Lib.TabIs
 rw[hvar,←Lib.cells_of_tab Tryz.underlying182 Tryz.underlying46 (by kernel_rfl) (by kernel_rfl) hd]

def laidOver (w0:World):World:=
 let put (h:Array Obj) (g:Nat) (cs:Array Value):Array Obj:=h.modify g fun
  | .cells _ t frozen=> .cells cs t frozen
  |o=>o
 let h1:=put w0.heap 1 (Lib.pow10Tab.map fun z=>Value.int .u64 z).toArray
 let h2:=put h1 4 (Lib.firstTab.map fun z=>Value.int .u8 z).toArray
 let h3:=put h2 5 ((List.range 16).flatMap fun i=> [Value.int .u8 (Lib.accLo i),Value.int .u8 (Lib.accHi i)]).toArray
 let h4:=put h3 2 (tab32.map fun z=>Value.int .u8 z).toArray
 let h5:=put h4 3 (tab64.map fun z=>Value.int .u8 z).toArray
 {w0 with heap:=h5}
theorem laid_met (os:Os) (args:Array Value):laidMet Tryz.prog Rows.arrayTellsRow.laid ((laidOver (World.holding Tryz.prog os ⟨#[], #[], []⟩)).forCall (fun _ _=>0) ⟨#[],args, []⟩).memory:=
 (LaidIn.of_run (l := [("math/bits.deBruijn32tab", Rows.laid_math_bits_deBruijn32tab), ("math/bits.deBruijn64tab", Rows.laid_math_bits_deBruijn64tab), ("internal/strconv.uint64pow10", Rows.laid_internal_strconv_uint64pow10), ("unicode/utf8.acceptRanges", Rows.laid_unicode_utf8_acceptRanges), ("unicode/utf8.first", Rows.laid_unicode_utf8_first)]) [2, 3, 1, 5, 4] 8 (by kernel_rfl) (by kernel_rfl) (by kernel_rfl) (by kernel_rfl)).met
theorem witness_row (os:Os) (tape:Tape) {H:Type} (enc:TypeId×Value->H):
  (OpenSpec.ofChange Rows.arrayTellsSpec).preRow enc Tryz.prog Tryz.f3 Rows.arrayTellsRow.domain false Rows.arrayTellsRow.laid ((laidOver (World.holding Tryz.prog os ⟨#[], #[], []⟩)).forCall tape ⟨#[], #[.slice none 0 0, .int .i64 0], []⟩).memory #[.slice none 0 0, .int .i64 0]:=by
 have hw:(DataW.whole enc Tryz.prog ((laidOver (World.holding Tryz.prog os ⟨#[], #[], []⟩)).forCall tape ⟨#[], #[.slice none 0 0, .int .i64 0], []⟩).memory Tryz.f3.params.toList Rows.arrayTellsSpec.vars false (#[.slice none 0 0, .int .i64 0]:Array Value).toList 8).map (fun x=>(x.1,x.2.1))=
   some ([.nil, .lit (.int .i64 0)], []):=by kernel_rfl
 obtain⟨⟨x1,x2,x3⟩,hx,hx1⟩:=Option.map_eq_some_iff.1 hw
 simp only[Prod.mk.injEq] at hx1
 obtain⟨rfl,rfl⟩:=hx1
 exact OpenSpec.preRow_of_cond 8 hx (by kernel_rfl) (fun k hk=>by cases hk) (by kernel_rfl) (laid_met os _)

set_option maxRecDepth 100000 in
set_option maxHeartbeats 2000000 in
theorem lifted (os:Os) (started:os.Started) (H:Type) (enc:TypeId×Value->H):
  ReturnsInTold none {} Tryz.checked os 3 .any Input.okWide ((OpenSpec.ofChange Rows.arrayTellsSpec).preRow enc Tryz.prog Tryz.f3 Rows.arrayTellsRow.domain false Rows.arrayTellsRow.laid) (fun F=>((OpenSpec.ofChange Rows.arrayTellsSpec).at F).post enc Tryz.prog Tryz.f3 false true false false) (aloneAtReturn Tryz.prog) nothingAlways:=by
 refine returnsInTold_of_row (C:=Tryz.checked) (s:=OpenSpec.ofChange Rows.arrayTellsSpec) (by kernel_rfl) own started (by kernel_rfl) Tryz.func3
  (OpenSpec.witness_stopped_atRef (enc:=enc) (C:=Tryz.checked) false (laidOver (World.holding Tryz.prog os ⟨#[], #[], []⟩)) #[.slice none 0 0, .int .i64 0] rfl (by kernel_rfl) (by kernel_rfl) (by kernel_rfl) (witness_row os _ enc)) ?_
 intro F W base args ds gs before _ hF hval0 hW _ hcond hsz hL _
 have hval: ∀(j:Nat) t v,Tryz.f3.params[j]? =some t->args[j]? =some v->Value.okWide Tryz.prog W .any base t v:=hval0
 have hW':=hW
 obtain⟨p,q,hA0,hV,rfl,hfz,hnd⟩:=hW
 have hA:DataW.TrodAll enc Tryz.prog W 0 (fun _=>true) true Tryz.f3.params.toList args.toList ds p:=hA0
 rw[Tryz.params3] at hA hval
 obtain⟨v0,vs0,d0,ds0,p0,q0,hargs,rfl,rfl,h0,r0⟩:=trodAll_cons hA
 obtain⟨v1,vs1,d1,ds1,p1,q1,rfl,rfl,rfl,h1,r1⟩:=trodAll_cons r0
 obtain⟨rfl,rfl,rfl⟩:=trodAll_nil r1
 obtain rfl:args= #[v0,v1]:=by cases args;simp_all
 obtain⟨rfl,rfl⟩:=trodVars_none hV
 obtain⟨A,n,cap,rfl⟩:=okWide_slice Tryz.underlying22 (hval 0 22 v0 rfl rfl)
 obtain⟨m,rfl⟩:=okWide_int Tryz.underlying3 (hval 1 3 v1 rfl rfl)
 have lt0: ∀x∈p0,x.block<W.heap.size:=by obtain⟨m,hm⟩:=h0;exact DataW.trod_lt m _ _ _ hm
 have lt1: ∀x∈p1,x.block<W.heap.size:=by obtain⟨m,hm⟩:=h1;exact DataW.trod_lt m _ _ _ hm
 obtain⟨l,rfl,hr,hcap,hx⟩:=open_rowV rfl h0
 clear hA0 hval0
 refine(law_tells A cap l m W (tabs_size (tabs hL)) ⟨tabs hL,tabPow hL⟩ hr hx).mono fun e W' ⟨he,bel⟩=> ?_
 subst he
 exact⟨_,rfl,_,_,_, [],_, [],hW',trodAll_mk1 (shut_bool Tryz.underlying4 _),(trodAll_cons_mk (Below.trod laidOut (by kernel_rfl) (of_decide_eq_true (by kernel_rfl)) h0 bel lt0) (trodAll_cons_mk (Below.trod laidOut (by kernel_rfl) (of_decide_eq_true (by kernel_rfl)) h1 bel lt1) trodAll_mk0)),rfl,bel.frame _,fun h=>by cases h⟩

end Go.Proofs.YthjnflilfjcgiaaGreatFmt.arrayTells
