/-
  Proved here: for any string, any list of properties (keys and descriptors, whatever their fields hold) and either flag, the law StrobjTells (promises 16.1 and 16.5: nobody changes a string) returns true and leaves its arguments as they were.
  Conditions: the five tables of the library that the road reads (powers of ten, two of package math/bits, two of the UTF-8 package) read as their texts lay them (the card ties them).
-/
import Derived.Test.YtlpdllcedgnaaaaGreatDoorCards
import Derived.Test.YtlpdllcedgnaaaaGreatDoorTie
import Derived.Test.YtlpdllcedgnaaaaGreatDoorRz
import Derived.WalkKit
import Derived.ProofKit
import Derived.OpenShut
import Derived.ShutString
import Derived.ChangeOld
import Derived.Below
import Derived.Deep.DeepHandedRow
import Derived.Deep.DeepWitnessRowRef
import Derived.Lib.LaidTab
import Derived.Lib.LaidIn
import Derived.Lib.LaidU8
import Derived.PinnedBridge
set_option linter.all false
set_option maxRecDepth 100000
namespace Go.Proofs.YtlpdllcedgnaaaaGreatDoor.strobjTells
open Go.ChangeShapes Go.WideShapes Go.ChangeAt Go.RowKit
open Go.ChangeMaps (open_string shut_string)

def tab32:List Int:= [0,1,28,2,29,14,24,3,30,22,20,15,25,17,4,8,31,27,13,23,21,19,16,7,26,12,18,6,11,5,10,9]
def tab64:List Int:= [0,1,56,2,57,49,28,3,61,58,42,50,38,29,17,4,62,47,59,36,45,43,51,22,53,39,33,30,24,18,12,5,63,55,48,27,60,41,37,16,46,35,44,21,52,32,23,11,54,26,40,15,34,20,31,10,25,14,19,9,13,8,7,6]
theorem own:ownKnob Tryz.prog.godebug=none:=by kernel_rfl
theorem Oo:laidOutB Tryz.prog=true:=by kernel_rfl
theorem extra:U8Extra Tryz.prog Tryz.lays260_ren:=⟨by kernel_rfl,by kernel_rfl,by kernel_rfl,by kernel_rfl,by kernel_rfl,by kernel_rfl,by kernel_rfl⟩
theorem ZdJ:(Rows.laid_unicode_utf8_acceptRanges:DataW Unit)=Lib.acceptData:=by kernel_rfl
theorem pow_eq:(Rows.laid_internal_strconv_uint64pow10:DataW Unit)=Lib.tabData .u64 Lib.pow10Tab:=by kernel_rfl
theorem Xo:(Rows.strobjTellsRow.laid.all fun x=>x.2.handleName?.isNone)=true:=by kernel_rfl

theorem tabs {W:World} (h:laidMetH Tryz.prog Rows.strobjTellsRow.laid W):Lib.Utf8Tabs 0 1 W:=by
 rw[MakeChecks.laidMetH_plain _ _ _ Xo] at h
 have h1 : Lib.VarReads Tryz.prog W "unicode/utf8.acceptRanges" Rows.laid_unicode_utf8_acceptRanges := Lib.laidMet.reads h (.tail _ (.tail _ (.tail _ (.head _))))
 have h2 : Lib.VarReads Tryz.prog W "unicode/utf8.first" Go.Pinned.utf8First := Lib.laidMet.reads h (.tail _ (.tail _ (.tail _ (.tail _ (.head _)))))
 rw[ZdJ] at h1
 rw[Pinned.utf8First_eq] at h2
 exact utf8Tabs_of_reads Tryz.lays260 extra h2 h1
theorem tabPow {W:World} (h:laidMetH Tryz.prog Rows.strobjTellsRow.laid W):TabP W:=by
 rw[MakeChecks.laidMetH_plain _ _ _ Xo] at h
 have h1 : Lib.VarReads Tryz.prog W "internal/strconv.uint64pow10" Rows.laid_internal_strconv_uint64pow10 := Lib.laidMet.reads h (.tail _ (.tail _ (.head _)))
 rw[pow_eq] at h1
 obtain⟨g',t',cs,fuel,p,hg',ht',hvar,hd⟩:=h1
 obtain rfl := Option.some.inj ((show Tryz.prog.globalNamed "internal/strconv.uint64pow10" = some 2 by kernel_rfl).symm.trans hg')
 obtain rfl:=Option.some.inj ((show (Tryz.prog.globals[2]?).map (·.type)=some 205 by kernel_rfl).symm.trans ht')
 unfold TabP Lib.TabIs
 rw[hvar,←Lib.cells_of_tab Tryz.underlying205 Tryz.underlying101 (by kernel_rfl) (by kernel_rfl) hd]

theorem size3 {w:World} (h2:TabP w):3<=w.heap.size:=by
 unfold TabP Lib.TabIs World.var? at h2
 have hg : Tryz.prog.globalNamed "internal/strconv.uint64pow10" = some 2 := by kernel_rfl
 simp only[hg,Option.bind_some] at h2
 rcases Nat.lt_or_ge 2 w.heap.size with h'|h'
 ·exact h'
 ·rw[Array.getElem?_eq_none h'] at h2;simp at h2
theorem ZcW (s:ByteArray) (A:Option Addr) (c:Nat) (ds:List (KK×DD)) (sh:Bool) (w:World) (h6:3<=w.heap.size) (hT:Tabs w) (hR:Qb w A ds) (hF: ∀e∈ds,FD e.2):Calls Tryz.prog 3 #[.string s, .slice A ds.length c, .bool sh] w fun e w'=>e= .returned (.bool true)/\Below w.heap.size w w':=by
 by_cases hz:ds.length<=40
 ·by_cases hs:s.size<=500
  ·cases hf:Gh s
   ·exact ZcX s A c ds sh w h6 hT hR hF hz hs hf
   ·exact Zbj s A c ds sh w h6 hT hR hF hz hs hf
  ·exact Zbk s A c ds sh w h6 hT hR hF hz (by omega)
 ·exact Zbl s A c ds sh w h6 hT hR hF (by omega)

def On (w0:World):World:=
 let put (h:Array Obj) (g:Nat) (cs:Array Value):Array Obj:=h.modify g fun
  | .cells _ t frozen=> .cells cs t frozen
  |o=>o
 let h1:=put w0.heap 2 (Lib.pow10Tab.map fun z=>Value.int .u64 z).toArray
 let h2:=put h1 0 (Lib.firstTab.map fun z=>Value.int .u8 z).toArray
 let h3:=put h2 1 ((List.range 16).flatMap fun i=> [Value.int .u8 (Lib.accLo i),Value.int .u8 (Lib.accHi i)]).toArray
 let h4:=put h3 5 (tab32.map fun z=>Value.int .u8 z).toArray
 let h5:=put h4 6 (tab64.map fun z=>Value.int .u8 z).toArray
 {w0 with heap:=h5}
theorem laid_met (os:Os) (args:Array Value):laidMet Tryz.prog Rows.strobjTellsRow.laid ((On (World.holding Tryz.prog os ⟨#[], #[], []⟩)).forCall (fun _ _=>0) ⟨#[],args, []⟩).memory:=
 (LaidIn.of_run (l := [("math/bits.deBruijn32tab", Rows.laid_math_bits_deBruijn32tab), ("math/bits.deBruijn64tab", Rows.laid_math_bits_deBruijn64tab), ("internal/strconv.uint64pow10", Rows.laid_internal_strconv_uint64pow10), ("unicode/utf8.acceptRanges", Rows.laid_unicode_utf8_acceptRanges), ("unicode/utf8.first", Rows.laid_unicode_utf8_first)]) [5, 6, 2, 1, 0] 8 (by kernel_rfl) (by kernel_rfl) (by kernel_rfl) (by kernel_rfl)).met
def arg0:Value:= .string ByteArray.empty
def arg1:Value:= .slice none 0 0
def arg2:Value:= .bool false
theorem Zz (os:Os) {H:Type} (enc:TypeId×Value->H):
  (OpenSpec.ofChange Rows.strobjTellsSpec).preRow enc Tryz.prog Tryz.f3 Rows.strobjTellsRow.domain false Rows.strobjTellsRow.laid ((On (World.holding Tryz.prog os ⟨#[], #[], []⟩)).forCall (fun _ _=>0) ⟨#[], #[arg0,arg1,arg2], []⟩).memory #[arg0,arg1,arg2]:=by
 have hw:(DataW.whole enc Tryz.prog ((On (World.holding Tryz.prog os ⟨#[], #[], []⟩)).forCall (fun _ _=>0) ⟨#[], #[arg0,arg1,arg2], []⟩).memory Tryz.f3.params.toList Rows.strobjTellsSpec.vars false #[arg0,arg1,arg2].toList 8).map (fun x=>(x.1,x.2.1))=
   some ([.lit (.string []), .nil, .lit (.bool false)], []):=by kernel_rfl
 obtain⟨⟨x1,x2,x3⟩,hx,hx1⟩:=Option.map_eq_some_iff.1 hw
 simp only[Prod.mk.injEq] at hx1
 obtain⟨rfl,rfl⟩:=hx1
 exact OpenSpec.preRow_of_cond 8 hx (by kernel_rfl) (fun k hk=>by cases hk) (by kernel_rfl) (laid_met os _)

theorem lifted (os:Os) (started:os.Started) (H:Type) (enc:TypeId×Value->H) (F:Stop.Interp):
  ReturnsInHanded {} Tryz.checked os 3 .any ((OpenSpec.ofChange Rows.strobjTellsSpec).preRow enc Tryz.prog Tryz.f3 Rows.strobjTellsRow.domain false Rows.strobjTellsRow.laid) (((OpenSpec.ofChange Rows.strobjTellsSpec).at F).post enc Tryz.prog Tryz.f3 false true false false):=by
 refine returnsInHanded_of_row (C:=Tryz.checked) (s:=OpenSpec.ofChange Rows.strobjTellsSpec) own started (by kernel_rfl) Tryz.func3
  (witness_row_atRef (enc:=enc) (C:=Tryz.checked) false (On (World.holding Tryz.prog os ⟨#[], #[], []⟩)) #[arg0,arg1,arg2] rfl (by kernel_rfl) (by kernel_rfl) (by kernel_rfl) (Zz os enc)) ?_
 intro W base args ds gs before hval0 hW _ hcond _ hL _ _
 have hval: ∀(j:Nat) t v,Tryz.f3.params[j]? =some t->args[j]? =some v->Value.okWide Tryz.prog W .any base t v:=hval0
 have hW':=hW
 obtain⟨p,q,hA0,hV,rfl,hfz,hnd⟩:=hW
 have hA:DataW.TrodAll enc Tryz.prog W 0 (fun _=>true) true Tryz.f3.params.toList args.toList ds p:=hA0
 rw[Tryz.params3] at hA hval
 obtain⟨v0,v1,v2,d0,d1,d2,p0,p1,p2,rfl,rfl,rfl,h0,h1,h2⟩:=trodAll_three hA
 obtain⟨rfl,rfl⟩:=trodVars_none hV
 have lt0: ∀x∈p0,x.block<W.heap.size:=by obtain⟨m,hm⟩:=h0;exact DataW.trod_lt m _ _ _ hm
 have lt1: ∀x∈p1,x.block<W.heap.size:=by obtain⟨m,hm⟩:=h1;exact DataW.trod_lt m _ _ _ hm
 have lt2: ∀x∈p2,x.block<W.heap.size:=by obtain⟨m,hm⟩:=h2;exact DataW.trod_lt m _ _ _ hm
 obtain⟨s,rfl,rfl,rfl,w0⟩:=open_string Tryz.underlying9 (hval 0 9 v0 rfl rfl) h0
 obtain⟨A0,n0,cap0,rfl⟩:=okWide_slice Tryz.underlying22 (hval 1 22 v1 rfl rfl)
 obtain⟨sh,rfl,rfl,rfl⟩:=open_bool Tryz.underlying4 (hval 2 4 v2 rfl rfl) h2
 have h11:=h1
 obtain⟨m1,hm1⟩:=h11
 obtain⟨A,cap,l,hcs,hR,hF⟩:=Zdd hm1
 simp only[Value.cells,List.cons.injEq,and_true] at hcs
 cases hcs
 clear hA0 hval0
 refine(ZcW s _ _ l sh W (size3 (tabPow hL)) ⟨tabs hL,tabPow hL⟩ hR hF).mono fun e W' ⟨he,bel⟩=> ?_
 subst he
 exact⟨_,rfl,_,_,_, [],_, [],hW',trodAll_mk1 (shut_bool Tryz.underlying4 _),(trodAll_cons_mk (Below.trod Oo (by kernel_rfl) (of_decide_eq_true (by kernel_rfl)) h0 bel lt0) (trodAll_cons_mk (Below.trod Oo (by kernel_rfl) (of_decide_eq_true (by kernel_rfl)) h1 bel lt1) (trodAll_cons_mk (Below.trod Oo (by kernel_rfl) (of_decide_eq_true (by kernel_rfl)) h2 bel lt2) trodAll_mk0))),rfl,bel.frame _,fun h=>by cases h⟩

theorem said:Rows.StrobjTellsSaid:=
 OpenClaim.holds_of_cond 3 Tryz.f3 rfl rfl rfl rfl rfl rfl rfl ⟨rfl,rfl,rfl,rfl,rfl⟩ rfl rfl rfl rfl rfl (by kernel_rfl) Tryz.func3 (by kernel_rfl)
  (of_decide_eq_true (by kernel_rfl)) (by unfold Func.isWrapper;rw[if_neg (of_decide_eq_false (by kernel_rfl))];exact⟨rfl,rfl⟩)
  (fun os started H enc _ F=>by rw[OpenClaim.pre_eq_preRow];exact lifted os started H enc F)

theorem plain (f : FuncId) (fn : Func) (hf : Tryz.pinned.checked.prog.funcNamed "cameo/cameolaw16.StrobjTells" = some f) (hfn : Tryz.pinned.checked.prog.funcs[f]? = some fn) :
  true=Tryz.pinned.checked.prog.looks []/\ ∀(j:Nat) t,fn.params[j]? =some t->Tryz.pinned.checked.prog.wantsStandIn t=false:=by
 obtain rfl : f = 3 := Option.some.inj ((show Tryz.prog.funcNamed "cameo/cameolaw16.StrobjTells" = some 3 by kernel_rfl).symm.trans hf) |>.symm
 obtain rfl:fn=Tryz.f3:=(Option.some.inj (Tryz.func3.symm.trans hfn)).symm
 refine⟨by kernel_rfl,fun j t ht=> ?_⟩
 rw[Tryz.params3] at ht
 have hm:=Array.mem_of_getElem? ht
 simp at hm
 rcases hm with rfl|rfl|rfl
 ·exact(show Tryz.prog.wantsStandIn 9=false by kernel_rfl)
 ·exact(show Tryz.prog.wantsStandIn 22=false by kernel_rfl)
 ·exact(show Tryz.prog.wantsStandIn 4=false by kernel_rfl)

end Go.Proofs.YtlpdllcedgnaaaaGreatDoor.strobjTells
namespace Go.Proofs.YtlpdllcedgnaaaaGreatDoor
set_option maxRecDepth 100000
set_option maxHeartbeats 0
theorem strobjTells_card:Rows.StrobjTellsCardSaid:=
 Claim7.holds_tied_plain_at .later [] _ _ _ _ strobjTells.said (fun _ h=>by cases h) (by kernel_rfl) (fun _ h=>by cases h) strobjTells_row_tie rfl ⟨rfl,rfl⟩ (by kernel_rfl) rfl strobjTells.plain (by kernel_rfl)
#print axioms strobjTells_card
end Go.Proofs.YtlpdllcedgnaaaaGreatDoor
