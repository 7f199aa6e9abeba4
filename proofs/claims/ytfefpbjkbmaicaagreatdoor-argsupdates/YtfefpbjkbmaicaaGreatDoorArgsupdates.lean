/-
  Proved here: for any list of values, any list of names, any number, any descriptor and any value, whatever their fields hold, the law ArgsUpdates (promise 13.6: a mapped object's elements and its parameters follow one another: a definition, a set, a delete, a set for another receiver) returns true and leaves its arguments as they were.
  Conditions: the five tables of the library that the road reads (powers of ten, two of package math/bits, two of the UTF-8 package) read as their texts lay them (the card ties them).
-/
import Derived.Test.YtfefpbjkbmaicaaGreatDoorCards
import Derived.Test.YtfefpbjkbmaicaaGreatDoorTie
import Derived.Test.YtfefpbjkbmaicaaGreatDoorRy
import Derived.Test.YtfefpbjkbmaicaaGreatDoorRz
import Derived.WalkKit
import Derived.SizedLaws
import Derived.ProofKit
import Derived.OpenShut
import Derived.ShutString
import Derived.ChangeOld
import Derived.Below
import Derived.Deep.DeepHandedRow
import Derived.Deep.DeepWitnessRowRef
import Derived.Lib.LaidTab
import Derived.Lib.LaidIn
import Derived.Lib.LaidU8
import Derived.PinnedBridge
set_option linter.all false
set_option maxRecDepth 100000
namespace Go.Proofs.YtfefpbjkbmaicaaGreatDoor.argsUpdates
open Go.ChangeShapes Go.WideShapes Go.ChangeAt Go.RowKit
open Go.ChangeMaps (open_string shut_string)

def tab32:List Int:= [0,1,28,2,29,14,24,3,30,22,20,15,25,17,4,8,31,27,13,23,21,19,16,7,26,12,18,6,11,5,10,9]
def tab64:List Int:= [0,1,56,2,57,49,28,3,61,58,42,50,38,29,17,4,62,47,59,36,45,43,51,22,53,39,33,30,24,18,12,5,63,55,48,27,60,41,37,16,46,35,44,21,52,32,23,11,54,26,40,15,34,20,31,10,25,14,19,9,13,8,7,6]
theorem own:ownKnob Tryz.prog.godebug=none:=by kernel_rfl
theorem Me:laidOutB Tryz.prog=true:=by kernel_rfl
theorem extra:U8Extra Tryz.prog Tryz.lays260_ren:=⟨by kernel_rfl,by kernel_rfl,by kernel_rfl,by kernel_rfl,by kernel_rfl,by kernel_rfl,by kernel_rfl⟩
theorem ZcB:(Rows.laid_unicode_utf8_acceptRanges:DataW Unit)=Lib.acceptData:=by kernel_rfl
theorem pow_eq:(Rows.laid_internal_strconv_uint64pow10:DataW Unit)=Lib.tabData .u64 Lib.pow10Tab:=by kernel_rfl
theorem Vk:(Rows.argsUpdatesRow.laid.all fun x=>x.2.handleName?.isNone)=true:=by kernel_rfl

theorem tabs {W:World} (h:laidMetH Tryz.prog Rows.argsUpdatesRow.laid W):Lib.Utf8Tabs 4 5 W:=by
 rw[MakeChecks.laidMetH_plain _ _ _ Vk] at h
 have h1 : Lib.VarReads Tryz.prog W "unicode/utf8.acceptRanges" Rows.laid_unicode_utf8_acceptRanges := Lib.laidMet.reads h (.tail _ (.tail _ (.tail _ (.head _))))
 have h2 : Lib.VarReads Tryz.prog W "unicode/utf8.first" Go.Pinned.utf8First := Lib.laidMet.reads h (.tail _ (.tail _ (.tail _ (.tail _ (.head _)))))
 rw[ZcB] at h1
 rw[Pinned.utf8First_eq] at h2
 exact utf8Tabs_of_reads Tryz.lays260 extra h2 h1
theorem tabPow {W:World} (h:laidMetH Tryz.prog Rows.argsUpdatesRow.laid W):TabP W:=by
 rw[MakeChecks.laidMetH_plain _ _ _ Vk] at h
 have h1 : Lib.VarReads Tryz.prog W "internal/strconv.uint64pow10" Rows.laid_internal_strconv_uint64pow10 := Lib.laidMet.reads h (.tail _ (.tail _ (.head _)))
 rw[pow_eq] at h1
 obtain⟨g',t',cs,fuel,p,hg',ht',hvar,hd⟩:=h1
 obtain rfl := Option.some.inj ((show Tryz.prog.globalNamed "internal/strconv.uint64pow10" = some 1 by kernel_rfl).symm.trans hg')
 obtain rfl:=Option.some.inj ((show (Tryz.prog.globals[1]?).map (·.type)=some 167 by kernel_rfl).symm.trans ht')
 unfold TabP Lib.TabIs
 rw[hvar,←Lib.cells_of_tab Tryz.underlying167 Tryz.underlying91 (by kernel_rfl) (by kernel_rfl) hd]

def Pp (w0:World):World:=
 let put (h:Array Obj) (g:Nat) (cs:Array Value):Array Obj:=h.modify g fun
  | .cells _ t frozen=> .cells cs t frozen
  |o=>o
 let h1:=put w0.heap 1 (Lib.pow10Tab.map fun z=>Value.int .u64 z).toArray
 let h2:=put h1 4 (Lib.firstTab.map fun z=>Value.int .u8 z).toArray
 let h3:=put h2 5 ((List.range 16).flatMap fun i=> [Value.int .u8 (Lib.accLo i),Value.int .u8 (Lib.accHi i)]).toArray
 let h4:=put h3 2 (tab32.map fun z=>Value.int .u8 z).toArray
 let h5:=put h4 3 (tab64.map fun z=>Value.int .u8 z).toArray
 {w0 with heap:=h5}
theorem laid_met (os:Os) (args:Array Value):laidMet Tryz.prog Rows.argsUpdatesRow.laid ((Pp (World.holding Tryz.prog os ⟨#[], #[], []⟩)).forCall (fun _ _=>0) ⟨#[],args, []⟩).memory:=
 (LaidIn.of_run (l := [("math/bits.deBruijn32tab", Rows.laid_math_bits_deBruijn32tab), ("math/bits.deBruijn64tab", Rows.laid_math_bits_deBruijn64tab), ("internal/strconv.uint64pow10", Rows.laid_internal_strconv_uint64pow10), ("unicode/utf8.acceptRanges", Rows.laid_unicode_utf8_acceptRanges), ("unicode/utf8.first", Rows.laid_unicode_utf8_first)]) [2, 3, 1, 5, 4] 8 (by kernel_rfl) (by kernel_rfl) (by kernel_rfl) (by kernel_rfl)).met
def arg0:Value:= .slice none 0 0
def arg1:Value:= .slice none 0 0
def arg2:Value:= .int .i64 0
def arg3:Value:=Bx.agg
def arg4:Value:=Bz.agg
theorem Yn (os:Os) {H:Type} (enc:TypeId×Value->H):
  (OpenSpec.ofChange Rows.argsUpdatesSpec).preRow enc Tryz.prog Tryz.f3 Rows.argsUpdatesRow.domain false Rows.argsUpdatesRow.laid ((Pp (World.holding Tryz.prog os ⟨#[], #[], []⟩)).forCall (fun _ _=>0) ⟨#[], #[arg0,arg1,arg2,arg3,arg4], []⟩).memory #[arg0,arg1,arg2,arg3,arg4]:=by
 have hw:(DataW.whole enc Tryz.prog ((Pp (World.holding Tryz.prog os ⟨#[], #[], []⟩)).forCall (fun _ _=>0) ⟨#[], #[arg0,arg1,arg2,arg3,arg4], []⟩).memory Tryz.f3.params.toList Rows.argsUpdatesSpec.vars false #[arg0,arg1,arg2,arg3,arg4].toList 8).map (fun x=>(x.1,x.2.1))=
   some ([.nil, .nil, .lit (.int .i64 0), .agg [.agg [.lit (.int .i64 0), .lit (.bool false), .lit (.float .f64 0), .lit (.string []), .lit (.int .i64 0)], .agg [.lit (.int .i64 0), .lit (.bool false), .lit (.float .f64 0), .lit (.string []), .lit (.int .i64 0)], .agg [.lit (.int .i64 0), .lit (.bool false), .lit (.float .f64 0), .lit (.string []), .lit (.int .i64 0)], .lit (.int .i64 0), .lit (.int .i64 0), .lit (.int .i64 0)], .agg [.lit (.int .i64 0), .lit (.bool false), .lit (.float .f64 0), .lit (.string []), .lit (.int .i64 0)]], []):=by kernel_rfl
 obtain⟨⟨x1,x2,x3⟩,hx,hx1⟩:=Option.map_eq_some_iff.1 hw
 simp only[Prod.mk.injEq] at hx1
 obtain⟨rfl,rfl⟩:=hx1
 exact OpenSpec.preRow_of_cond 8 hx (by kernel_rfl) (fun k hk=>by cases hk) (by kernel_rfl) (laid_met os _)

theorem lifted (os:Os) (started:os.Started) (H:Type) (enc:TypeId×Value->H) (F:Stop.Interp):
  ReturnsInHanded {} Tryz.checked os 3 .any ((OpenSpec.ofChange Rows.argsUpdatesSpec).preRow enc Tryz.prog Tryz.f3 Rows.argsUpdatesRow.domain false Rows.argsUpdatesRow.laid) (((OpenSpec.ofChange Rows.argsUpdatesSpec).at F).post enc Tryz.prog Tryz.f3 false true false false):=by
 refine returnsInHanded_of_row (C:=Tryz.checked) (s:=OpenSpec.ofChange Rows.argsUpdatesSpec) own started (by kernel_rfl) Tryz.func3
  (witness_row_atRef (enc:=enc) (C:=Tryz.checked) false (Pp (World.holding Tryz.prog os ⟨#[], #[], []⟩)) #[arg0,arg1,arg2,arg3,arg4] rfl (by kernel_rfl) (by kernel_rfl) (by kernel_rfl) (Yn os enc)) ?_
 intro W base args ds gs before hval0 hW _ hcond hsize hL _ _
 have hval: ∀(j:Nat) t v,Tryz.f3.params[j]? =some t->args[j]? =some v->Value.okWide Tryz.prog W .any base t v:=hval0
 have hW':=hW
 obtain⟨p,q,hA0,hV,rfl,hfz,hnd⟩:=hW
 have hA:DataW.TrodAll enc Tryz.prog W 0 (fun _=>true) true Tryz.f3.params.toList args.toList ds p:=hA0
 rw[Tryz.params3] at hA hval
 obtain⟨v0,vs0,d0,ds0,p0,q0,hargs,rfl,rfl,h0,r0⟩:=trodAll_cons hA
 obtain⟨v1,vs1,d1,ds1,p1,q1,rfl,rfl,rfl,h1,r1⟩:=trodAll_cons r0
 obtain⟨v2,vs2,d2,ds2,p2,q2,rfl,rfl,rfl,h2,r2⟩:=trodAll_cons r1
 obtain⟨v3,vs3,d3,ds3,p3,q3,rfl,rfl,rfl,h3,r3⟩:=trodAll_cons r2
 obtain⟨v4,vs4,d4,ds4,p4,q4,rfl,rfl,rfl,h4,r4⟩:=trodAll_cons r3
 obtain⟨rfl,rfl,rfl⟩:=trodAll_nil r4
 obtain rfl:args= #[v0,v1,v2,v3,v4]:=by cases args;simp_all
 obtain⟨rfl,rfl⟩:=trodVars_none hV
 have lt0: ∀x∈p0,x.block<W.heap.size:=by obtain⟨m,hm⟩:=h0;exact DataW.trod_lt m _ _ _ hm
 have lt1: ∀x∈p1,x.block<W.heap.size:=by obtain⟨m,hm⟩:=h1;exact DataW.trod_lt m _ _ _ hm
 have lt2: ∀x∈p2,x.block<W.heap.size:=by obtain⟨m,hm⟩:=h2;exact DataW.trod_lt m _ _ _ hm
 have lt3: ∀x∈p3,x.block<W.heap.size:=by obtain⟨m,hm⟩:=h3;exact DataW.trod_lt m _ _ _ hm
 have lt4: ∀x∈p4,x.block<W.heap.size:=by obtain⟨m,hm⟩:=h4;exact DataW.trod_lt m _ _ _ hm
 obtain⟨A0,n0,c0,rfl⟩:=okWide_slice Tryz.underlying22 (hval 0 22 v0 rfl rfl)
 obtain⟨A1,n1,c1,rfl⟩:=okWide_slice Tryz.underlying23 (hval 1 23 v1 rfl rfl)
 obtain⟨n,rfl,rfl,rfl,hwf⟩:=open_int Tryz.underlying3 (hval 2 3 v2 rfl rfl) h2
 obtain⟨dd,rfl,hFd⟩:=open_dsc (hval 3 29 v3 rfl rfl) h3
 obtain⟨vv,rfl,hvx⟩:=open_val (hval 4 26 v4 rfl rfl) h4
 obtain⟨l,rfl,hR,hz1,hX⟩:=Zca rfl h0 (fun q hq=>by
  have h9:=List.all_eq_true.1 hsize q (DataW.weights_mem_each (j:=0) (t:=22) (by kernel_rfl) rfl q hq)
  simpa using h9)
 obtain⟨ns,rfl,hN,hz2⟩:=Zcb rfl h1 (fun q hq=>by
  have h9:=List.all_eq_true.1 hsize q (DataW.weights_mem_each (j:=1) (t:=23) (by kernel_rfl) rfl q hq)
  simpa using h9)
 clear hA0 hval0
 refine(Yq _ _ _ _ l ns n dd vv W (Vg (tabs hL)) ⟨tabs hL,tabPow hL⟩ hR hN hz1 hz2 hX hFd hvx hwf).mono fun e W' ⟨he,bel⟩=> ?_
 subst he
 exact⟨_,rfl,_,_,_, [],_, [],hW',trodAll_mk1 (shut_bool Tryz.underlying4 _),(trodAll_cons_mk (Below.trod Me (by kernel_rfl) (of_decide_eq_true (by kernel_rfl)) h0 bel lt0) (trodAll_cons_mk (Below.trod Me (by kernel_rfl) (of_decide_eq_true (by kernel_rfl)) h1 bel lt1) (trodAll_cons_mk (Below.trod Me (by kernel_rfl) (of_decide_eq_true (by kernel_rfl)) h2 bel lt2) (trodAll_cons_mk (Below.trod Me (by kernel_rfl) (of_decide_eq_true (by kernel_rfl)) h3 bel lt3) (trodAll_cons_mk (Below.trod Me (by kernel_rfl) (of_decide_eq_true (by kernel_rfl)) h4 bel lt4) trodAll_mk0))))),rfl,bel.frame _,fun h=>by cases h⟩

theorem said:Rows.ArgsUpdatesSaid:=
 OpenClaim.holds_of_cond 3 Tryz.f3 rfl rfl rfl rfl rfl rfl rfl ⟨rfl,rfl,rfl,rfl,rfl⟩ rfl rfl rfl rfl rfl (by kernel_rfl) Tryz.func3 (by kernel_rfl)
  (of_decide_eq_true (by kernel_rfl)) (by unfold Func.isWrapper;rw[if_neg (of_decide_eq_false (by kernel_rfl))];exact⟨rfl,rfl⟩)
  (fun os started H enc _ F=>by rw[OpenClaim.pre_eq_preRow];exact lifted os started H enc F)

theorem plain (f : FuncId) (fn : Func) (hf : Tryz.pinned.checked.prog.funcNamed "cameo/cameolaw13.ArgsUpdates" = some f) (hfn : Tryz.pinned.checked.prog.funcs[f]? = some fn) :
  true=Tryz.pinned.checked.prog.looks []/\ ∀(j:Nat) t,fn.params[j]? =some t->Tryz.pinned.checked.prog.wantsStandIn t=false:=by
 obtain rfl : f = 3 := Option.some.inj ((show Tryz.prog.funcNamed "cameo/cameolaw13.ArgsUpdates" = some 3 by kernel_rfl).symm.trans hf) |>.symm
 obtain rfl:fn=Tryz.f3:=(Option.some.inj (Tryz.func3.symm.trans hfn)).symm
 refine⟨by kernel_rfl,fun j t ht=> ?_⟩
 rw[Tryz.params3] at ht
 have hm:=Array.mem_of_getElem? ht
 simp at hm
 rcases hm with rfl|rfl|rfl|rfl|rfl
 ·exact(show Tryz.prog.wantsStandIn 22=false by kernel_rfl)
 ·exact(show Tryz.prog.wantsStandIn 23=false by kernel_rfl)
 ·exact(show Tryz.prog.wantsStandIn 3=false by kernel_rfl)
 ·exact(show Tryz.prog.wantsStandIn 29=false by kernel_rfl)
 ·exact(show Tryz.prog.wantsStandIn 26=false by kernel_rfl)

end Go.Proofs.YtfefpbjkbmaicaaGreatDoor.argsUpdates
namespace Go.Proofs.YtfefpbjkbmaicaaGreatDoor
set_option maxRecDepth 100000
set_option maxHeartbeats 0
theorem argsUpdates_card:Rows.ArgsUpdatesCardSaid:=
 Claim7.holds_tied_plain_at .later [] _ _ _ _ argsUpdates.said (fun _ h=>by cases h) (by kernel_rfl) (fun _ h=>by cases h) argsUpdates_row_tie rfl ⟨rfl,rfl⟩ (by kernel_rfl) rfl argsUpdates.plain (by kernel_rfl)
#print axioms argsUpdates_card
end Go.Proofs.YtfefpbjkbmaicaaGreatDoor
