/-
  Proved here: for any list of names, any list of properties and any value, whatever their fields hold, the law NamespaceLive (promises 20.10 and 20.11: a namespace tells what was bound last, nobody changes it, its keys are the names in their order and the tag) returns true and leaves its arguments as they were.
  Conditions: the two tables of the library's UTF-8 package read as their texts lay them (the card ties them).
-/
import Derived.Test.YtieahhciibdnaaaGreatDoorCards
import Derived.Test.YtieahhciibdnaaaGreatDoorTie
import Derived.Test.YtieahhciibdnaaaGreatDoorRy
import Derived.Test.YtieahhciibdnaaaGreatDoorRz
import Derived.WalkKit
import Derived.SizedLaws
import Derived.ProofKit
import Derived.OpenShut
import Derived.ShutString
import Derived.ChangeOld
import Derived.Below
import Derived.Deep.DeepHandedRow
import Derived.Deep.DeepWitnessRowRef
import Derived.Lib.LaidIn
import Derived.Lib.LaidU8
import Derived.PinnedBridge
set_option linter.all false
set_option maxRecDepth 100000
set_option maxHeartbeats 2000000
namespace Go.Proofs.YtieahhciibdnaaaGreatDoor.namespaceLive
open Go.ChangeShapes Go.WideShapes Go.ChangeAt Go.RowKit
open Go.ChangeMaps (open_string shut_string)

theorem own:ownKnob Tryz.prog.godebug=none:=by kernel_rfl
theorem Qh:laidOutB Tryz.prog=true:=by kernel_rfl
theorem extra:U8Extra Tryz.prog Tryz.lays260_ren:=⟨by kernel_rfl,by kernel_rfl,by kernel_rfl,by kernel_rfl,by kernel_rfl,by kernel_rfl,by kernel_rfl⟩
theorem Zep:(Rows.laid_unicode_utf8_acceptRanges:DataW Unit)=Lib.acceptData:=by kernel_rfl
theorem ZdI:(Rows.namespaceLiveRow.laid.all fun x=>x.2.handleName?.isNone)=true:=by kernel_rfl

theorem tabs {W:World} (h:laidMetH Tryz.prog Rows.namespaceLiveRow.laid W):Lib.Utf8Tabs 1 2 W:=by
 rw[MakeChecks.laidMetH_plain _ _ _ ZdI] at h
 have h1 : Lib.VarReads Tryz.prog W "unicode/utf8.acceptRanges" Rows.laid_unicode_utf8_acceptRanges := Lib.laidMet.reads h (.head _)
 have h2 : Lib.VarReads Tryz.prog W "unicode/utf8.first" Go.Pinned.utf8First := Lib.laidMet.reads h (.tail _ (.head _))
 rw[Zep] at h1
 rw[Pinned.utf8First_eq] at h2
 exact utf8Tabs_of_reads Tryz.lays260 extra h2 h1

def Qg (w0:World):World:=
 let put (h:Array Obj) (g:Nat) (cs:Array Value):Array Obj:=h.modify g fun
  | .cells _ t frozen=> .cells cs t frozen
  |o=>o
 let h1:=put w0.heap 1 (Lib.firstTab.map fun z=>Value.int .u8 z).toArray
 let h2:=put h1 2 ((List.range 16).flatMap fun i=> [Value.int .u8 (Lib.accLo i),Value.int .u8 (Lib.accHi i)]).toArray
 {w0 with heap:=h2}
theorem laid_met (os:Os) (args:Array Value):laidMet Tryz.prog Rows.namespaceLiveRow.laid ((Qg (World.holding Tryz.prog os ⟨#[], #[], []⟩)).forCall (fun _ _=>0) ⟨#[],args, []⟩).memory:=
 (LaidIn.of_run (l := [("unicode/utf8.acceptRanges", Rows.laid_unicode_utf8_acceptRanges), ("unicode/utf8.first", Rows.laid_unicode_utf8_first)]) [2, 1] 8 (by kernel_rfl) (by kernel_rfl) (by kernel_rfl) (by kernel_rfl)).met
theorem six {W:World} (h:W.ShapedOpen Tryz.prog):6<=W.heap.size:=by
 obtain⟨cs5,hcs5, -, -⟩:=h.1 5 (Array.replicate 64 (.int .u8 0)) 296 (of_decide_eq_true (by kernel_rfl)) (by kernel_rfl)
 have:=(Array.getElem?_eq_some_iff.1 hcs5).1
 omega
def arg0:Value:= .slice none 0 0
def arg1:Value:= .slice none 0 0
def arg2:Value:=zeroV.agg
theorem ZaW (os:Os) {H:Type} (enc:TypeId×Value->H):
  (OpenSpec.ofChange Rows.namespaceLiveSpec).preRow enc Tryz.prog Tryz.f3 Rows.namespaceLiveRow.domain false Rows.namespaceLiveRow.laid ((Qg (World.holding Tryz.prog os ⟨#[], #[], []⟩)).forCall (fun _ _=>0) ⟨#[], #[arg0,arg1,arg2], []⟩).memory #[arg0,arg1,arg2]:=by
 have hw:(DataW.whole enc Tryz.prog ((Qg (World.holding Tryz.prog os ⟨#[], #[], []⟩)).forCall (fun _ _=>0) ⟨#[], #[arg0,arg1,arg2], []⟩).memory Tryz.f3.params.toList Rows.namespaceLiveSpec.vars false #[arg0,arg1,arg2].toList 8).map (fun x=>(x.1,x.2.1))=
   some ([.nil, .nil, .agg [.lit (.int .i64 0), .lit (.bool false), .lit (.float .f64 0), .lit (.string []), .lit (.int .i64 0)]], []):=by kernel_rfl
 obtain⟨⟨x1,x2,x3⟩,hx,hx1⟩:=Option.map_eq_some_iff.1 hw
 simp only[Prod.mk.injEq] at hx1
 obtain⟨rfl,rfl⟩:=hx1
 exact OpenSpec.preRow_of_cond 8 hx (by kernel_rfl) (fun k hk=>by cases hk) (by kernel_rfl) (laid_met os _)

theorem lifted (os:Os) (started:os.Started) (H:Type) (enc:TypeId×Value->H) (F:Stop.Interp):
  ReturnsInHanded {} Tryz.checked os 3 .any ((OpenSpec.ofChange Rows.namespaceLiveSpec).preRow enc Tryz.prog Tryz.f3 Rows.namespaceLiveRow.domain false Rows.namespaceLiveRow.laid) (((OpenSpec.ofChange Rows.namespaceLiveSpec).at F).post enc Tryz.prog Tryz.f3 false true false false):=by
 refine returnsInHanded_of_row (C:=Tryz.checked) (s:=OpenSpec.ofChange Rows.namespaceLiveSpec) own started (by kernel_rfl) Tryz.func3
  (witness_row_atRef (enc:=enc) (C:=Tryz.checked) false (Qg (World.holding Tryz.prog os ⟨#[], #[], []⟩)) #[arg0,arg1,arg2] rfl (by kernel_rfl) (by kernel_rfl) (by kernel_rfl) (ZaW os enc)) ?_
 intro W base args ds gs before hval0 hW _ hcond hsize hL hSh _
 have hval: ∀(j:Nat) t v,Tryz.f3.params[j]? =some t->args[j]? =some v->Value.okWide Tryz.prog W .any base t v:=hval0
 have hW':=hW
 obtain⟨p,q,hA0,hV,rfl,hfz,hnd⟩:=hW
 have hA:DataW.TrodAll enc Tryz.prog W 0 (fun _=>true) true Tryz.f3.params.toList args.toList ds p:=hA0
 rw[Tryz.params3] at hA hval
 obtain⟨v0,vs0,d0,ds0,p0,q0,hargs,rfl,rfl,h0,r0⟩:=trodAll_cons hA
 obtain⟨v1,vs1,d1,ds1,p1,q1,rfl,rfl,rfl,h1,r1⟩:=trodAll_cons r0
 obtain⟨v2,vs2,d2,ds2,p2,q2,rfl,rfl,rfl,h2,r2⟩:=trodAll_cons r1
 obtain⟨rfl,rfl,rfl⟩:=trodAll_nil r2
 obtain rfl:args= #[v0,v1,v2]:=by cases args;simp_all
 obtain⟨rfl,rfl⟩:=trodVars_none hV
 have lt0: ∀x∈p0,x.block<W.heap.size:=by obtain⟨m,hm⟩:=h0;exact DataW.trod_lt m _ _ _ hm
 have lt1: ∀x∈p1,x.block<W.heap.size:=by obtain⟨m,hm⟩:=h1;exact DataW.trod_lt m _ _ _ hm
 have lt2: ∀x∈p2,x.block<W.heap.size:=by obtain⟨m,hm⟩:=h2;exact DataW.trod_lt m _ _ _ hm
 obtain⟨A0,n0,c0,rfl⟩:=okWide_slice Tryz.underlying22 (hval 0 22 v0 rfl rfl)
 obtain⟨A1,n1,c1,rfl⟩:=okWide_slice Tryz.underlying23 (hval 1 23 v1 rfl rfl)
 obtain⟨vv,rfl,hvx⟩:=open_val (hval 2 26 v2 rfl rfl) h2
 obtain⟨ns,rfl,hN,hz1⟩:=ZdO rfl h0 (fun q hq=>by
  have h9:=List.all_eq_true.1 hsize q (DataW.weights_mem_each (j:=0) (t:=22) (by kernel_rfl) rfl q hq)
  simpa using h9)
 obtain⟨ps,rfl,hP,hz2,hFD,hOK⟩:=ZdN rfl h1 (fun q hq=>by
  have h9:=List.all_eq_true.1 hsize q (DataW.weights_mem_each (j:=1) (t:=23) (by kernel_rfl) rfl q hq)
  simpa using h9)
 clear hA0 hval0
 refine(law_live A0 A1 c0 c1 ns ps vv W (six hSh) ⟨tabs hL,trivial⟩ hN hP hFD hOK hz1 hz2).mono fun e W' ⟨he,bel⟩=> ?_
 subst he
 exact⟨_,rfl,_,_,_, [],_, [],hW',trodAll_mk1 (shut_bool Tryz.underlying4 _),(trodAll_cons_mk (Below.trod Qh (by kernel_rfl) (of_decide_eq_true (by kernel_rfl)) h0 bel lt0) (trodAll_cons_mk (Below.trod Qh (by kernel_rfl) (of_decide_eq_true (by kernel_rfl)) h1 bel lt1) (trodAll_cons_mk (Below.trod Qh (by kernel_rfl) (of_decide_eq_true (by kernel_rfl)) h2 bel lt2) trodAll_mk0))),rfl,bel.frame _,fun h=>by cases h⟩

theorem said:Rows.NamespaceLiveSaid:=
 OpenClaim.holds_of_cond 3 Tryz.f3 rfl rfl rfl rfl rfl rfl rfl ⟨rfl,rfl,rfl,rfl,rfl⟩ rfl rfl rfl rfl rfl (by kernel_rfl) Tryz.func3 (by kernel_rfl)
  (of_decide_eq_true (by kernel_rfl)) (by unfold Func.isWrapper;rw[if_neg (of_decide_eq_false (by kernel_rfl))];exact⟨rfl,rfl⟩)
  (fun os started H enc _ F=>by rw[OpenClaim.pre_eq_preRow];exact lifted os started H enc F)

theorem plain (f : FuncId) (fn : Func) (hf : Tryz.pinned.checked.prog.funcNamed "cameo/cameolaw20.NamespaceLive" = some f) (hfn : Tryz.pinned.checked.prog.funcs[f]? = some fn) :
  true=Tryz.pinned.checked.prog.looks []/\ ∀(j:Nat) t,fn.params[j]? =some t->Tryz.pinned.checked.prog.wantsStandIn t=false:=by
 obtain rfl : f = 3 := Option.some.inj ((show Tryz.prog.funcNamed "cameo/cameolaw20.NamespaceLive" = some 3 by kernel_rfl).symm.trans hf) |>.symm
 obtain rfl:fn=Tryz.f3:=(Option.some.inj (Tryz.func3.symm.trans hfn)).symm
 refine⟨by kernel_rfl,fun j t ht=> ?_⟩
 rw[Tryz.params3] at ht
 have hm:=Array.mem_of_getElem? ht
 simp at hm
 rcases hm with rfl|rfl|rfl
 ·exact(show Tryz.prog.wantsStandIn 22=false by kernel_rfl)
 ·exact(show Tryz.prog.wantsStandIn 23=false by kernel_rfl)
 ·exact(show Tryz.prog.wantsStandIn 26=false by kernel_rfl)

end Go.Proofs.YtieahhciibdnaaaGreatDoor.namespaceLive
namespace Go.Proofs.YtieahhciibdnaaaGreatDoor
set_option maxRecDepth 100000
set_option maxHeartbeats 0
theorem namespaceLive_card:Rows.NamespaceLiveCardSaid:=
 Claim7.holds_tied_plain_at .later [] _ _ _ _ namespaceLive.said (fun _ h=>by cases h) (by kernel_rfl) (fun _ h=>by cases h) namespaceLive_row_tie rfl ⟨rfl,rfl⟩ (by kernel_rfl) rfl namespaceLive.plain (by kernel_rfl)
#print axioms namespaceLive_card
end Go.Proofs.YtieahhciibdnaaaGreatDoor
