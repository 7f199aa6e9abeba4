/-
  Proved here: for any heap that is asked for and any list of acts, whatever they hold, the law InvariantHolds returns true and leaves its argument as it was.
  Conditions: the argument's bulk is at most that of the second form (1048576: its own bound); the two tables of the library's UTF-8 package read as their texts lay them (the card ties them). What the table of powers of ten in package strconv holds is left open: the row doesn't list it.
-/
import Derived.Test.YthcmamjpfigdfaaGreatDoorCards
import Derived.Test.YthcmamjpfigdfaaGreatDoorTie
import Derived.Test.YthcmamjpfigdfaaGreatDoorRz
import Derived.Test.YthcmamjpfigdfaaGreatDoorRu
import Derived.WalkKit
import Derived.ProofKit
import Derived.OpenShut
import Derived.ShutString
import Derived.ChangeOld
import Derived.Below
import Derived.Deep.DeepHandedRow
import Derived.Deep.DeepWitnessRowRef
import Derived.Lib.LaidIn
import Derived.Lib.LaidU8
import Derived.PinnedBridge
import Derived.Deep.Slices
import Derived.SizedLaws
set_option linter.all false
set_option maxRecDepth 100000
set_option maxHeartbeats 2000000
namespace Go.Proofs.YthcmamjpfigdfaaGreatDoor.invariantHolds
open Go.ChangeShapes Go.WideShapes Go.ChangeAt Go.RowKit
open Go.ChangeMaps (open_string shut_string)

theorem own:ownKnob Tryz.prog.godebug=none:=by kernel_rfl
theorem Zcl:laidOutB Tryz.prog=true:=by kernel_rfl
theorem extra:U8Extra Tryz.prog Tryz.lays260_ren:=⟨by kernel_rfl,by kernel_rfl,by kernel_rfl,by kernel_rfl,by kernel_rfl,by kernel_rfl,by kernel_rfl⟩
theorem ZgP:(Rows.laid_unicode_utf8_acceptRanges:DataW Unit)=Lib.acceptData:=by kernel_rfl
theorem Zf3:(Rows.invariantHoldsUptoRow.laid.all fun x=>x.2.handleName?.isNone)=true:=by kernel_rfl

theorem tabs {W:World} (h:laidMetH Tryz.prog Rows.invariantHoldsUptoRow.laid W):Lib.Utf8Tabs 1 2 W:=by
 rw[MakeChecks.laidMetH_plain _ _ _ Zf3] at h
 have h1 : Lib.VarReads Tryz.prog W "unicode/utf8.acceptRanges" Rows.laid_unicode_utf8_acceptRanges := Lib.laidMet.reads h (.head _)
 have h2 : Lib.VarReads Tryz.prog W "unicode/utf8.first" Go.Pinned.utf8First := Lib.laidMet.reads h (.tail _ (.head _))
 rw[ZgP] at h1
 rw[Pinned.utf8First_eq] at h2
 exact utf8Tabs_of_reads Tryz.lays260 extra h2 h1
theorem Zf2:Tryz.prog.cellTypes Tryz.prog.depth 324=some (List.replicate 20 114):=by kernel_rfl
theorem pow_cell {W:World} {v:Value} (hc:Cell.ok Tryz.prog W .any 0 114 v):v= .int .u64 (RowKit.intOf v):=by
 unfold Cell.ok at hc
 rw[Tryz.underlying114] at hc
 cases v with
 |int k n=>
  obtain⟨rfl, -⟩:=hc
  rfl
 |_=>exact hc.elim
theorem pow {W:World} (h:W.ShapedOpen Tryz.prog):TabQ W/\6<=W.heap.size:=by
 obtain⟨cs,hcs,hsz,hok⟩:=h.1 3 (Array.replicate 20 (.int .u64 0)) 324 (of_decide_eq_true (by kernel_rfl)) (by kernel_rfl)
 obtain⟨cs5,hcs5, -, -⟩:=h.1 5 (Array.replicate 64 (.int .u8 0)) 327 (of_decide_eq_true (by kernel_rfl)) (by kernel_rfl)
 refine⟨⟨cs.toList.map RowKit.intOf, ?_, ?_⟩, ?_⟩
 ·rw[List.length_map,Array.length_toList,hsz,Array.size_replicate]
 ·obtain⟨ts,hts, -,hall⟩:=hok (by kernel_rfl)
  rw[Zf2] at hts
  obtain rfl:=(Option.some.inj hts).symm
  have hg : Tryz.prog.globalNamed "internal/strconv.uint64pow10" = some 3 := by kernel_rfl
  unfold Lib.TabIs World.var?
  simp only[hg,Option.bind_some,hcs]
  refine congrArg some (Array.ext (by simp) (fun i h1 h2=> ?_))
  obtain⟨u,hu,hc⟩:=hall i cs[i] (Array.getElem?_eq_getElem h1)
  obtain rfl:u=114:=by
   have:=List.mem_of_getElem? hu
   exact List.eq_of_mem_replicate this
  have hk:=pow_cell hc
  simp only[List.getElem_toArray,List.getElem_map,Array.getElem_toList]
  exact hk
 ·have:=(Array.getElem?_eq_some_iff.1 hcs5).1
  omega

def Ve (w0:World):World:=
 let put (h:Array Obj) (g:Nat) (cs:Array Value):Array Obj:=h.modify g fun
  | .cells _ t frozen=> .cells cs t frozen
  |o=>o
 let h1:=put w0.heap 1 (Lib.firstTab.map fun z=>Value.int .u8 z).toArray
 let h2:=put h1 2 ((List.range 16).flatMap fun i=> [Value.int .u8 (Lib.accLo i),Value.int .u8 (Lib.accHi i)]).toArray
 {w0 with heap:=h2}
theorem laid_met (os:Os) (args:Array Value):laidMet Tryz.prog Rows.invariantHoldsUptoRow.laid ((Ve (World.holding Tryz.prog os ⟨#[], #[], []⟩)).forCall (fun _ _=>0) ⟨#[],args, []⟩).memory:=
 (LaidIn.of_run (l := [("unicode/utf8.acceptRanges", Rows.laid_unicode_utf8_acceptRanges), ("unicode/utf8.first", Rows.laid_unicode_utf8_first)]) [2, 1] 8 (by kernel_rfl) (by kernel_rfl) (by kernel_rfl) (by kernel_rfl)).met
def arg:Value:= .agg #[.int .i64 0, .int .i64 0, .int .i64 0, .slice none 0 0]
theorem ZcQ (os:Os) {H:Type} (enc:TypeId×Value->H):
  (Rows.OpenSpec.upto Rows.invariantHoldsSpec).preRow enc Tryz.prog Tryz.f4 Rows.invariantHoldsUptoRow.domain false Rows.invariantHoldsUptoRow.laid ((Ve (World.holding Tryz.prog os ⟨#[], #[], []⟩)).forCall (fun _ _=>0) ⟨#[], #[arg], []⟩).memory #[arg]:=by
 have hw:(DataW.whole enc Tryz.prog ((Ve (World.holding Tryz.prog os ⟨#[], #[], []⟩)).forCall (fun _ _=>0) ⟨#[], #[arg], []⟩).memory Tryz.f4.params.toList Rows.invariantHoldsSpec.vars false (#[arg]:Array Value).toList 8).map (fun x=>(x.1,x.2.1))=
   some ([.agg [.lit (.int .i64 0), .lit (.int .i64 0), .lit (.int .i64 0), .nil]], []):=by kernel_rfl
 obtain⟨⟨x1,x2,x3⟩,hx,hx1⟩:=Option.map_eq_some_iff.1 hw
 simp only[Prod.mk.injEq] at hx1
 obtain⟨rfl,rfl⟩:=hx1
 exact OpenSpec.preRow_of_cond 8 hx (by kernel_rfl) (fun k hk=>by cases hk;kernel_rfl) (by kernel_rfl) (laid_met os _)

theorem Zem (os:Os) (started:os.Started) (H:Type) (enc:TypeId×Value->H) (F:Stop.Interp):
  ReturnsInHanded {} Tryz.checked os 4 .any ((Rows.OpenSpec.upto Rows.invariantHoldsSpec).preRow enc Tryz.prog Tryz.f4 Rows.invariantHoldsUptoRow.domain false Rows.invariantHoldsUptoRow.laid) (((Rows.OpenSpec.upto Rows.invariantHoldsSpec).at F).post enc Tryz.prog Tryz.f4 false true false false):=by
 refine returnsInHanded_of_row (C:=Tryz.checked) (s:=Rows.OpenSpec.upto Rows.invariantHoldsSpec) own started (by kernel_rfl) Tryz.func4
  (witness_row_atRef (enc:=enc) (C:=Tryz.checked) false (Ve (World.holding Tryz.prog os ⟨#[], #[], []⟩)) #[arg] rfl (by kernel_rfl) (by kernel_rfl) (by kernel_rfl) (ZcQ os enc)) ?_
 intro W base args ds gs before hval0 hW _ hcond _ hL hSh _
 have hval: ∀(j:Nat) t v,Tryz.f4.params[j]? =some t->args[j]? =some v->Value.okWide Tryz.prog W .any base t v:=hval0
 have hbulk:Rows.uptoSmall H (ds++gs)=true:=hcond _ rfl
 have hW':=hW
 obtain⟨p,q,hA0,hV,rfl,hfz,hnd⟩:=hW
 have hA:DataW.TrodAll enc Tryz.prog W 0 (fun _=>true) true Tryz.f4.params.toList args.toList ds p:=hA0
 rw[Tryz.params4] at hA hval
 obtain⟨v0,d0,rfl,rfl,h0⟩:=trodAll_one hA
 obtain⟨rfl,rfl⟩:=trodVars_none hV
 have hb:=of_decide_eq_true hbulk
 simp only[List.append_nil,Rows.uptoBulkAll] at hb
 have lt0: ∀x∈p,x.block<W.heap.size:=by obtain⟨m,hm⟩:=h0;exact DataW.trod_lt m _ _ _ hm
 obtain⟨cs,rfl,hsz⟩:=okWide_struct Tryz.underlying24 (hval 0 24 v0 rfl rfl)
 have h00:=h0
 obtain⟨fuel,hf⟩:=h00
 obtain⟨c,f,d,A,cp,ts,hcs,hf1,hz,hR,hp⟩:=ZdH (x:=(d0,p)) (by show Rows.uptoBulk d0<=1048576;omega) hf
 have hcs2:cs=(Vx c f d (.slice A ts.length cp)).toArray:=by
  have:cs.toList=Vx c f d (.slice A ts.length cp):=hcs
  rw[←this]
 subst hcs2
 clear hA0 hval0 hf hcs
 obtain⟨hPow,h6⟩:=pow hSh
 refine(holds_l c f d A cp ts W ⟨tabs hL,hPow⟩ h6 hf1 hz (fun t ht=>⟨(hp t ht).1,(hp t ht).2.1,fun X hX=>⟨fun j v hj=>by obtain⟨b,off,g1,g2,g3⟩:=(hp t ht).2.2.1 j v hj;exact⟨b,off,g1,Nat.lt_of_lt_of_le g2 hX.size,Jj g3 g2 hX⟩,ReadsP.on (hp t ht).2.2.2 hX⟩⟩) hR).mono fun e W' ⟨he,bel⟩=> ?_
 subst he
 exact⟨_,rfl,_,_,_, [],_, [],hW',trodAll_mk1 (shut_bool Tryz.underlying4 _),(trodAll_mk1 (Below.trod Zcl (by kernel_rfl) (of_decide_eq_true (by kernel_rfl)) h0 bel lt0)),rfl,bel.frame _,fun h=>by cases h⟩

theorem saidUpto:Rows.InvariantHoldsUptoSaid:=
 OpenClaim.holds_of_cond 4 Tryz.f4 rfl rfl rfl rfl rfl rfl rfl ⟨rfl,rfl,rfl,rfl,rfl⟩ rfl rfl rfl rfl rfl (by kernel_rfl) Tryz.func4 (by kernel_rfl)
  (of_decide_eq_true (by kernel_rfl)) (by unfold Func.isWrapper;rw[if_neg (of_decide_eq_false (by kernel_rfl))];exact⟨rfl,rfl⟩)
  (fun os started H enc _ F=>by rw[OpenClaim.pre_eq_preRow];exact Zem os started H enc F)

theorem plain (f : FuncId) (fn : Func) (hf : Tryz.pinned.checked.prog.funcNamed "cameo/cameolaw10.InvariantHolds" = some f) (hfn : Tryz.pinned.checked.prog.funcs[f]? = some fn) :
  true=Tryz.pinned.checked.prog.looks []/\ ∀(j:Nat) t,fn.params[j]? =some t->Tryz.pinned.checked.prog.wantsStandIn t=false:=by
 obtain rfl : f = 4 := Option.some.inj ((show Tryz.prog.funcNamed "cameo/cameolaw10.InvariantHolds" = some 4 by kernel_rfl).symm.trans hf) |>.symm
 obtain rfl:fn=Tryz.f4:=(Option.some.inj (Tryz.func4.symm.trans hfn)).symm
 refine⟨by kernel_rfl,fun j t ht=> ?_⟩
 rw[Tryz.params4] at ht
 have hm:=Array.mem_of_getElem? ht
 simp at hm
 subst hm
 exact(show Tryz.prog.wantsStandIn 24=false by kernel_rfl)

end Go.Proofs.YthcmamjpfigdfaaGreatDoor.invariantHolds
namespace Go.Proofs.YthcmamjpfigdfaaGreatDoor
set_option maxRecDepth 100000
set_option maxHeartbeats 0
theorem invariantHolds_card:Rows.InvariantHoldsUptoCardSaid:=
 Claim7.holds_tied_plain_at .later [] _ _ _ _ invariantHolds.saidUpto (fun _ h=>by cases h) (by kernel_rfl) (fun _ h=>by cases h) invariantHoldsUpto_row_tie rfl ⟨rfl,rfl⟩ (by kernel_rfl) rfl invariantHolds.plain (by kernel_rfl)
#print axioms invariantHolds_card
end Go.Proofs.YthcmamjpfigdfaaGreatDoor
