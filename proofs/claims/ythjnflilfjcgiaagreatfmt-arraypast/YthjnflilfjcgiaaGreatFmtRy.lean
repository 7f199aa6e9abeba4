import Derived.Test.YthjnflilfjcgiaaGreatFmtRx
import Derived.Test.YthjnflilfjcgiaaGreatFmtCards
import Derived.Test.YthjnflilfjcgiaaGreatFmtTie
import Derived.ShutString
import Derived.ChangeOld
import Derived.Deep.DeepHandedRow
import Derived.Deep.DeepWitnessRef
import Derived.Deep.DeepWitnessRowRef
import Derived.Lib.LaidTab
import Derived.Lib.LaidIn
import Derived.Lib.LaidU8
import Derived.PinnedBridge
import Derived.Stop.JoinedTold
import Derived.SevenTiedAt
set_option linter.all false
namespace Go.Proofs.YthjnflilfjcgiaaGreatFmt.arrayPast
open Go.ChangeShapes Go.WideShapes Go.ChangeAt Go.RowKit
open Go.ChangeMaps (open_string shut_string)
def tab32:List Int:= [0,1,28,2,29,14,24,3,30,22,20,15,25,17,4,8,31,27,13,23,21,19,16,7,26,12,18,6,11,5,10,9]
def tab64:List Int:= [0,1,56,2,57,49,28,3,61,58,42,50,38,29,17,4,62,47,59,36,45,43,51,22,53,39,33,30,24,18,12,5,63,55,48,27,60,41,37,16,46,35,44,21,52,32,23,11,54,26,40,15,34,20,31,10,25,14,19,9,13,8,7,6]
theorem own:ownKnob Tryz.prog.godebug=none:=by kernel_rfl
theorem laidOut:laidOutB Tryz.prog=true:=by kernel_rfl
theorem extra:U8Extra Tryz.prog Tryz.lays260_ren:=⟨by kernel_rfl,by kernel_rfl,by kernel_rfl,by kernel_rfl,by kernel_rfl,by kernel_rfl,by kernel_rfl⟩
theorem Zdq:(Rows.laid_unicode_utf8_acceptRanges:DataW Unit)=Lib.acceptData:=by kernel_rfl
theorem pow_eq:(Rows.laid_internal_strconv_uint64pow10:DataW Unit)=Lib.tabData .u64 Lib.pow10Tab:=by kernel_rfl
theorem Yc:(Rows.arrayPastRow.laid.all fun x=>x.2.handleName?.isNone)=true:=by kernel_rfl

theorem tabs {W:World} (h:laidMetH Tryz.prog Rows.arrayPastRow.laid W):Lib.Utf8Tabs 4 5 W:=by
 rw[MakeChecks.laidMetH_plain _ _ _ Yc] at h
 have h1 : Lib.VarReads Tryz.prog W "unicode/utf8.acceptRanges" Rows.laid_unicode_utf8_acceptRanges := Lib.laidMet.reads h (.tail _ (.tail _ (.tail _ (.head _))))
 have h2 : Lib.VarReads Tryz.prog W "unicode/utf8.first" Go.Pinned.utf8First := Lib.laidMet.reads h (.tail _ (.tail _ (.tail _ (.tail _ (.head _)))))
 rw[Zdq] at h1
 rw[Pinned.utf8First_eq] at h2
 exact utf8Tabs_of_reads Tryz.lays260 extra h2 h1
theorem tabPow {W:World} (h:laidMetH Tryz.prog Rows.arrayPastRow.laid W):TabP W:=by
 rw[MakeChecks.laidMetH_plain _ _ _ Yc] at h
 have h1 : Lib.VarReads Tryz.prog W "internal/strconv.uint64pow10" Rows.laid_internal_strconv_uint64pow10 := Lib.laidMet.reads h (.tail _ (.tail _ (.head _)))
 rw[pow_eq] at h1
 obtain⟨g',t',cs,fuel,p,hg',ht',hvar,hd⟩:=h1
 obtain rfl := Option.some.inj ((show Tryz.prog.globalNamed "internal/strconv.uint64pow10" = some 1 by kernel_rfl).symm.trans hg')
 obtain rfl:=Option.some.inj ((show (Tryz.prog.globals[1]?).map (·.type)=some 182 by kernel_rfl).symm.trans ht')
 unfold TabP Lib.TabIs
 rw[hvar,←Lib.cells_of_tab Tryz.underlying182 Tryz.underlying46 (by kernel_rfl) (by kernel_rfl) hd]

def Pu (w0:World):World:=
 let put (h:Array Obj) (g:Nat) (cs:Array Value):Array Obj:=h.modify g fun
  | .cells _ t frozen=> .cells cs t frozen
  |o=>o
 let h1:=put w0.heap 1 (Lib.pow10Tab.map fun z=>Value.int .u64 z).toArray
 let h2:=put h1 4 (Lib.firstTab.map fun z=>Value.int .u8 z).toArray
 let h3:=put h2 5 ((List.range 16).flatMap fun i=> [Value.int .u8 (Lib.accLo i),Value.int .u8 (Lib.accHi i)]).toArray
 let h4:=put h3 2 (tab32.map fun z=>Value.int .u8 z).toArray
 let h5:=put h4 3 (tab64.map fun z=>Value.int .u8 z).toArray
 {w0 with heap:=h5}
theorem laid_met (os:Os) (args:Array Value):laidMet Tryz.prog Rows.arrayPastRow.laid ((Pu (World.holding Tryz.prog os ⟨#[], #[], []⟩)).forCall (fun _ _=>0) ⟨#[],args, []⟩).memory:=
 (LaidIn.of_run (l := [("math/bits.deBruijn32tab", Rows.laid_math_bits_deBruijn32tab), ("math/bits.deBruijn64tab", Rows.laid_math_bits_deBruijn64tab), ("internal/strconv.uint64pow10", Rows.laid_internal_strconv_uint64pow10), ("unicode/utf8.acceptRanges", Rows.laid_unicode_utf8_acceptRanges), ("unicode/utf8.first", Rows.laid_unicode_utf8_first)]) [2, 3, 1, 5, 4] 8 (by kernel_rfl) (by kernel_rfl) (by kernel_rfl) (by kernel_rfl)).met
def arg0:Value:= .float .f64 0
def arg1:Value:=Be.agg
theorem Zaq (os:Os) (tape:Tape) {H:Type} (enc:TypeId×Value->H):
  (OpenSpec.ofChange Rows.arrayPastSpec).preRow enc Tryz.prog Tryz.f4 Rows.arrayPastRow.domain false Rows.arrayPastRow.laid ((Pu (World.holding Tryz.prog os ⟨#[], #[], []⟩)).forCall tape ⟨#[], #[arg0,arg1], []⟩).memory #[arg0,arg1]:=by
 have hw:(DataW.whole enc Tryz.prog ((Pu (World.holding Tryz.prog os ⟨#[], #[], []⟩)).forCall tape ⟨#[], #[arg0,arg1], []⟩).memory Tryz.f4.params.toList Rows.arrayPastSpec.vars false (#[arg0,arg1]:Array Value).toList 8).map (fun x=>(x.1,x.2.1))=
   some ([.lit (.float .f64 0), .agg [.lit (.int .i64 0), .lit (.bool false), .lit (.float .f64 0), .lit (.string []), .lit (.int .i64 0)]], []):=by kernel_rfl
 obtain⟨⟨x1,x2,x3⟩,hx,hx1⟩:=Option.map_eq_some_iff.1 hw
 simp only[Prod.mk.injEq] at hx1
 obtain⟨rfl,rfl⟩:=hx1
 exact OpenSpec.preRow_of_cond 8 hx (by kernel_rfl) (fun k hk=>by cases hk) (by kernel_rfl) (laid_met os _)

set_option maxRecDepth 100000 in
set_option maxHeartbeats 2000000 in
theorem lifted (os:Os) (started:os.Started) (H:Type) (enc:TypeId×Value->H):
  ReturnsInTold none {} Tryz.checked os 4 .any Input.okWide ((OpenSpec.ofChange Rows.arrayPastSpec).preRow enc Tryz.prog Tryz.f4 Rows.arrayPastRow.domain false Rows.arrayPastRow.laid) (fun F=>((OpenSpec.ofChange Rows.arrayPastSpec).at F).post enc Tryz.prog Tryz.f4 false true false false) (aloneAtReturn Tryz.prog) nothingAlways:=by
 refine returnsInTold_of_row (C:=Tryz.checked) (s:=OpenSpec.ofChange Rows.arrayPastSpec) (by kernel_rfl) own started (by kernel_rfl) Tryz.func4
  (OpenSpec.witness_stopped_atRef (enc:=enc) (C:=Tryz.checked) false (Pu (World.holding Tryz.prog os ⟨#[], #[], []⟩)) #[arg0,arg1] rfl (by kernel_rfl) (by kernel_rfl) (by kernel_rfl) (Zaq os _ enc)) ?_
 intro F W base args ds gs before _ hF hval0 hW _ hcond hsz hL _
 have hval: ∀(j:Nat) t v,Tryz.f4.params[j]? =some t->args[j]? =some v->Value.okWide Tryz.prog W .any base t v:=hval0
 have hW':=hW
 obtain⟨p,q,hA0,hV,rfl,hfz,hnd⟩:=hW
 have hA:DataW.TrodAll enc Tryz.prog W 0 (fun _=>true) true Tryz.f4.params.toList args.toList ds p:=hA0
 rw[Tryz.params4] at hA hval
 obtain⟨v0,vs0,d0,ds0,p0,q0,hargs,rfl,rfl,h0,r0⟩:=trodAll_cons hA
 obtain⟨v1,vs1,d1,ds1,p1,q1,rfl,rfl,rfl,h1,r1⟩:=trodAll_cons r0
 obtain⟨rfl,rfl,rfl⟩:=trodAll_nil r1
 obtain rfl:args= #[v0,v1]:=by cases args;simp_all
 obtain⟨rfl,rfl⟩:=trodVars_none hV
 obtain⟨x,rfl,hx⟩:=open_flt Tryz.underlying33 (hval 0 33 v0 rfl rfl) h0
 obtain⟨vv,rfl,hvx⟩:=open_val (hval 1 35 v1 rfl rfl) h1
 have lt0: ∀x∈p0,x.block<W.heap.size:=by obtain⟨m,hm⟩:=h0;exact DataW.trod_lt m _ _ _ hm
 have lt1: ∀x∈p1,x.block<W.heap.size:=by obtain⟨m,hm⟩:=h1;exact DataW.trod_lt m _ _ _ hm
 clear hA0 hval0
 refine(law_past x vv W (Qg (tabs hL)) ⟨tabs hL,tabPow hL⟩ hx hvx).mono fun e W' ⟨he,bel⟩=> ?_
 subst he
 exact⟨_,rfl,_,_,_, [],_, [],hW',trodAll_mk1 (shut_bool Tryz.underlying4 _),(trodAll_cons_mk (Below.trod laidOut (by kernel_rfl) (of_decide_eq_true (by kernel_rfl)) h0 bel lt0) (trodAll_cons_mk (Below.trod laidOut (by kernel_rfl) (of_decide_eq_true (by kernel_rfl)) h1 bel lt1) trodAll_mk0)),rfl,bel.frame _,fun h=>by cases h⟩

end Go.Proofs.YthjnflilfjcgiaaGreatFmt.arrayPast
