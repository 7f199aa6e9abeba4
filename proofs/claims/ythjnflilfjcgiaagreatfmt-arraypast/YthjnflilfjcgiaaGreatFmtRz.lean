import Derived.Test.YthjnflilfjcgiaaGreatFmtCards
import Derived.Test.YthjnflilfjcgiaaGreatFmtTie
import Derived.Stop.JoinedTold
import Derived.SevenTiedAt
set_option linter.all false
namespace Go.Proofs.YthjnflilfjcgiaaGreatFmt.arrayPast
theorem stops : Tryz.pinned.checked.prog.stops = ["fmt.Sprintf"] := by kernel_rfl
theorem stopKnobs:Tryz.pinned.checked.prog.stopKnobs= []:=by kernel_rfl
theorem quiet (os:Os):Stop.quiet Tryz.pinned.checked.prog os:=by
 intro k hk
 rw[stopKnobs] at hk
 cases hk
theorem k_wf:Rows.arrayPastRow.wfByText (OpenSpec.ofChange Rows.arrayPastSpec)=true:=by kernel_rfl
theorem k_maps:mapsRowed Tryz.pinned.checked.prog=true:=by kernel_rfl
theorem k_tie:namedTie Tryz.pinned.checked.prog Rows.arrayPastRow.namedList (OpenSpec.ofChange Rows.arrayPastSpec).vars=true:=by kernel_rfl
theorem k_fn:Tryz.pinned.checked.prog.funcNamed Rows.arrayPastRow.func=some 4:=by kernel_rfl
theorem k_read:(Tryz.f4.params.toList.all fun t=>Tryz.pinned.checked.prog.readableRec t)=true:=by kernel_rfl
theorem k_word:Tryz.pinned.checked.prog.envWorded=true:=by kernel_rfl
theorem k_in:Rows.arrayPastRow.inPlace=Tryz.pinned.checked.prog.inPlace 4:=by kernel_rfl
theorem k_un:Rows.arrayPastRow.unfollowed=Tryz.pinned.checked.prog.unfollowed 4:=by kernel_rfl
theorem k_rec:Rows.arrayPastRow.recurses=Tryz.pinned.checked.prog.recurses 4:=by kernel_rfl
theorem k_named:Rows.arrayPastRow.named=Tryz.pinned.checked.prog.varsNamed 4:=by kernel_rfl
end Go.Proofs.YthjnflilfjcgiaaGreatFmt.arrayPast
namespace Go.Proofs.YthjnflilfjcgiaaGreatFmt.arrayPast
theorem k_mp:Rows.arrayPastRow.maps=(Tryz.f4.params.toList++(OpenSpec.ofChange Rows.arrayPastSpec).bare.plain.varTypes Tryz.pinned.checked.prog).any (Tryz.pinned.checked.prog.mapsRec ·):=by kernel_rfl
theorem k_if:Rows.arrayPastRow.ifaces=(Tryz.f4.params.toList++(OpenSpec.ofChange Rows.arrayPastSpec).bare.plain.varTypes Tryz.pinned.checked.prog).any (Tryz.pinned.checked.prog.ifacesRec ·):=by kernel_rfl
theorem k_mo:Rows.arrayPastRow.mapsOut=Tryz.pinned.checked.prog.mapsAmong Tryz.f4.resultTypes.toList:=by kernel_rfl
theorem k_lo:Rows.arrayPastRow.loops=(Tryz.f4.params.toList++(OpenSpec.ofChange Rows.arrayPastSpec).bare.plain.varTypes Tryz.pinned.checked.prog).any (Tryz.pinned.checked.prog.loopsFrom ·):=by kernel_rfl
theorem k_wk:Rows.arrayPastRow.wideKeys=(Tryz.f4.params.toList++(OpenSpec.ofChange Rows.arrayPastSpec).bare.plain.varTypes Tryz.pinned.checked.prog++Tryz.f4.resultTypes.toList).any (Tryz.pinned.checked.prog.wideKeysFrom ·):=by kernel_rfl
theorem k_vars:((OpenSpec.ofChange Rows.arrayPastSpec).vars.all fun n=>Tryz.pinned.checked.prog.varReadable n)=true:=by kernel_rfl
end Go.Proofs.YthjnflilfjcgiaaGreatFmt.arrayPast
namespace Go.Proofs.YthjnflilfjcgiaaGreatFmt.arrayPast
theorem k_main : Tryz.pinned.checked.prog.mainIs = some (true, "71905c41c0bfb6b1f69febc2690571ab80886dcab5aa2341eefd0ec2dfb8b413".toList) := by kernel_rfl
theorem k_looks:true=Tryz.pinned.checked.prog.looks []:=by kernel_rfl
theorem k_fun:(Tryz.f4.params.toList.all fun t=> !Tryz.pinned.checked.prog.wantsStandIn t)=true:=by kernel_rfl
theorem k_goes:false=Rows.arrayPastRow.goesBy Tryz.pinned.checked.prog:=by kernel_rfl
theorem k_enter:Tryz.pinned.checked.prog.mayEnter=true:=by kernel_rfl
theorem k_res:(Tryz.f4.resultTypes.toList.all fun t=>Tryz.pinned.checked.prog.readableRec t && decide (t<Tryz.pinned.checked.prog.types.size))=true:=by kernel_rfl
theorem k_heard:Tryz.pinned.checked.prog.stopsHeard=true:=by kernel_rfl
theorem k_io:Rows.arrayPastRow.ifacesOut=Tryz.f4.resultTypes.toList.any (Tryz.pinned.checked.prog.ifacesRec ·):=by kernel_rfl
theorem k_loo:Rows.arrayPastRow.loopsOut=Tryz.f4.resultTypes.toList.any (Tryz.pinned.checked.prog.loopsFrom ·):=by kernel_rfl
theorem k_kinds:Rows.arrayPastRow.kinds=(if Rows.arrayPastRow.domain.isEmpty then [] else Tryz.f4.params.toList.map fun t=>match Tryz.pinned.checked.prog.underlying t with|some (.int k)=>some k|_=>none):=by kernel_rfl
theorem k_pin:Rows.arrayPastRow.pinned=Rows.arrayPastRow.pinnedBy:=by kernel_rfl
theorem k_keys:Rows.arrayPastRow.plainKeys=Tryz.pinned.checked.prog.plainKeys:=by kernel_rfl
theorem k_lift:Rows.arrayPastRow.lifted=Tryz.pinned.checked.prog.liftsFinal:=by kernel_rfl
theorem k_make:Tryz.pinned.checked.prog.make=some Rows.arrayPastRow.make:=by kernel_rfl
theorem k_v1:Rows.arrayPastRow.veiled=(Tryz.f4.params.toList++(OpenSpec.ofChange Rows.arrayPastSpec).bare.plain.varTypes Tryz.pinned.checked.prog++Tryz.f4.resultTypes.toList).any (Tryz.pinned.checked.prog.veiledRec ·):=by kernel_rfl
theorem k_v2:Rows.arrayPastRow.veiledFits Tryz.pinned.checked.prog Tryz.f4.params.toList (Tryz.f4.params.toList++(OpenSpec.ofChange Rows.arrayPastSpec).bare.plain.varTypes Tryz.pinned.checked.prog++Tryz.f4.resultTypes.toList)=true:=by kernel_rfl
theorem k_inst:Tryz.f4.isInstance Tryz.pinned.checked.prog Rows.arrayPastRow.origin Rows.arrayPastRow.targs:=of_decide_eq_true (by kernel_rfl)
theorem k_wrap:Tryz.f4.isWrapper Tryz.pinned.checked.prog Rows.arrayPastRow.wrapper Rows.arrayPastRow.mainSum:=by
 unfold Func.isWrapper
 rw[if_neg (of_decide_eq_false (by kernel_rfl))]
 exact⟨rfl,rfl⟩
end Go.Proofs.YthjnflilfjcgiaaGreatFmt.arrayPast
