import Derived.Test.YtlpdllcedgnaaaaGreatDoorQs
set_option linter.all false
namespace Go.Proofs.YtlpdllcedgnaaaaGreatDoor
set_option maxRecDepth 100000
set_option maxHeartbeats 0
section
open Go Go.Proofs Go.RowKit FM
theorem Zbb {d:DD} (h:Pe d=true): ¬Gg d=0:=by
 intro hk
 unfold Pe at h
 rw[hk] at h
 simp at h
