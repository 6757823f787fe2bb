import Derived.ProofKit
import Derived.Stop.Joined
import Derived.Test.YtbichedkajfmiaaGreatDoorRows
import Derived.Test.YtbichedkajfmiaaGreatDoorA
set_option maxRecDepth 100000
set_option maxHeartbeats 16000000
namespace Go.Proofs.YtbichedkajfmiaaGreatDoor
open Go
theorem Pp:Tryz.prog.funcNamed Rows.countsRow.func=some 5:=by kernel_rfl
theorem M6:joinedFacts Tryz.prog 5 Tryz.f5 Rows.countsSpec Rows.countsRow=true:=by
 unfold joinedFacts
 repeat' (with_reducible refine Bool.and_eq_true_iff.2 ⟨?_,?_⟩)
 all_goals (as_aux_lemma=>kernel_rfl)
theorem Ow:Tryz.f5.isWrapper Tryz.prog Rows.countsRow.wrapper Rows.countsRow.mainSum:=by
 exact ams
end Go.Proofs.YtbichedkajfmiaaGreatDoor
