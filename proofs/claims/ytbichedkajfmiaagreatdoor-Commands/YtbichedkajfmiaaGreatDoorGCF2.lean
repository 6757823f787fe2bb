import Derived.ProofKit
import Derived.Stop.Joined
import Derived.Test.YtbichedkajfmiaaGreatDoorRows
import Derived.Test.YtbichedkajfmiaaGreatDoorA
set_option maxRecDepth 100000
set_option maxHeartbeats 16000000
namespace Go.Proofs.YtbichedkajfmiaaGreatDoor
open Go
theorem JS:Tryz.prog.funcNamed Rows.commandsRow.func=some 3:=by kernel_rfl
theorem IJ:joinedFacts Tryz.prog 3 Tryz.f3 Rows.commandsSpec Rows.commandsRow=true:=by
 unfold joinedFacts
 repeat' (with_reducible refine Bool.and_eq_true_iff.2 ⟨?_,?_⟩)
 all_goals (as_aux_lemma=>kernel_rfl)
theorem I8:Tryz.f3.isWrapper Tryz.prog Rows.commandsRow.wrapper Rows.commandsRow.mainSum:=by
 exact ams
end Go.Proofs.YtbichedkajfmiaaGreatDoor
