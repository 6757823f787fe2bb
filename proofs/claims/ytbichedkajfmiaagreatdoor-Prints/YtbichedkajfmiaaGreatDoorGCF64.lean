import Derived.ProofKit
import Derived.Stop.Joined
import Derived.Test.YtbichedkajfmiaaGreatDoorRows
import Derived.Test.YtbichedkajfmiaaGreatDoorA
set_option maxRecDepth 100000
set_option maxHeartbeats 16000000
namespace Go.Proofs.YtbichedkajfmiaaGreatDoor
open Go
theorem Pn:Tryz.prog.funcNamed Rows.printsRow.func=some 4:=by kernel_rfl
theorem M5:joinedFacts Tryz.prog 4 Tryz.f4 Rows.printsSpec Rows.printsRow=true:=by
 unfold joinedFacts
 repeat' (with_reducible refine Bool.and_eq_true_iff.2 ⟨?_,?_⟩)
 all_goals (as_aux_lemma=>kernel_rfl)
theorem Ov:Tryz.f4.isWrapper Tryz.prog Rows.printsRow.wrapper Rows.printsRow.mainSum:=by
 exact ams
end Go.Proofs.YtbichedkajfmiaaGreatDoor
