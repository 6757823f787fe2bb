import Derived.ProofKit
import Derived.Stop.Joined
import Derived.Test.YtjiagbaaikifpaaGreatDoorRows
import Derived.Test.YtjiagbaaikifpaaGreatDoorA
set_option maxRecDepth 100000
set_option maxHeartbeats 16000000
namespace Go.Proofs.YtjiagbaaikifpaaGreatDoor
open Go Go.Proofs.Tryz
theorem ar6:prog.funcNamed Rows.commandsRow.func=some 3:=by kernel_rfl
theorem ar3:joinedFacts prog 3 f3 Rows.commandsSpec Rows.commandsRow=true:=by
 unfold joinedFacts
 repeat' (with_reducible refine Bool.and_eq_true_iff.2 ⟨?_,?_⟩)
 all_goals (as_aux_lemma=>kernel_rfl)
theorem ar4:f3.isWrapper prog Rows.commandsRow.wrapper Rows.commandsRow.mainSum:=by
 unfold Func.isWrapper;rw[if_neg (by decide +kernel)];exact⟨rfl,rfl⟩
