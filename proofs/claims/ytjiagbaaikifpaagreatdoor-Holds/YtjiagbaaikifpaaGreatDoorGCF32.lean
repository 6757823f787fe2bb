import Derived.ProofKit
import Derived.Stop.Joined
import Derived.Test.YtjiagbaaikifpaaGreatDoorRows
import Derived.Test.YtjiagbaaikifpaaGreatDoorA
set_option maxRecDepth 100000
set_option maxHeartbeats 16000000
namespace Go.Proofs.YtjiagbaaikifpaaGreatDoor
open Go Go.Proofs.Tryz
theorem WB:prog.funcNamed Rows.holdsRow.func=some 6:=by kernel_rfl
theorem Uo:joinedFacts prog 6 f6 Rows.holdsSpec Rows.holdsRow=true:=by
 unfold joinedFacts
 repeat' (with_reducible refine Bool.and_eq_true_iff.2 ⟨?_,?_⟩)
 all_goals (as_aux_lemma=>kernel_rfl)
theorem Vo:f6.isWrapper prog Rows.holdsRow.wrapper Rows.holdsRow.mainSum:=by
 unfold Func.isWrapper;rw[if_neg (by decide +kernel)];exact⟨rfl,rfl⟩
