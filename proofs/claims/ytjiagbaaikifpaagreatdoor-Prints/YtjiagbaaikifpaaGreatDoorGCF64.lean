import Derived.ProofKit
import Derived.Stop.Joined
import Derived.Test.YtjiagbaaikifpaaGreatDoorRows
import Derived.Test.YtjiagbaaikifpaaGreatDoorA
set_option maxRecDepth 100000
set_option maxHeartbeats 16000000
namespace Go.Proofs.YtjiagbaaikifpaaGreatDoor
open Go Go.Proofs.Tryz
theorem ash:prog.funcNamed Rows.printsRow.func=some 4:=by kernel_rfl
theorem asa:joinedFacts prog 4 f4 Rows.printsSpec Rows.printsRow=true:=by
 unfold joinedFacts
 repeat' (with_reducible refine Bool.and_eq_true_iff.2 ⟨?_,?_⟩)
 all_goals (as_aux_lemma=>kernel_rfl)
theorem asc:f4.isWrapper prog Rows.printsRow.wrapper Rows.printsRow.mainSum:=by
 unfold Func.isWrapper;rw[if_neg (by decide +kernel)];exact⟨rfl,rfl⟩
