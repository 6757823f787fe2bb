import Derived.ProofKit
import Derived.Stop.Joined
import Derived.Test.YtjiagbaaikifpaaGreatDoorRows
import Derived.Test.YtjiagbaaikifpaaGreatDoorA
set_option maxRecDepth 100000
set_option maxHeartbeats 16000000
namespace Go.Proofs.YtjiagbaaikifpaaGreatDoor
open Go Go.Proofs.Tryz
theorem asi:prog.funcNamed Rows.countsRow.func=some 5:=by kernel_rfl
theorem asb:joinedFacts prog 5 f5 Rows.countsSpec Rows.countsRow=true:=by
 unfold joinedFacts
 repeat' (with_reducible refine Bool.and_eq_true_iff.2 ⟨?_,?_⟩)
 all_goals (as_aux_lemma=>kernel_rfl)
theorem ase:f5.isWrapper prog Rows.countsRow.wrapper Rows.countsRow.mainSum:=by
 unfold Func.isWrapper;rw[if_neg (by decide +kernel)];exact⟨rfl,rfl⟩
