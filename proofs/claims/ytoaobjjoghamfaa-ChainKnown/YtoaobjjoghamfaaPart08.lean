/-
  CLOSED CALLS, joined.
-/
import Derived.Test.YtoaobjjoghamfaaPart04
import Derived.Test.YtoaobjjoghamfaaPart05
import Derived.Test.YtoaobjjoghamfaaPart06
import Derived.Test.YtoaobjjoghamfaaPart07
set_option linter.unusedSectionVars false
set_option linter.unusedSimpArgs false
set_option linter.unusedVariables false
set_option maxRecDepth 100000
namespace Go.Proofs.Ytoaobjjoghamfaa
open Go Go.Eng
noncomputable def L2 : List Ent := [c0, c1, c2, c3]
theorem l2 : ∀ e ∈ L2, EntOK Try.prog E1 e := ents_cons o0 (ents_cons o1 (ents_cons o2 (ents_cons o3 (ents_nil))))
end Go.Proofs.Ytoaobjjoghamfaa

