/-
  CLOSED CALLS, joined.
-/
import Derived.Test.YtmmadmbikpfkbaaPart04
import Derived.Test.YtmmadmbikpfkbaaPart05
import Derived.Test.YtmmadmbikpfkbaaPart06
import Derived.Test.YtmmadmbikpfkbaaPart07
import Derived.Test.YtmmadmbikpfkbaaPart08
import Derived.Test.YtmmadmbikpfkbaaPart09
import Derived.Test.YtmmadmbikpfkbaaPart10
import Derived.Test.YtmmadmbikpfkbaaPart11
import Derived.Test.YtmmadmbikpfkbaaPart12
set_option linter.unusedSectionVars false
set_option linter.unusedSimpArgs false
set_option linter.unusedVariables false
set_option maxRecDepth 100000
namespace Go.Proofs.Ytmmadmbikpfkbaa
open Go Go.Eng
noncomputable def L2 : List Ent := [c0, c1, c2, c3, c4, c5, c6, c7, c8]
theorem l2 : ∀ e ∈ L2, EntOK Try.prog E1 e := ents_cons o0 (ents_cons o1 (ents_cons o2 (ents_cons o3 (ents_cons o4 (ents_cons o5 (ents_cons o6 (ents_cons o7 (ents_cons o8 (ents_nil)))))))))
end Go.Proofs.Ytmmadmbikpfkbaa

