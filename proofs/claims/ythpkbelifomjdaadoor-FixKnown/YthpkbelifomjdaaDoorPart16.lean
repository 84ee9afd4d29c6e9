/-
  CLOSED CALLS, joined.
-/
import Derived.Test.YthpkbelifomjdaaDoorPart04
import Derived.Test.YthpkbelifomjdaaDoorPart05
import Derived.Test.YthpkbelifomjdaaDoorPart06
import Derived.Test.YthpkbelifomjdaaDoorPart07
import Derived.Test.YthpkbelifomjdaaDoorPart08
import Derived.Test.YthpkbelifomjdaaDoorPart09
import Derived.Test.YthpkbelifomjdaaDoorPart10
import Derived.Test.YthpkbelifomjdaaDoorPart11
import Derived.Test.YthpkbelifomjdaaDoorPart12
import Derived.Test.YthpkbelifomjdaaDoorPart13
import Derived.Test.YthpkbelifomjdaaDoorPart14
import Derived.Test.YthpkbelifomjdaaDoorPart15
set_option linter.unusedSectionVars false
set_option linter.unusedSimpArgs false
set_option linter.unusedVariables false
set_option maxRecDepth 100000
namespace Go.Proofs.YthpkbelifomjdaaDoor
open Go Go.Eng
noncomputable def L2 : List Ent := [c0, c1, c2, c3, c4, c5, c6, c7, c8, c9, c10, c11]
theorem l2 : ∀ e ∈ L2, EntOK Tryd.prog E1 e := ents_cons o0 (ents_cons o1 (ents_cons o2 (ents_cons o3 (ents_cons o4 (ents_cons o5 (ents_cons o6 (ents_cons o7 (ents_cons o8 (ents_cons o9 (ents_cons o10 (ents_cons o11 (ents_nil))))))))))))
end Go.Proofs.YthpkbelifomjdaaDoor

