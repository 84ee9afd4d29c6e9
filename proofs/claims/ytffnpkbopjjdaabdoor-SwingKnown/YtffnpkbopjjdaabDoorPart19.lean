/-
  CLOSED CALLS, joined.
-/
import Derived.Test.YtffnpkbopjjdaabDoorPart04
import Derived.Test.YtffnpkbopjjdaabDoorPart05
import Derived.Test.YtffnpkbopjjdaabDoorPart14
import Derived.Test.YtffnpkbopjjdaabDoorPart06
import Derived.Test.YtffnpkbopjjdaabDoorPart07
import Derived.Test.YtffnpkbopjjdaabDoorPart15
import Derived.Test.YtffnpkbopjjdaabDoorPart08
import Derived.Test.YtffnpkbopjjdaabDoorPart16
import Derived.Test.YtffnpkbopjjdaabDoorPart09
import Derived.Test.YtffnpkbopjjdaabDoorPart17
import Derived.Test.YtffnpkbopjjdaabDoorPart10
import Derived.Test.YtffnpkbopjjdaabDoorPart11
import Derived.Test.YtffnpkbopjjdaabDoorPart18
import Derived.Test.YtffnpkbopjjdaabDoorPart12
set_option linter.unusedSectionVars false
set_option linter.unusedSimpArgs false
set_option linter.unusedVariables false
set_option maxRecDepth 100000
namespace Go.Proofs.YtffnpkbopjjdaabDoor
open Go Go.Eng
noncomputable def L3 : List Ent := [c0, c1, c2, c3, c4, c5, c6, c7, c8, c9, c10, c11, c12, c13]
theorem l3 : ∀ e ∈ L3, EntOK Tryd.prog E1 e := ents_cons o0 (ents_cons o1 (ents_cons o2 (ents_cons o3 (ents_cons o4 (ents_cons o5 (ents_cons o6 (ents_cons o7 (ents_cons o8 (ents_cons o9 (ents_cons o10 (ents_cons o11 (ents_cons o12 (ents_cons o13 (ents_nil))))))))))))))
end Go.Proofs.YtffnpkbopjjdaabDoor

