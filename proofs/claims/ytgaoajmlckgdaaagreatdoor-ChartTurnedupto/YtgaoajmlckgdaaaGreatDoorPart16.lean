/-
  THE ENGINE: one more part of it.
-/
import Derived.Test.YtgaoajmlckgdaaaGreatDoorPart06
import Derived.Test.YtgaoajmlckgdaaaGreatDoorPart07
import Derived.Test.YtgaoajmlckgdaaaGreatDoorPart08
import Derived.Test.YtgaoajmlckgdaaaGreatDoorPart09
import Derived.Test.YtgaoajmlckgdaaaGreatDoorPart10
import Derived.Test.YtgaoajmlckgdaaaGreatDoorPart11
import Derived.Test.YtgaoajmlckgdaaaGreatDoorPart12
import Derived.Test.YtgaoajmlckgdaaaGreatDoorPart13
import Derived.Test.YtgaoajmlckgdaaaGreatDoorPart14
import Derived.Test.YtgaoajmlckgdaaaGreatDoorPart15
set_option linter.unusedSectionVars false
set_option linter.unusedSimpArgs false
set_option linter.unusedVariables false
set_option maxRecDepth 100000
namespace Go.Proofs.YtgaoajmlckgdaaaGreatDoor
open Go Go.Eng
noncomputable def L2:List Ent:=[c0,c1,c2,c3,c4,c5,c7,c8,c9,c10]
theorem l2:∀ e∈L2,EntOK Tryz.prog EA e:=ents_cons o0 (ents_cons o1 (ents_cons o2 (ents_cons o3 (ents_cons o4 (ents_cons o5 (ents_cons o7 (ents_cons o8 (ents_cons o9 (ents_cons o10 (ents_nil))))))))))
end Go.Proofs.YtgaoajmlckgdaaaGreatDoor

