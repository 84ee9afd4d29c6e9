/-
  CLOSED CALLS, joined.
-/
import Derived.Test.YtgcgffnamfbcgaaGreatDoorPart06
import Derived.Test.YtgcgffnamfbcgaaGreatDoorPart07
import Derived.Test.YtgcgffnamfbcgaaGreatDoorPart08
import Derived.Test.YtgcgffnamfbcgaaGreatDoorPart09
import Derived.Test.YtgcgffnamfbcgaaGreatDoorPart10
import Derived.Test.YtgcgffnamfbcgaaGreatDoorPart11
set_option linter.unusedSectionVars false
set_option linter.unusedSimpArgs false
set_option linter.unusedVariables false
set_option maxRecDepth 100000
namespace Go.Proofs.YtgcgffnamfbcgaaGreatDoor
open Go Go.Eng
noncomputable def L2 : List Ent := [c0, c2, c4, c6, c7, c9]
theorem l2 : ∀ e ∈ L2, EntOK Tryz.prog EN e := ents_cons o0 (ents_cons o2 (ents_cons o4 (ents_cons o6 (ents_cons o7 (ents_cons o9 (ents_nil))))))
end Go.Proofs.YtgcgffnamfbcgaaGreatDoor

