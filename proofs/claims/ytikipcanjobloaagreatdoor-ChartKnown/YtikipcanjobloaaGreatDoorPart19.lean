/-
  CLOSED CALLS, their answers by the kernel.
-/
import Derived.Test.YtikipcanjobloaaGreatDoorPart18
set_option linter.unusedSectionVars false
set_option linter.unusedSimpArgs false
set_option linter.unusedVariables false
set_option maxRecDepth 100000
namespace Go.Proofs.YtikipcanjobloaaGreatDoor
open Go Go.Eng
theorem k3_0_0 : comes E3 40 22 [] (.bool true) = true := comes_of (by kernel_rfl)
end Go.Proofs.YtikipcanjobloaaGreatDoor

