/-
  CLOSED CALLS, their answers by the kernel.
-/
import Derived.Test.YtgcgffnamfbcgaaGreatDoorPart12
set_option linter.unusedSectionVars false
set_option linter.unusedSimpArgs false
set_option linter.unusedVariables false
set_option maxRecDepth 100000
namespace Go.Proofs.YtgcgffnamfbcgaaGreatDoor
open Go Go.Eng
theorem k5 : entF EN L2 40 c5 = true := by kernel_rfl
theorem o5 : EntOK Tryz.prog EN c5 := ent_of eN xN nN tabs_ok.mix l2 k5
end Go.Proofs.YtgcgffnamfbcgaaGreatDoor

