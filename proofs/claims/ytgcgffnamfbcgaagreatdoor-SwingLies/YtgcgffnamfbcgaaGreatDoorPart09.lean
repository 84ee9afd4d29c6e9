/-
  CLOSED CALLS, their answers by the kernel.
-/
import Derived.Test.YtgcgffnamfbcgaaGreatDoorPart05
set_option linter.unusedSectionVars false
set_option linter.unusedSimpArgs false
set_option linter.unusedVariables false
set_option maxRecDepth 100000
namespace Go.Proofs.YtgcgffnamfbcgaaGreatDoor
open Go Go.Eng
theorem k6 : entF EN [] 40 c6 = true := by kernel_rfl
theorem o6 : EntOK Tryz.prog EN c6 := ent_of eN xN nN tabs_ok.mix ents_nil k6
end Go.Proofs.YtgcgffnamfbcgaaGreatDoor

