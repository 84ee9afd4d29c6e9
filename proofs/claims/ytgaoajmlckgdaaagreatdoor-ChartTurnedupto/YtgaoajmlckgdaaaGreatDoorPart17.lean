/-
  THE ENGINE: one more part of it.
-/
import Derived.Test.YtgaoajmlckgdaaaGreatDoorPart16
set_option linter.unusedSectionVars false
set_option linter.unusedSimpArgs false
set_option linter.unusedVariables false
set_option maxRecDepth 100000
namespace Go.Proofs.YtgaoajmlckgdaaaGreatDoor
open Go Go.Eng
theorem k6:entF EA L2 40 c6=true:=by kernel_rfl
theorem o6:EntOK Tryz.prog EA c6:=ent_of eA xA nA tabs_ok.mix l2 k6
end Go.Proofs.YtgaoajmlckgdaaaGreatDoor

