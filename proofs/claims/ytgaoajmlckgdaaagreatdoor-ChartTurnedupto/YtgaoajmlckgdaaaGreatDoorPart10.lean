/-
  THE ENGINE: one more part of it.
-/
import Derived.Test.YtgaoajmlckgdaaaGreatDoorPart05
set_option linter.unusedSectionVars false
set_option linter.unusedSimpArgs false
set_option linter.unusedVariables false
set_option maxRecDepth 100000
namespace Go.Proofs.YtgaoajmlckgdaaaGreatDoor
open Go Go.Eng
theorem k4:entF EA [] 40 c4=true:=by kernel_rfl
theorem o4:EntOK Tryz.prog EA c4:=ent_of eA xA nA tabs_ok.mix ents_nil k4
end Go.Proofs.YtgaoajmlckgdaaaGreatDoor

