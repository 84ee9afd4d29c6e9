/-
  THE ENGINE: one more part of it.
-/
import Derived.Test.YtgaoajmlckgdaaaGreatDoorPart05
set_option linter.unusedSectionVars false
set_option linter.unusedSimpArgs false
set_option linter.unusedVariables false
set_option maxRecDepth 100000
namespace Go.Proofs.YtgaoajmlckgdaaaGreatDoor
open Go Go.Eng
theorem k10:entF EA [] 40 c10=true:=by kernel_rfl
theorem o10:EntOK Tryz.prog EA c10:=ent_of eA xA nA tabs_ok.mix ents_nil k10
end Go.Proofs.YtgaoajmlckgdaaaGreatDoor

