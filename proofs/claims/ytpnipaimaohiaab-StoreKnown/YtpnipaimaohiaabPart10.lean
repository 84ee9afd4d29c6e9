/-
  CLOSED CALLS, their answers by the kernel.
-/
import Derived.Test.YtpnipaimaohiaabPart09
set_option linter.unusedSectionVars false
set_option linter.unusedSimpArgs false
set_option linter.unusedVariables false
set_option maxRecDepth 100000
namespace Go.Proofs.Ytpnipaimaohiaab
open Go Go.Eng
theorem k2 : entF E1 L2 40 c2 = true := by kernel_rfl
theorem o2 : EntOK Try.prog E1 c2 := ent_of e1 x1 n1 tabs_ok.mix l2 k2
theorem k4 : entF E1 L2 40 c4 = true := by kernel_rfl
theorem o4 : EntOK Try.prog E1 c4 := ent_of e1 x1 n1 tabs_ok.mix l2 k4
end Go.Proofs.Ytpnipaimaohiaab

