/-
  CLOSED CALLS, their answers by the kernel.
-/
import Derived.Test.YtpnipaimaohiaabPart12
set_option linter.unusedSectionVars false
set_option linter.unusedSimpArgs false
set_option linter.unusedVariables false
set_option maxRecDepth 100000
namespace Go.Proofs.Ytpnipaimaohiaab
open Go Go.Eng
theorem k22 : entF E1 L3 40 c22 = true := by kernel_rfl
theorem o22 : EntOK Try.prog E1 c22 := ent_of e1 x1 n1 tabs_ok.mix l3 k22
end Go.Proofs.Ytpnipaimaohiaab

