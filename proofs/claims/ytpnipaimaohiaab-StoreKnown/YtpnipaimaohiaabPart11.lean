/-
  CLOSED CALLS, their answers by the kernel.
-/
import Derived.Test.YtpnipaimaohiaabPart09
set_option linter.unusedSectionVars false
set_option linter.unusedSimpArgs false
set_option linter.unusedVariables false
set_option maxRecDepth 100000
namespace Go.Proofs.Ytpnipaimaohiaab
open Go Go.Eng
theorem k13 : entF E1 L2 40 c13 = true := by kernel_rfl
theorem o13 : EntOK Try.prog E1 c13 := ent_of e1 x1 n1 tabs_ok.mix l2 k13
theorem k19 : entF E1 L2 40 c19 = true := by kernel_rfl
theorem o19 : EntOK Try.prog E1 c19 := ent_of e1 x1 n1 tabs_ok.mix l2 k19
end Go.Proofs.Ytpnipaimaohiaab

