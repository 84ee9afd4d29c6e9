/-
  CLOSED CALLS, their answers by the kernel.
-/
import Derived.Test.YtjjfiagafdnkhaaPart12
set_option linter.unusedSectionVars false
set_option linter.unusedSimpArgs false
set_option linter.unusedVariables false
set_option maxRecDepth 100000
namespace Go.Proofs.Ytjjfiagafdnkhaa
open Go Go.Eng
theorem k36 : entF E1 L2 40 c36 = true := by kernel_rfl
theorem o36 : EntOK Try.prog E1 c36 := ent_of e1 x1 n1 tabs_ok.mix l2 k36
end Go.Proofs.Ytjjfiagafdnkhaa

