/-
  CLOSED CALLS, their answers by the kernel.
-/
import Derived.Test.YtjjfiagafdnkhaaPart12
set_option linter.unusedSectionVars false
set_option linter.unusedSimpArgs false
set_option linter.unusedVariables false
set_option maxRecDepth 100000
namespace Go.Proofs.Ytjjfiagafdnkhaa
open Go Go.Eng
theorem k52 : entF E1 L2 40 c52 = true := by kernel_rfl
theorem o52 : EntOK Try.prog E1 c52 := ent_of e1 x1 n1 tabs_ok.mix l2 k52
end Go.Proofs.Ytjjfiagafdnkhaa

