/-
  CLOSED CALLS, their answers by the kernel.
-/
import Derived.Test.YtjjfiagafdnkhaaPart18
set_option linter.unusedSectionVars false
set_option linter.unusedSimpArgs false
set_option linter.unusedVariables false
set_option maxRecDepth 100000
namespace Go.Proofs.Ytjjfiagafdnkhaa
open Go Go.Eng
theorem k66 : entF E1 L3 40 c66 = true := by kernel_rfl
theorem o66 : EntOK Try.prog E1 c66 := ent_of e1 x1 n1 tabs_ok.mix l3 k66
end Go.Proofs.Ytjjfiagafdnkhaa

