/-
  CLOSED CALLS, their answers by the kernel.
-/
import Derived.Test.YtjjfiagafdnkhaaPart04
set_option linter.unusedSectionVars false
set_option linter.unusedSimpArgs false
set_option linter.unusedVariables false
set_option maxRecDepth 100000
namespace Go.Proofs.Ytjjfiagafdnkhaa
open Go Go.Eng
theorem k31 : entF E1 [] 40 c31 = true := by kernel_rfl
theorem o31 : EntOK Try.prog E1 c31 := ent_of e1 x1 n1 tabs_ok.mix ents_nil k31
end Go.Proofs.Ytjjfiagafdnkhaa

