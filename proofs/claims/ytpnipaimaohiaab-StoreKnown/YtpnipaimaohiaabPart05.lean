/-
  CLOSED CALLS, their answers by the kernel.
-/
import Derived.Test.YtpnipaimaohiaabPart03
set_option linter.unusedSectionVars false
set_option linter.unusedSimpArgs false
set_option linter.unusedVariables false
set_option maxRecDepth 100000
namespace Go.Proofs.Ytpnipaimaohiaab
open Go Go.Eng
theorem k5 : entF E1 [] 40 c5 = true := by kernel_rfl
theorem o5 : EntOK Try.prog E1 c5 := ent_of e1 x1 n1 tabs_ok.mix ents_nil k5
theorem k6 : entF E1 [] 40 c6 = true := by kernel_rfl
theorem o6 : EntOK Try.prog E1 c6 := ent_of e1 x1 n1 tabs_ok.mix ents_nil k6
theorem k7 : entF E1 [] 40 c7 = true := by kernel_rfl
theorem o7 : EntOK Try.prog E1 c7 := ent_of e1 x1 n1 tabs_ok.mix ents_nil k7
theorem k8 : entF E1 [] 40 c8 = true := by kernel_rfl
theorem o8 : EntOK Try.prog E1 c8 := ent_of e1 x1 n1 tabs_ok.mix ents_nil k8
end Go.Proofs.Ytpnipaimaohiaab

