/-
  CLOSED CALLS, their answers by the kernel.
-/
import Derived.Test.YtpnipaimaohiaabPart03
set_option linter.unusedSectionVars false
set_option linter.unusedSimpArgs false
set_option linter.unusedVariables false
set_option maxRecDepth 100000
namespace Go.Proofs.Ytpnipaimaohiaab
open Go Go.Eng
theorem k17 : entF E1 [] 40 c17 = true := by kernel_rfl
theorem o17 : EntOK Try.prog E1 c17 := ent_of e1 x1 n1 tabs_ok.mix ents_nil k17
theorem k18 : entL E1 [] 40 c18 = true := by kernel_rfl
theorem o18 : EntOK Try.prog E1 c18 := entL_of e1 x1 n1 tabs_ok.mix ents_nil k18
theorem k20 : entL E1 [] 40 c20 = true := by kernel_rfl
theorem o20 : EntOK Try.prog E1 c20 := entL_of e1 x1 n1 tabs_ok.mix ents_nil k20
theorem k21 : entF E1 [] 40 c21 = true := by kernel_rfl
theorem o21 : EntOK Try.prog E1 c21 := ent_of e1 x1 n1 tabs_ok.mix ents_nil k21
end Go.Proofs.Ytpnipaimaohiaab

