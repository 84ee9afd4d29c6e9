/-
  CLOSED CALLS, their answers by the kernel.
-/
import Derived.Test.YtpnipaimaohiaabPart03
set_option linter.unusedSectionVars false
set_option linter.unusedSimpArgs false
set_option linter.unusedVariables false
set_option maxRecDepth 100000
namespace Go.Proofs.Ytpnipaimaohiaab
open Go Go.Eng
theorem k14 : entF E1 [] 40 c14 = true := by kernel_rfl
theorem o14 : EntOK Try.prog E1 c14 := ent_of e1 x1 n1 tabs_ok.mix ents_nil k14
theorem k15 : entF E1 [] 40 c15 = true := by kernel_rfl
theorem o15 : EntOK Try.prog E1 c15 := ent_of e1 x1 n1 tabs_ok.mix ents_nil k15
theorem k16 : entF E1 [] 40 c16 = true := by kernel_rfl
theorem o16 : EntOK Try.prog E1 c16 := ent_of e1 x1 n1 tabs_ok.mix ents_nil k16
end Go.Proofs.Ytpnipaimaohiaab

