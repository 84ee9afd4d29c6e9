/-
  CLOSED CALLS, their answers by the kernel.
-/
import Derived.Test.YtpnipaimaohiaabPart03
set_option linter.unusedSectionVars false
set_option linter.unusedSimpArgs false
set_option linter.unusedVariables false
set_option maxRecDepth 100000
namespace Go.Proofs.Ytpnipaimaohiaab
open Go Go.Eng
theorem k9 : entF E1 [] 40 c9 = true := by kernel_rfl
theorem o9 : EntOK Try.prog E1 c9 := ent_of e1 x1 n1 tabs_ok.mix ents_nil k9
theorem k10 : entF E1 [] 40 c10 = true := by kernel_rfl
theorem o10 : EntOK Try.prog E1 c10 := ent_of e1 x1 n1 tabs_ok.mix ents_nil k10
theorem k11 : entF E1 [] 40 c11 = true := by kernel_rfl
theorem o11 : EntOK Try.prog E1 c11 := ent_of e1 x1 n1 tabs_ok.mix ents_nil k11
theorem k12 : entF E1 [] 40 c12 = true := by kernel_rfl
theorem o12 : EntOK Try.prog E1 c12 := ent_of e1 x1 n1 tabs_ok.mix ents_nil k12
end Go.Proofs.Ytpnipaimaohiaab

