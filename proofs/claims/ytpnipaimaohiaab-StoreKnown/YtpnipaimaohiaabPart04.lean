/-
  CLOSED CALLS, their answers by the kernel.
-/
import Derived.Test.YtpnipaimaohiaabPart03
set_option linter.unusedSectionVars false
set_option linter.unusedSimpArgs false
set_option linter.unusedVariables false
set_option maxRecDepth 100000
namespace Go.Proofs.Ytpnipaimaohiaab
open Go Go.Eng
theorem k0 : entF E1 [] 40 c0 = true := by kernel_rfl
theorem o0 : EntOK Try.prog E1 c0 := ent_of e1 x1 n1 tabs_ok.mix ents_nil k0
theorem k1 : entF E1 [] 40 c1 = true := by kernel_rfl
theorem o1 : EntOK Try.prog E1 c1 := ent_of e1 x1 n1 tabs_ok.mix ents_nil k1
theorem k3 : entF E1 [] 40 c3 = true := by kernel_rfl
theorem o3 : EntOK Try.prog E1 c3 := ent_of e1 x1 n1 tabs_ok.mix ents_nil k3
end Go.Proofs.Ytpnipaimaohiaab

