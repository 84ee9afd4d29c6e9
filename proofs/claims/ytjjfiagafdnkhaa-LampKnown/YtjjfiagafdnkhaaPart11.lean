/-
  CLOSED CALLS, their answers by the kernel.
-/
import Derived.Test.YtjjfiagafdnkhaaPart04
set_option linter.unusedSectionVars false
set_option linter.unusedSimpArgs false
set_option linter.unusedVariables false
set_option maxRecDepth 100000
namespace Go.Proofs.Ytjjfiagafdnkhaa
open Go Go.Eng
theorem k59 : entF E1 [] 40 c59 = true := by kernel_rfl
theorem o59 : EntOK Try.prog E1 c59 := ent_of e1 x1 n1 tabs_ok.mix ents_nil k59
theorem k60 : entF E1 [] 40 c60 = true := by kernel_rfl
theorem o60 : EntOK Try.prog E1 c60 := ent_of e1 x1 n1 tabs_ok.mix ents_nil k60
theorem k61 : entF E1 [] 40 c61 = true := by kernel_rfl
theorem o61 : EntOK Try.prog E1 c61 := ent_of e1 x1 n1 tabs_ok.mix ents_nil k61
theorem k62 : entF E1 [] 40 c62 = true := by kernel_rfl
theorem o62 : EntOK Try.prog E1 c62 := ent_of e1 x1 n1 tabs_ok.mix ents_nil k62
theorem k63 : entF E1 [] 40 c63 = true := by kernel_rfl
theorem o63 : EntOK Try.prog E1 c63 := ent_of e1 x1 n1 tabs_ok.mix ents_nil k63
theorem k64 : entF E1 [] 40 c64 = true := by kernel_rfl
theorem o64 : EntOK Try.prog E1 c64 := ent_of e1 x1 n1 tabs_ok.mix ents_nil k64
end Go.Proofs.Ytjjfiagafdnkhaa

