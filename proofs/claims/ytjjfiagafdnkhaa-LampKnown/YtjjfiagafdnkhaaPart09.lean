/-
  CLOSED CALLS, their answers by the kernel.
-/
import Derived.Test.YtjjfiagafdnkhaaPart04
set_option linter.unusedSectionVars false
set_option linter.unusedSimpArgs false
set_option linter.unusedVariables false
set_option maxRecDepth 100000
namespace Go.Proofs.Ytjjfiagafdnkhaa
open Go Go.Eng
theorem k32 : entF E1 [] 40 c32 = true := by kernel_rfl
theorem o32 : EntOK Try.prog E1 c32 := ent_of e1 x1 n1 tabs_ok.mix ents_nil k32
theorem k33 : entF E1 [] 40 c33 = true := by kernel_rfl
theorem o33 : EntOK Try.prog E1 c33 := ent_of e1 x1 n1 tabs_ok.mix ents_nil k33
theorem k34 : entF E1 [] 40 c34 = true := by kernel_rfl
theorem o34 : EntOK Try.prog E1 c34 := ent_of e1 x1 n1 tabs_ok.mix ents_nil k34
theorem k35 : entF E1 [] 40 c35 = true := by kernel_rfl
theorem o35 : EntOK Try.prog E1 c35 := ent_of e1 x1 n1 tabs_ok.mix ents_nil k35
theorem k37 : entF E1 [] 40 c37 = true := by kernel_rfl
theorem o37 : EntOK Try.prog E1 c37 := ent_of e1 x1 n1 tabs_ok.mix ents_nil k37
theorem k38 : entF E1 [] 40 c38 = true := by kernel_rfl
theorem o38 : EntOK Try.prog E1 c38 := ent_of e1 x1 n1 tabs_ok.mix ents_nil k38
theorem k39 : entF E1 [] 40 c39 = true := by kernel_rfl
theorem o39 : EntOK Try.prog E1 c39 := ent_of e1 x1 n1 tabs_ok.mix ents_nil k39
theorem k40 : entF E1 [] 40 c40 = true := by kernel_rfl
theorem o40 : EntOK Try.prog E1 c40 := ent_of e1 x1 n1 tabs_ok.mix ents_nil k40
theorem k41 : entF E1 [] 40 c41 = true := by kernel_rfl
theorem o41 : EntOK Try.prog E1 c41 := ent_of e1 x1 n1 tabs_ok.mix ents_nil k41
theorem k42 : entF E1 [] 40 c42 = true := by kernel_rfl
theorem o42 : EntOK Try.prog E1 c42 := ent_of e1 x1 n1 tabs_ok.mix ents_nil k42
theorem k43 : entF E1 [] 40 c43 = true := by kernel_rfl
theorem o43 : EntOK Try.prog E1 c43 := ent_of e1 x1 n1 tabs_ok.mix ents_nil k43
end Go.Proofs.Ytjjfiagafdnkhaa

