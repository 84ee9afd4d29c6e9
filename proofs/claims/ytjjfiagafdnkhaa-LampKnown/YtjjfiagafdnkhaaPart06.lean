/-
  CLOSED CALLS, their answers by the kernel.
-/
import Derived.Test.YtjjfiagafdnkhaaPart04
set_option linter.unusedSectionVars false
set_option linter.unusedSimpArgs false
set_option linter.unusedVariables false
set_option maxRecDepth 100000
namespace Go.Proofs.Ytjjfiagafdnkhaa
open Go Go.Eng
theorem k15 : entF E1 [] 40 c15 = true := by kernel_rfl
theorem o15 : EntOK Try.prog E1 c15 := ent_of e1 x1 n1 tabs_ok.mix ents_nil k15
theorem k16 : entF E1 [] 40 c16 = true := by kernel_rfl
theorem o16 : EntOK Try.prog E1 c16 := ent_of e1 x1 n1 tabs_ok.mix ents_nil k16
theorem k17 : entF E1 [] 40 c17 = true := by kernel_rfl
theorem o17 : EntOK Try.prog E1 c17 := ent_of e1 x1 n1 tabs_ok.mix ents_nil k17
theorem k18 : entF E1 [] 40 c18 = true := by kernel_rfl
theorem o18 : EntOK Try.prog E1 c18 := ent_of e1 x1 n1 tabs_ok.mix ents_nil k18
theorem k19 : entF E1 [] 40 c19 = true := by kernel_rfl
theorem o19 : EntOK Try.prog E1 c19 := ent_of e1 x1 n1 tabs_ok.mix ents_nil k19
theorem k20 : entF E1 [] 40 c20 = true := by kernel_rfl
theorem o20 : EntOK Try.prog E1 c20 := ent_of e1 x1 n1 tabs_ok.mix ents_nil k20
theorem k21 : entF E1 [] 40 c21 = true := by kernel_rfl
theorem o21 : EntOK Try.prog E1 c21 := ent_of e1 x1 n1 tabs_ok.mix ents_nil k21
theorem k22 : entF E1 [] 40 c22 = true := by kernel_rfl
theorem o22 : EntOK Try.prog E1 c22 := ent_of e1 x1 n1 tabs_ok.mix ents_nil k22
theorem k23 : entF E1 [] 40 c23 = true := by kernel_rfl
theorem o23 : EntOK Try.prog E1 c23 := ent_of e1 x1 n1 tabs_ok.mix ents_nil k23
theorem k24 : entF E1 [] 40 c24 = true := by kernel_rfl
theorem o24 : EntOK Try.prog E1 c24 := ent_of e1 x1 n1 tabs_ok.mix ents_nil k24
theorem k25 : entF E1 [] 40 c25 = true := by kernel_rfl
theorem o25 : EntOK Try.prog E1 c25 := ent_of e1 x1 n1 tabs_ok.mix ents_nil k25
theorem k26 : entF E1 [] 40 c26 = true := by kernel_rfl
theorem o26 : EntOK Try.prog E1 c26 := ent_of e1 x1 n1 tabs_ok.mix ents_nil k26
theorem k27 : entF E1 [] 40 c27 = true := by kernel_rfl
theorem o27 : EntOK Try.prog E1 c27 := ent_of e1 x1 n1 tabs_ok.mix ents_nil k27
theorem k28 : entF E1 [] 40 c28 = true := by kernel_rfl
theorem o28 : EntOK Try.prog E1 c28 := ent_of e1 x1 n1 tabs_ok.mix ents_nil k28
end Go.Proofs.Ytjjfiagafdnkhaa

