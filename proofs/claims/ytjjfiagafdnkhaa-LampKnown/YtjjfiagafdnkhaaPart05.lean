/-
  CLOSED CALLS, their answers by the kernel.
-/
import Derived.Test.YtjjfiagafdnkhaaPart04
set_option linter.unusedSectionVars false
set_option linter.unusedSimpArgs false
set_option linter.unusedVariables false
set_option maxRecDepth 100000
namespace Go.Proofs.Ytjjfiagafdnkhaa
open Go Go.Eng
theorem k0 : entF E1 [] 40 c0 = true := by kernel_rfl
theorem o0 : EntOK Try.prog E1 c0 := ent_of e1 x1 n1 tabs_ok.mix ents_nil k0
theorem k1 : entF E1 [] 40 c1 = true := by kernel_rfl
theorem o1 : EntOK Try.prog E1 c1 := ent_of e1 x1 n1 tabs_ok.mix ents_nil k1
theorem k2 : entF E1 [] 40 c2 = true := by kernel_rfl
theorem o2 : EntOK Try.prog E1 c2 := ent_of e1 x1 n1 tabs_ok.mix ents_nil k2
theorem k3 : entF E1 [] 40 c3 = true := by kernel_rfl
theorem o3 : EntOK Try.prog E1 c3 := ent_of e1 x1 n1 tabs_ok.mix ents_nil k3
theorem k4 : entF E1 [] 40 c4 = true := by kernel_rfl
theorem o4 : EntOK Try.prog E1 c4 := ent_of e1 x1 n1 tabs_ok.mix ents_nil k4
theorem k6 : entF E1 [] 40 c6 = true := by kernel_rfl
theorem o6 : EntOK Try.prog E1 c6 := ent_of e1 x1 n1 tabs_ok.mix ents_nil k6
theorem k7 : entF E1 [] 40 c7 = true := by kernel_rfl
theorem o7 : EntOK Try.prog E1 c7 := ent_of e1 x1 n1 tabs_ok.mix ents_nil k7
theorem k8 : entF E1 [] 40 c8 = true := by kernel_rfl
theorem o8 : EntOK Try.prog E1 c8 := ent_of e1 x1 n1 tabs_ok.mix ents_nil k8
theorem k9 : entF E1 [] 40 c9 = true := by kernel_rfl
theorem o9 : EntOK Try.prog E1 c9 := ent_of e1 x1 n1 tabs_ok.mix ents_nil k9
theorem k10 : entF E1 [] 40 c10 = true := by kernel_rfl
theorem o10 : EntOK Try.prog E1 c10 := ent_of e1 x1 n1 tabs_ok.mix ents_nil k10
theorem k11 : entF E1 [] 40 c11 = true := by kernel_rfl
theorem o11 : EntOK Try.prog E1 c11 := ent_of e1 x1 n1 tabs_ok.mix ents_nil k11
theorem k12 : entF E1 [] 40 c12 = true := by kernel_rfl
theorem o12 : EntOK Try.prog E1 c12 := ent_of e1 x1 n1 tabs_ok.mix ents_nil k12
theorem k13 : entF E1 [] 40 c13 = true := by kernel_rfl
theorem o13 : EntOK Try.prog E1 c13 := ent_of e1 x1 n1 tabs_ok.mix ents_nil k13
theorem k14 : entF E1 [] 40 c14 = true := by kernel_rfl
theorem o14 : EntOK Try.prog E1 c14 := ent_of e1 x1 n1 tabs_ok.mix ents_nil k14
end Go.Proofs.Ytjjfiagafdnkhaa

