/-
  CLOSED CALLS, their answers by the kernel.
-/
import Derived.Test.YtjjfiagafdnkhaaPart04
set_option linter.unusedSectionVars false
set_option linter.unusedSimpArgs false
set_option linter.unusedVariables false
set_option maxRecDepth 100000
namespace Go.Proofs.Ytjjfiagafdnkhaa
open Go Go.Eng
theorem k44 : entF E1 [] 40 c44 = true := by kernel_rfl
theorem o44 : EntOK Try.prog E1 c44 := ent_of e1 x1 n1 tabs_ok.mix ents_nil k44
theorem k45 : entF E1 [] 40 c45 = true := by kernel_rfl
theorem o45 : EntOK Try.prog E1 c45 := ent_of e1 x1 n1 tabs_ok.mix ents_nil k45
theorem k46 : entF E1 [] 40 c46 = true := by kernel_rfl
theorem o46 : EntOK Try.prog E1 c46 := ent_of e1 x1 n1 tabs_ok.mix ents_nil k46
theorem k47 : entF E1 [] 40 c47 = true := by kernel_rfl
theorem o47 : EntOK Try.prog E1 c47 := ent_of e1 x1 n1 tabs_ok.mix ents_nil k47
theorem k48 : entF E1 [] 40 c48 = true := by kernel_rfl
theorem o48 : EntOK Try.prog E1 c48 := ent_of e1 x1 n1 tabs_ok.mix ents_nil k48
theorem k49 : entF E1 [] 40 c49 = true := by kernel_rfl
theorem o49 : EntOK Try.prog E1 c49 := ent_of e1 x1 n1 tabs_ok.mix ents_nil k49
theorem k50 : entF E1 [] 40 c50 = true := by kernel_rfl
theorem o50 : EntOK Try.prog E1 c50 := ent_of e1 x1 n1 tabs_ok.mix ents_nil k50
theorem k51 : entF E1 [] 40 c51 = true := by kernel_rfl
theorem o51 : EntOK Try.prog E1 c51 := ent_of e1 x1 n1 tabs_ok.mix ents_nil k51
theorem k53 : entF E1 [] 40 c53 = true := by kernel_rfl
theorem o53 : EntOK Try.prog E1 c53 := ent_of e1 x1 n1 tabs_ok.mix ents_nil k53
theorem k54 : entF E1 [] 40 c54 = true := by kernel_rfl
theorem o54 : EntOK Try.prog E1 c54 := ent_of e1 x1 n1 tabs_ok.mix ents_nil k54
theorem k55 : entF E1 [] 40 c55 = true := by kernel_rfl
theorem o55 : EntOK Try.prog E1 c55 := ent_of e1 x1 n1 tabs_ok.mix ents_nil k55
theorem k56 : entF E1 [] 40 c56 = true := by kernel_rfl
theorem o56 : EntOK Try.prog E1 c56 := ent_of e1 x1 n1 tabs_ok.mix ents_nil k56
theorem k57 : entF E1 [] 40 c57 = true := by kernel_rfl
theorem o57 : EntOK Try.prog E1 c57 := ent_of e1 x1 n1 tabs_ok.mix ents_nil k57
theorem k58 : entF E1 [] 40 c58 = true := by kernel_rfl
theorem o58 : EntOK Try.prog E1 c58 := ent_of e1 x1 n1 tabs_ok.mix ents_nil k58
end Go.Proofs.Ytjjfiagafdnkhaa

