/-
  THE ENGINE: one more part of it.
-/
import Derived.Test.YtelibdeanepdjaaGreatPart06
set_option linter.unusedSectionVars false
set_option linter.unusedSimpArgs false
set_option linter.unusedVariables false
set_option maxRecDepth 100000
namespace Go.Proofs.YtelibdeanepdjaaGreat
open Go Go.Eng
theorem k8:entF E1 [] 40 c8=true:=by kernel_rfl
theorem o8:EntOK Tryz.prog E1 c8:=ent_of e1 x1 n1 tabs_ok.mix ents_nil k8
theorem k9:entL E1 [] 40 c9=true:=by kernel_rfl
theorem o9:EntOK Tryz.prog E1 c9:=entL_of e1 x1 n1 tabs_ok.mix ents_nil k9
theorem k11:entL E1 [] 40 c11=true:=by kernel_rfl
theorem o11:EntOK Tryz.prog E1 c11:=entL_of e1 x1 n1 tabs_ok.mix ents_nil k11
theorem k12:entF E1 [] 40 c12=true:=by kernel_rfl
theorem o12:EntOK Tryz.prog E1 c12:=ent_of e1 x1 n1 tabs_ok.mix ents_nil k12
end Go.Proofs.YtelibdeanepdjaaGreat

