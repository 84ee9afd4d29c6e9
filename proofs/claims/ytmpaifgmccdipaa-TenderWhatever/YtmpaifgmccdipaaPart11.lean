/-
  THE ENGINE: one more part of it.
-/
import Derived.Test.YtmpaifgmccdipaaPart05
set_option linter.unusedSectionVars false
set_option linter.unusedSimpArgs false
set_option linter.unusedVariables false
set_option maxRecDepth 100000
namespace Go.Proofs.Ytmpaifgmccdipaa
open Go Go.Eng
theorem k5:entF E1 [] 40 c5=true:=by kernel_rfl
theorem o5:EntOK Try.prog E1 c5:=ent_of e1 x1 n1 tabs_ok.mix ents_nil k5
end Go.Proofs.Ytmpaifgmccdipaa

