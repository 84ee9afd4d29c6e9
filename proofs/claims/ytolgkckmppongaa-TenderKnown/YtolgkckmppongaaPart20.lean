/-
  THE ENGINE: one more part of it.
-/
import Derived.Test.YtolgkckmppongaaPart18
set_option linter.unusedSectionVars false
set_option linter.unusedSimpArgs false
set_option linter.unusedVariables false
set_option maxRecDepth 100000
namespace Go.Proofs.Ytolgkckmppongaa
open Go Go.Eng
theorem k14:entF E1 L2 40 c14=true:=by kernel_rfl
theorem o14:EntOK Try.prog E1 c14:=ent_of e1 x1 n1 tabs_ok.mix l2 k14
end Go.Proofs.Ytolgkckmppongaa

