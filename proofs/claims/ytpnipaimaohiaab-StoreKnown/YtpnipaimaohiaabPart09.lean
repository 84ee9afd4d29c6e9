/-
  CLOSED CALLS, joined.
-/
import Derived.Test.YtpnipaimaohiaabPart04
import Derived.Test.YtpnipaimaohiaabPart05
import Derived.Test.YtpnipaimaohiaabPart06
import Derived.Test.YtpnipaimaohiaabPart07
import Derived.Test.YtpnipaimaohiaabPart08
set_option linter.unusedSectionVars false
set_option linter.unusedSimpArgs false
set_option linter.unusedVariables false
set_option maxRecDepth 100000
namespace Go.Proofs.Ytpnipaimaohiaab
open Go Go.Eng
noncomputable def L2 : List Ent := [c0, c1, c3, c5, c6, c7, c8, c9, c10, c11, c12, c14, c15, c16, c17, c18, c20, c21]
theorem l2 : ∀ e ∈ L2, EntOK Try.prog E1 e := ents_cons o0 (ents_cons o1 (ents_cons o3 (ents_cons o5 (ents_cons o6 (ents_cons o7 (ents_cons o8 (ents_cons o9 (ents_cons o10 (ents_cons o11 (ents_cons o12 (ents_cons o14 (ents_cons o15 (ents_cons o16 (ents_cons o17 (ents_cons o18 (ents_cons o20 (ents_cons o21 (ents_nil))))))))))))))))))
end Go.Proofs.Ytpnipaimaohiaab

