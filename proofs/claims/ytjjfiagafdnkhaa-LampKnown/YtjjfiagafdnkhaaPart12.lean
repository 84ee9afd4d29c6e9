/-
  CLOSED CALLS, joined.
-/
import Derived.Test.YtjjfiagafdnkhaaPart05
import Derived.Test.YtjjfiagafdnkhaaPart06
import Derived.Test.YtjjfiagafdnkhaaPart07
import Derived.Test.YtjjfiagafdnkhaaPart08
import Derived.Test.YtjjfiagafdnkhaaPart09
import Derived.Test.YtjjfiagafdnkhaaPart10
import Derived.Test.YtjjfiagafdnkhaaPart11
set_option linter.unusedSectionVars false
set_option linter.unusedSimpArgs false
set_option linter.unusedVariables false
set_option maxRecDepth 100000
namespace Go.Proofs.Ytjjfiagafdnkhaa
open Go Go.Eng
noncomputable def L2 : List Ent := [c0, c1, c2, c3, c4, c6, c7, c8, c9, c10, c11, c12, c13, c14, c15, c16, c17, c18, c19, c20, c21, c22, c23, c24, c25, c26, c27, c28, c29, c31, c32, c33, c34, c35, c37, c38, c39, c40, c41, c42, c43, c44, c45, c46, c47, c48, c49, c50, c51, c53, c54, c55, c56, c57, c58, c59, c60, c61, c62, c63, c64]
theorem l2 : ∀ e ∈ L2, EntOK Try.prog E1 e := ents_cons o0 (ents_cons o1 (ents_cons o2 (ents_cons o3 (ents_cons o4 (ents_cons o6 (ents_cons o7 (ents_cons o8 (ents_cons o9 (ents_cons o10 (ents_cons o11 (ents_cons o12 (ents_cons o13 (ents_cons o14 (ents_cons o15 (ents_cons o16 (ents_cons o17 (ents_cons o18 (ents_cons o19 (ents_cons o20 (ents_cons o21 (ents_cons o22 (ents_cons o23 (ents_cons o24 (ents_cons o25 (ents_cons o26 (ents_cons o27 (ents_cons o28 (ents_cons o29 (ents_cons o31 (ents_cons o32 (ents_cons o33 (ents_cons o34 (ents_cons o35 (ents_cons o37 (ents_cons o38 (ents_cons o39 (ents_cons o40 (ents_cons o41 (ents_cons o42 (ents_cons o43 (ents_cons o44 (ents_cons o45 (ents_cons o46 (ents_cons o47 (ents_cons o48 (ents_cons o49 (ents_cons o50 (ents_cons o51 (ents_cons o53 (ents_cons o54 (ents_cons o55 (ents_cons o56 (ents_cons o57 (ents_cons o58 (ents_cons o59 (ents_cons o60 (ents_cons o61 (ents_cons o62 (ents_cons o63 (ents_cons o64 (ents_nil)))))))))))))))))))))))))))))))))))))))))))))))))))))))))))))
end Go.Proofs.Ytjjfiagafdnkhaa

