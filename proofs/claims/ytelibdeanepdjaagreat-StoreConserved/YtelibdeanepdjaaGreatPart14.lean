/-
  THE ENGINE: one more part of it.
-/
import Derived.Test.YtelibdeanepdjaaGreatPart07
import Derived.Test.YtelibdeanepdjaaGreatPart08
import Derived.Test.YtelibdeanepdjaaGreatPart09
import Derived.Test.YtelibdeanepdjaaGreatPart10
import Derived.Test.YtelibdeanepdjaaGreatPart11
import Derived.Test.YtelibdeanepdjaaGreatPart12
import Derived.Test.YtelibdeanepdjaaGreatPart13
set_option linter.unusedSectionVars false
set_option linter.unusedSimpArgs false
set_option linter.unusedVariables false
set_option maxRecDepth 100000
namespace Go.Proofs.YtelibdeanepdjaaGreat
open Go Go.Eng
noncomputable def L2:List Ent:=[c0,c1,c3,c4,c6,c7,c8,c9,c11,c12]
theorem l2:∀ e∈L2,EntOK Tryz.prog E1 e:=ents_cons o0 (ents_cons o1 (ents_cons o3 (ents_cons o4 (ents_cons o6 (ents_cons o7 (ents_cons o8 (ents_cons o9 (ents_cons o11 (ents_cons o12 (ents_nil))))))))))
end Go.Proofs.YtelibdeanepdjaaGreat

