/-
  THE ENGINE: one more part of it.
-/
import Derived.Test.YtdankkgamgfjbaaGreatPart07
import Derived.Test.YtdankkgamgfjbaaGreatPart08
import Derived.Test.YtdankkgamgfjbaaGreatPart09
import Derived.Test.YtdankkgamgfjbaaGreatPart10
import Derived.Test.YtdankkgamgfjbaaGreatPart11
import Derived.Test.YtdankkgamgfjbaaGreatPart12
import Derived.Test.YtdankkgamgfjbaaGreatPart13
set_option linter.unusedSectionVars false
set_option linter.unusedSimpArgs false
set_option linter.unusedVariables false
set_option maxRecDepth 100000
namespace Go.Proofs.YtdankkgamgfjbaaGreat
open Go Go.Eng
noncomputable def L2:List Ent:=[c0,c1,c3,c4,c6,c7,c8,c9,c11,c12]
theorem l2:∀ e∈L2,EntOK Tryz.prog E1 e:=ents_cons o0 (ents_cons o1 (ents_cons o3 (ents_cons o4 (ents_cons o6 (ents_cons o7 (ents_cons o8 (ents_cons o9 (ents_cons o11 (ents_cons o12 (ents_nil))))))))))
end Go.Proofs.YtdankkgamgfjbaaGreat

