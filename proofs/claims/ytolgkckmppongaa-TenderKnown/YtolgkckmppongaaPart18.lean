/-
  THE ENGINE: one more part of it.
-/
import Derived.Test.YtolgkckmppongaaPart05
import Derived.Test.YtolgkckmppongaaPart06
import Derived.Test.YtolgkckmppongaaPart07
import Derived.Test.YtolgkckmppongaaPart08
import Derived.Test.YtolgkckmppongaaPart09
import Derived.Test.YtolgkckmppongaaPart10
import Derived.Test.YtolgkckmppongaaPart11
import Derived.Test.YtolgkckmppongaaPart12
import Derived.Test.YtolgkckmppongaaPart13
import Derived.Test.YtolgkckmppongaaPart14
import Derived.Test.YtolgkckmppongaaPart15
import Derived.Test.YtolgkckmppongaaPart16
import Derived.Test.YtolgkckmppongaaPart17
set_option linter.unusedSectionVars false
set_option linter.unusedSimpArgs false
set_option linter.unusedVariables false
set_option maxRecDepth 100000
namespace Go.Proofs.Ytolgkckmppongaa
open Go Go.Eng
noncomputable def L2:List Ent:=[c0,c1,c2,c3,c4,c6,c7,c8,c9,c10,c11,c12,c13]
theorem l2:∀ e∈L2,EntOK Try.prog E1 e:=ents_cons o0 (ents_cons o1 (ents_cons o2 (ents_cons o3 (ents_cons o4 (ents_cons o6 (ents_cons o7 (ents_cons o8 (ents_cons o9 (ents_cons o10 (ents_cons o11 (ents_cons o12 (ents_cons o13 (ents_nil)))))))))))))
end Go.Proofs.Ytolgkckmppongaa

