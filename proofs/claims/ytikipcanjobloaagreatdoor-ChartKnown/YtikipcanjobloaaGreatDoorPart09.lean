/-
  CLOSED CALLS, their answers by the kernel.
-/
import Derived.Test.YtikipcanjobloaaGreatDoorPart02
set_option linter.unusedSectionVars false
set_option linter.unusedSimpArgs false
set_option linter.unusedVariables false
set_option maxRecDepth 100000
namespace Go.Proofs.YtikipcanjobloaaGreatDoor
open Go Go.Eng
theorem k1_6_0 : comes E1 40 108 [(.agg [(.str [107, 110, 111, 108, 108]), (.csl [(.int .i64 (100)), (.int .i64 (0)), (.int .i64 (200)), (.int .i64 (0)), (.int .i64 (200)), (.int .i64 (100)), (.int .i64 (100)), (.int .i64 (100))] 4), (.int .i64 (0)), (.int .i64 (10)), (.int .i64 (-5)), (.int .i64 (5)), (.int .i64 (-200)), (.int .i64 (-260))]), (.int .i64 (40))] (.tup [(.agg [(.int .i64 (0)), (.int .i64 (0))]), (.bool false)]) = true := comes_of (by kernel_rfl)
theorem k1_6_1 : comes E1 40 20 [(.agg [(.csl [(.str [99, 104, 117, 114, 99, 104]), (.int .i64 (3000)), (.int .i64 (4000)), (.csl [(.int .i64 (0)), (.int .i64 (1)), (.int .i64 (50)), (.int .i64 (2))] 2), (.str [109, 105, 108, 108]), (.int .i64 (-2000)), (.int .i64 (0)), (.csl [(.int .i64 (10)), (.int .i64 (3)), (.int .i64 (90)), (.int .i64 (0))] 2)] 2), (.csl [(.str [107, 110, 111, 108, 108]), (.csl [(.int .i64 (100)), (.int .i64 (0)), (.int .i64 (200)), (.int .i64 (0)), (.int .i64 (200)), (.int .i64 (100)), (.int .i64 (100)), (.int .i64 (100))] 4), (.int .i64 (0)), (.int .i64 (10)), (.int .i64 (-5)), (.int .i64 (5)), (.str [115, 112, 105, 116]), (.csl [(.int .i64 (-300)), (.int .i64 (-300)), (.int .i64 (-100)), (.int .i64 (-400)), (.int .i64 (-200)), (.int .i64 (-200))] 3), (.int .i64 (0)), (.int .i64 (0)), (.int .i64 (0)), (.int .i64 (0))] 2)])] (.tup [(.int .i64 (0)), (.int .i64 (0)), (.int .i64 (0))]) = true := comes_of (by kernel_rfl)
theorem k1_6_2 : comes E1 40 90 [(.str [115, 97, 110, 100]), (.str [115, 112, 105, 116]), (.csl [(.int .i64 (0)), (.int .i64 (0)), (.int .i64 (0)), (.int .i64 (0)), (.int .i64 (-300)), (.int .i64 (-300)), (.int .i64 (-100)), (.int .i64 (-400)), (.int .i64 (-200)), (.int .i64 (-200))] 10)] (.str [115, 97, 110, 100, 32, 115, 112, 105, 116, 32, 48, 32, 48, 32, 48, 32, 48, 32, 45, 51, 48, 48, 32, 45, 51, 48, 48, 32, 45, 49, 48, 48, 32, 45, 52, 48, 48, 32, 45, 50, 48, 48, 32, 45, 50, 48, 48, 10]) = true := comes_of (by kernel_rfl)
end Go.Proofs.YtikipcanjobloaaGreatDoor

