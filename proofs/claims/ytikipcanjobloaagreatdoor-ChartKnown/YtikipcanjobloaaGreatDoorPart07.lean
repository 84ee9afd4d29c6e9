/-
  CLOSED CALLS, their answers by the kernel.
-/
import Derived.Test.YtikipcanjobloaaGreatDoorPart02
set_option linter.unusedSectionVars false
set_option linter.unusedSimpArgs false
set_option linter.unusedVariables false
set_option maxRecDepth 100000
namespace Go.Proofs.YtikipcanjobloaaGreatDoor
open Go Go.Eng
theorem k1_4_0 : comes E1 40 108 [(.agg [(.str [107, 110, 111, 108, 108]), (.csl [(.int .i64 (100)), (.int .i64 (0)), (.int .i64 (200)), (.int .i64 (0)), (.int .i64 (200)), (.int .i64 (100)), (.int .i64 (100)), (.int .i64 (100))] 4), (.int .i64 (0)), (.int .i64 (10)), (.int .i64 (-5)), (.int .i64 (5)), (.int .i64 (-200)), (.int .i64 (-260))]), (.int .i64 (157))] (.tup [(.agg [(.int .i64 (0)), (.int .i64 (0))]), (.bool false)]) = true := comes_of (by kernel_rfl)
theorem k1_4_1 : comes E1 40 69 [(.agg [(.str [107, 110, 111, 108, 108]), (.csl [(.int .i64 (100)), (.int .i64 (0)), (.int .i64 (200)), (.int .i64 (0)), (.int .i64 (200)), (.int .i64 (100)), (.int .i64 (100)), (.int .i64 (100))] 4), (.int .i64 (0)), (.int .i64 (10)), (.int .i64 (-5)), (.int .i64 (5)), (.int .i64 (205)), (.int .i64 (50))])] (.int .i64 (66)) = true := comes_of (by kernel_rfl)
end Go.Proofs.YtikipcanjobloaaGreatDoor

