/-
  CLOSED CALLS, their answers by the kernel.
-/
import Derived.Test.YtikipcanjobloaaGreatDoorPart02
set_option linter.unusedSectionVars false
set_option linter.unusedSimpArgs false
set_option linter.unusedVariables false
set_option maxRecDepth 100000
namespace Go.Proofs.YtikipcanjobloaaGreatDoor
open Go Go.Eng
theorem k1_11_0 : comes E1 40 108 [(.agg [(.str [107, 110, 111, 108, 108]), (.csl [(.int .i64 (100)), (.int .i64 (0)), (.int .i64 (200)), (.int .i64 (0)), (.int .i64 (200)), (.int .i64 (100)), (.int .i64 (100)), (.int .i64 (100))] 4), (.int .i64 (0)), (.int .i64 (10)), (.int .i64 (-5)), (.int .i64 (5)), (.int .i64 (-200)), (.int .i64 (-260))]), (.int .i64 (2))] (.tup [(.agg [(.int .i64 (0)), (.int .i64 (0))]), (.bool false)]) = true := comes_of (by kernel_rfl)
theorem k1_11_1 : comes E1 40 82 [(.agg [(.int .i64 (-4)), (.int .i64 (0))])] (.int .i64 (24)) = true := comes_of (by kernel_rfl)
theorem k1_11_2 : comes E1 40 82 [(.agg [(.int .i64 (-10)), (.int .i64 (0))])] (.int .i64 (24)) = true := comes_of (by kernel_rfl)
end Go.Proofs.YtikipcanjobloaaGreatDoor

