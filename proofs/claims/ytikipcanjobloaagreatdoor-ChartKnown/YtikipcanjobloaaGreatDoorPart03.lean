/-
  CLOSED CALLS, their answers by the kernel.
-/
import Derived.Test.YtikipcanjobloaaGreatDoorPart02
set_option linter.unusedSectionVars false
set_option linter.unusedSimpArgs false
set_option linter.unusedVariables false
set_option maxRecDepth 100000
namespace Go.Proofs.YtikipcanjobloaaGreatDoor
open Go Go.Eng
theorem k1_0_0 : comes E1 40 108 [(.agg [(.str [107, 110, 111, 108, 108]), (.csl [(.int .i64 (100)), (.int .i64 (0)), (.int .i64 (200)), (.int .i64 (0)), (.int .i64 (200)), (.int .i64 (100)), (.int .i64 (100)), (.int .i64 (100))] 4), (.int .i64 (0)), (.int .i64 (10)), (.int .i64 (-5)), (.int .i64 (5)), (.int .i64 (0)), (.int .i64 (0))]), (.int .i64 (100))] (.tup [(.agg [(.int .i64 (0)), (.int .i64 (0))]), (.bool false)]) = true := comes_of (by kernel_rfl)
end Go.Proofs.YtikipcanjobloaaGreatDoor

