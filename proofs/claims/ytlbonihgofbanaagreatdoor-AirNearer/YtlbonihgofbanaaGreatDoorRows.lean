/-
  NARROWER THAN 'FOR EVERY INPUT', by the rows' own cells (each row's printed sentence says how): AirKnown: laid · AirSignals: laid · AirOil: laid · AirNearer: laid · AirClears: laid.
  DERIVED. THE GIVEN ROWS OF THIS SEAT. 5 by the template 'for every input the law returns true; each argument reads behind the call as it read before'; 0 by the template 'total and deterministic' (their statements: YtlbonihgofbanaaGreatDoorTotals.lean).
  GIVEN WITH THE SEED: the statements are not yours to turn. If you find one false, say at which input.
  Laid BY PROGRAM, IN A SANDBOX (cutbox-rows.mjs): the forced cells as the released guide's own fill.sh prints them over the translation c54ed38aaace6225… (all of the seat's roots in one cut). By AI agents, Wed Nov 11 2026. No macro, syntax, notation, axiom, sorry.
-/
import Derived.Test.YtlbonihgofbanaaGreatDoorChecked
import GoSem.Claim
import GoSem.ClaimJoined
import GoSem.ClaimMapViews
import Derived.JoinedTies
import Derived.KernelRfl
namespace Go.Proofs.YtlbonihgofbanaaGreatDoor
/- THE CELL 'sum', in the pinned program and in every row, IS THE sha256 OF THE DUMP (.gsa) THAT YtlbonihgofbanaaGreatDoorProg.lean LOADS. Nothing in Lean hashes anything: it is a label: what it is worth is what the hold of that sum in a sandbox is worth. -/
noncomputable def Tryz.pinned : Pinned := { name := "ytlbonihgofbanaagreatdoor", sum := "c54ed38aaace62253e3feb8c9f8f1f34bf6d845fb28faa5611c7c80e56c0ff35", checked := Tryz.checked }
namespace Rows
def none {H : Type} : Left H := { results := [], args := [] }

/- WHAT THE LISTED PACKAGE-LEVEL VARIABLES READ AS WHEN THE CALL BEGINS. Each datum BY PROGRAM (the guide's laid-datum.mjs) off the statement by which the dump's own 'gosem.cut.vars' lays the variable. In a bare row this is a premise. The card (YtlbonihgofbanaaGreatDoorCards.lean) ties it to the program's text. -/
def laid_nore_chart_quarter {H : Type} : DataW H := .agg [.agg [.lit (.int .i64 0), .lit (.int .i64 1000)], .agg [.lit (.int .i64 195), .lit (.int .i64 981)], .agg [.lit (.int .i64 383), .lit (.int .i64 924)], .agg [.lit (.int .i64 556), .lit (.int .i64 831)], .agg [.lit (.int .i64 707), .lit (.int .i64 707)], .agg [.lit (.int .i64 831), .lit (.int .i64 556)], .agg [.lit (.int .i64 924), .lit (.int .i64 383)], .agg [.lit (.int .i64 981), .lit (.int .i64 195)]]

/-- 'norelaw06.AirKnown': WHATEVER THE INPUT: true; the input reads as it did. -/
def airKnownSpec : ChangeSpec := { name := "airKnown", fn := fun _ => fun
  | [] => { results := [.lit (.bool true)], args := [] }
  | _ => none }
def airKnownRow : OpenClaim := { program := "ytlbonihgofbanaagreatdoor", sum := "c54ed38aaace62253e3feb8c9f8f1f34bf6d845fb28faa5611c7c80e56c0ff35", func := "nore/norelaw06.AirKnown", spec := "airKnown", unfollowed := true, recurses := true, named := ["nore/chart.quarter"], apart := false, laid := [("nore/chart.quarter", laid_nore_chart_quarter)] }
def AirKnownSaid : Prop := airKnownRow.holds Tryz.pinned (OpenSpec.ofChange airKnownSpec)

/-- ITS FALSE NEIGHBOUR: 'it returns false'. Refute it at one input. -/
def airKnownWrong : ChangeSpec := { name := "airKnown", fn := fun _ => fun
  | [] => { results := [.lit (.bool false)], args := [] }
  | _ => none }
def AirKnownWrongFalsely : Prop := airKnownRow.holds Tryz.pinned (OpenSpec.ofChange airKnownWrong)

/-- 'norelaw06.AirSignals': WHATEVER THE INPUT: true; the input reads as it did. -/
def airSignalsSpec : ChangeSpec := { name := "airSignals", fn := fun _ => fun
  | [d1, d2, d3] => { results := [.lit (.bool true)], args := [d1, d2, d3] }
  | _ => none }
def airSignalsRow : OpenClaim := { program := "ytlbonihgofbanaagreatdoor", sum := "c54ed38aaace62253e3feb8c9f8f1f34bf6d845fb28faa5611c7c80e56c0ff35", func := "nore/norelaw06.AirSignals", spec := "airSignals", unfollowed := true, recurses := true, named := ["nore/chart.quarter"], apart := false, laid := [("nore/chart.quarter", laid_nore_chart_quarter)] }
def AirSignalsSaid : Prop := airSignalsRow.holds Tryz.pinned (OpenSpec.ofChange airSignalsSpec)

/-- ITS FALSE NEIGHBOUR: 'it returns false'. Refute it at one input. -/
def airSignalsWrong : ChangeSpec := { name := "airSignals", fn := fun _ => fun
  | [d1, d2, d3] => { results := [.lit (.bool false)], args := [d1, d2, d3] }
  | _ => none }
def AirSignalsWrongFalsely : Prop := airSignalsRow.holds Tryz.pinned (OpenSpec.ofChange airSignalsWrong)

/-- 'norelaw06.AirOil': WHATEVER THE INPUT: true; the input reads as it did. -/
def airOilSpec : ChangeSpec := { name := "airOil", fn := fun _ => fun
  | [d1, d2] => { results := [.lit (.bool true)], args := [d1, d2] }
  | _ => none }
def airOilRow : OpenClaim := { program := "ytlbonihgofbanaagreatdoor", sum := "c54ed38aaace62253e3feb8c9f8f1f34bf6d845fb28faa5611c7c80e56c0ff35", func := "nore/norelaw06.AirOil", spec := "airOil", unfollowed := true, recurses := true, named := ["nore/chart.quarter"], apart := false, laid := [("nore/chart.quarter", laid_nore_chart_quarter)] }
def AirOilSaid : Prop := airOilRow.holds Tryz.pinned (OpenSpec.ofChange airOilSpec)

/-- ITS FALSE NEIGHBOUR: 'it returns false'. Refute it at one input. -/
def airOilWrong : ChangeSpec := { name := "airOil", fn := fun _ => fun
  | [d1, d2] => { results := [.lit (.bool false)], args := [d1, d2] }
  | _ => none }
def AirOilWrongFalsely : Prop := airOilRow.holds Tryz.pinned (OpenSpec.ofChange airOilWrong)

/-- 'norelaw06.AirNearer': WHATEVER THE INPUT: true; the input reads as it did. -/
def airNearerSpec : ChangeSpec := { name := "airNearer", fn := fun _ => fun
  | [d1, d2, d3] => { results := [.lit (.bool true)], args := [d1, d2, d3] }
  | _ => none }
def airNearerRow : OpenClaim := { program := "ytlbonihgofbanaagreatdoor", sum := "c54ed38aaace62253e3feb8c9f8f1f34bf6d845fb28faa5611c7c80e56c0ff35", func := "nore/norelaw06.AirNearer", spec := "airNearer", unfollowed := true, recurses := true, named := ["nore/chart.quarter"], apart := false, laid := [("nore/chart.quarter", laid_nore_chart_quarter)] }
def AirNearerSaid : Prop := airNearerRow.holds Tryz.pinned (OpenSpec.ofChange airNearerSpec)

/-- ITS FALSE NEIGHBOUR: 'it returns false'. Refute it at one input. -/
def airNearerWrong : ChangeSpec := { name := "airNearer", fn := fun _ => fun
  | [d1, d2, d3] => { results := [.lit (.bool false)], args := [d1, d2, d3] }
  | _ => none }
def AirNearerWrongFalsely : Prop := airNearerRow.holds Tryz.pinned (OpenSpec.ofChange airNearerWrong)

/-- 'norelaw06.AirClears': WHATEVER THE INPUT: true; the input reads as it did. -/
def airClearsSpec : ChangeSpec := { name := "airClears", fn := fun _ => fun
  | [d1, d2, d3] => { results := [.lit (.bool true)], args := [d1, d2, d3] }
  | _ => none }
def airClearsRow : OpenClaim := { program := "ytlbonihgofbanaagreatdoor", sum := "c54ed38aaace62253e3feb8c9f8f1f34bf6d845fb28faa5611c7c80e56c0ff35", func := "nore/norelaw06.AirClears", spec := "airClears", unfollowed := true, recurses := true, named := ["nore/chart.quarter"], apart := false, laid := [("nore/chart.quarter", laid_nore_chart_quarter)] }
def AirClearsSaid : Prop := airClearsRow.holds Tryz.pinned (OpenSpec.ofChange airClearsSpec)

/-- ITS FALSE NEIGHBOUR: 'it returns false'. Refute it at one input. -/
def airClearsWrong : ChangeSpec := { name := "airClears", fn := fun _ => fun
  | [d1, d2, d3] => { results := [.lit (.bool false)], args := [d1, d2, d3] }
  | _ => none }
def AirClearsWrongFalsely : Prop := airClearsRow.holds Tryz.pinned (OpenSpec.ofChange airClearsWrong)

/- THE SECOND FORM. 'bulk': how many values and letters a reading holds, each counted each time it is reached (what is shared counts as often as it is met; a slice's spare places count too). A statement '..UptoSaid' is the law's where the arguments, and the package variables that the reading takes, are together of bulk at most 1048576: NARROWER than '..Said'. Prove '..Said' where nothing that the law and all that it calls make is longer than what came in: it says more and counts as full. Else prove '..UptoSaid'. A law counts once. -/
mutual
def uptoBulk {H : Type} : DataW H → Nat
  | .lit (.string bytes) => bytes.length + 1
  | .lit _ => 1
  | .nil => 1
  | .ptr d => uptoBulk d + 1
  | .slice elems spare => uptoBulkAll elems + uptoBulkAll spare + 1
  | .agg parts => uptoBulkAll parts + 1
  | .iface _ d => uptoBulk d + 1
  | .map entries => uptoBulkEntries entries + 1
  | .held _ => 1
def uptoBulkAll {H : Type} : List (DataW H) → Nat
  | [] => 0
  | d :: r => uptoBulk d + uptoBulkAll r
def uptoBulkEntries {H : Type} : List (Lit × DataW H) → Nat
  | [] => 0
  | x :: r => uptoBulkEntry x + uptoBulkEntries r
def uptoBulkEntry {H : Type} : Lit × DataW H → Nat
  | (.string bytes, d) => bytes.length + uptoBulk d + 1
  | (_, d) => uptoBulk d + 1
 end
def uptoSmall : (H : Type) → List (DataW H) → Bool := fun _ ds => decide (uptoBulkAll ds ≤ 1048576)
def OpenSpec.upto (s : _root_.Go.ChangeSpec) : _root_.Go.OpenSpec := { _root_.Go.OpenSpec.ofChange s with cond := some uptoSmall }

/-- 'norelaw06.AirKnown', WHERE WHAT IT READS IS OF BULK AT MOST 1048576: true; the input reads as it did. -/
def airKnownUptoRow : OpenClaim := { program := "ytlbonihgofbanaagreatdoor", sum := "c54ed38aaace62253e3feb8c9f8f1f34bf6d845fb28faa5611c7c80e56c0ff35", func := "nore/norelaw06.AirKnown", spec := "airKnown", unfollowed := true, recurses := true, named := ["nore/chart.quarter"], apart := false, laid := [("nore/chart.quarter", laid_nore_chart_quarter)], narrowed := true }
def AirKnownUptoSaid : Prop := airKnownUptoRow.holds Tryz.pinned (OpenSpec.upto airKnownSpec)

/-- 'norelaw06.AirSignals', WHERE WHAT IT READS IS OF BULK AT MOST 1048576: true; the input reads as it did. -/
def airSignalsUptoRow : OpenClaim := { program := "ytlbonihgofbanaagreatdoor", sum := "c54ed38aaace62253e3feb8c9f8f1f34bf6d845fb28faa5611c7c80e56c0ff35", func := "nore/norelaw06.AirSignals", spec := "airSignals", unfollowed := true, recurses := true, named := ["nore/chart.quarter"], apart := false, laid := [("nore/chart.quarter", laid_nore_chart_quarter)], narrowed := true }
def AirSignalsUptoSaid : Prop := airSignalsUptoRow.holds Tryz.pinned (OpenSpec.upto airSignalsSpec)

/-- 'norelaw06.AirOil', WHERE WHAT IT READS IS OF BULK AT MOST 1048576: true; the input reads as it did. -/
def airOilUptoRow : OpenClaim := { program := "ytlbonihgofbanaagreatdoor", sum := "c54ed38aaace62253e3feb8c9f8f1f34bf6d845fb28faa5611c7c80e56c0ff35", func := "nore/norelaw06.AirOil", spec := "airOil", unfollowed := true, recurses := true, named := ["nore/chart.quarter"], apart := false, laid := [("nore/chart.quarter", laid_nore_chart_quarter)], narrowed := true }
def AirOilUptoSaid : Prop := airOilUptoRow.holds Tryz.pinned (OpenSpec.upto airOilSpec)

/-- 'norelaw06.AirNearer', WHERE WHAT IT READS IS OF BULK AT MOST 1048576: true; the input reads as it did. -/
def airNearerUptoRow : OpenClaim := { program := "ytlbonihgofbanaagreatdoor", sum := "c54ed38aaace62253e3feb8c9f8f1f34bf6d845fb28faa5611c7c80e56c0ff35", func := "nore/norelaw06.AirNearer", spec := "airNearer", unfollowed := true, recurses := true, named := ["nore/chart.quarter"], apart := false, laid := [("nore/chart.quarter", laid_nore_chart_quarter)], narrowed := true }
def AirNearerUptoSaid : Prop := airNearerUptoRow.holds Tryz.pinned (OpenSpec.upto airNearerSpec)

/-- 'norelaw06.AirClears', WHERE WHAT IT READS IS OF BULK AT MOST 1048576: true; the input reads as it did. -/
def airClearsUptoRow : OpenClaim := { program := "ytlbonihgofbanaagreatdoor", sum := "c54ed38aaace62253e3feb8c9f8f1f34bf6d845fb28faa5611c7c80e56c0ff35", func := "nore/norelaw06.AirClears", spec := "airClears", unfollowed := true, recurses := true, named := ["nore/chart.quarter"], apart := false, laid := [("nore/chart.quarter", laid_nore_chart_quarter)], narrowed := true }
def AirClearsUptoSaid : Prop := airClearsUptoRow.holds Tryz.pinned (OpenSpec.upto airClearsSpec)

end Rows
end Go.Proofs.YtlbonihgofbanaaGreatDoor
