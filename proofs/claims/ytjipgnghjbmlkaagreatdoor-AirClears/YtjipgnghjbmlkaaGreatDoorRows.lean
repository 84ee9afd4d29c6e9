/-
  NARROWER THAN 'FOR EVERY INPUT', by the rows' own cells (each row's printed sentence says how): AirClears: laid · AirCould: laid · AirFalse: laid · AirTrue: laid · AirReached: laid · AirMore: laid · AirGrade: laid · AirFewest: laid · AirLiars: laid · AirTurned: laid.
  DERIVED. THE GIVEN ROWS OF THIS SEAT. 10 by the template 'for every input the law returns true; each argument reads behind the call as it read before'; 0 by the template 'total and deterministic' (their statements: YtjipgnghjbmlkaaGreatDoorTotals.lean).
  GIVEN WITH THE SEED: the statements are not yours to turn. If you find one false, say at which input.
  Laid BY PROGRAM, IN A SANDBOX (cutbox-rows.mjs): the forced cells as the released guide's own fill.sh prints them over the translation 1a25edcea2d264c9… (all of the seat's roots in one cut). By AI agents, Wed Nov 11 2026. No macro, syntax, notation, axiom, sorry.
-/
import Derived.Test.YtjipgnghjbmlkaaGreatDoorChecked
import GoSem.Claim
import GoSem.ClaimJoined
import GoSem.ClaimMapViews
import Derived.JoinedTies
import Derived.KernelRfl
namespace Go.Proofs.YtjipgnghjbmlkaaGreatDoor
/- THE CELL 'sum', in the pinned program and in every row, IS THE sha256 OF THE DUMP (.gsa) THAT YtjipgnghjbmlkaaGreatDoorProg.lean LOADS. Nothing in Lean hashes anything: it is a label: what it is worth is what the hold of that sum in a sandbox is worth. -/
noncomputable def Tryz.pinned : Pinned := { name := "ytjipgnghjbmlkaagreatdoor", sum := "1a25edcea2d264c93f10617c480a282c5513fcbce3f9e98837e495e5afd1acfd", checked := Tryz.checked }
namespace Rows
def none {H : Type} : Left H := { results := [], args := [] }

/- WHAT THE LISTED PACKAGE-LEVEL VARIABLES READ AS WHEN THE CALL BEGINS. Each datum BY PROGRAM (the guide's laid-datum.mjs) off the statement by which the dump's own 'gosem.cut.vars' lays the variable. In a bare row this is a premise. The card (YtjipgnghjbmlkaaGreatDoorCards.lean) ties it to the program's text. -/
def laid_nore_chart_quarter {H : Type} : DataW H := .agg [.agg [.lit (.int .i64 0), .lit (.int .i64 1000)], .agg [.lit (.int .i64 195), .lit (.int .i64 981)], .agg [.lit (.int .i64 383), .lit (.int .i64 924)], .agg [.lit (.int .i64 556), .lit (.int .i64 831)], .agg [.lit (.int .i64 707), .lit (.int .i64 707)], .agg [.lit (.int .i64 831), .lit (.int .i64 556)], .agg [.lit (.int .i64 924), .lit (.int .i64 383)], .agg [.lit (.int .i64 981), .lit (.int .i64 195)]]

/-- 'norelaw06.AirClears': WHATEVER THE INPUT: true; the input reads as it did. -/
def airClearsSpec : ChangeSpec := { name := "airClears", fn := fun _ => fun
  | [d1, d2, d3] => { results := [.lit (.bool true)], args := [d1, d2, d3] }
  | _ => none }
def airClearsRow : OpenClaim := { program := "ytjipgnghjbmlkaagreatdoor", sum := "1a25edcea2d264c93f10617c480a282c5513fcbce3f9e98837e495e5afd1acfd", func := "nore/norelaw06.AirClears", spec := "airClears", unfollowed := true, recurses := true, named := ["nore/chart.quarter"], apart := false, laid := [("nore/chart.quarter", laid_nore_chart_quarter)] }
def AirClearsSaid : Prop := airClearsRow.holds Tryz.pinned (OpenSpec.ofChange airClearsSpec)

/-- ITS FALSE NEIGHBOUR: 'it returns false'. Refute it at one input. -/
def airClearsWrong : ChangeSpec := { name := "airClears", fn := fun _ => fun
  | [d1, d2, d3] => { results := [.lit (.bool false)], args := [d1, d2, d3] }
  | _ => none }
def AirClearsWrongFalsely : Prop := airClearsRow.holds Tryz.pinned (OpenSpec.ofChange airClearsWrong)

/-- 'norelaw06.AirCould': WHATEVER THE INPUT: true; the input reads as it did. -/
def airCouldSpec : ChangeSpec := { name := "airCould", fn := fun _ => fun
  | [d1, d2, d3] => { results := [.lit (.bool true)], args := [d1, d2, d3] }
  | _ => none }
def airCouldRow : OpenClaim := { program := "ytjipgnghjbmlkaagreatdoor", sum := "1a25edcea2d264c93f10617c480a282c5513fcbce3f9e98837e495e5afd1acfd", func := "nore/norelaw06.AirCould", spec := "airCould", unfollowed := true, recurses := true, named := ["nore/chart.quarter"], apart := false, laid := [("nore/chart.quarter", laid_nore_chart_quarter)] }
def AirCouldSaid : Prop := airCouldRow.holds Tryz.pinned (OpenSpec.ofChange airCouldSpec)

/-- ITS FALSE NEIGHBOUR: 'it returns false'. Refute it at one input. -/
def airCouldWrong : ChangeSpec := { name := "airCould", fn := fun _ => fun
  | [d1, d2, d3] => { results := [.lit (.bool false)], args := [d1, d2, d3] }
  | _ => none }
def AirCouldWrongFalsely : Prop := airCouldRow.holds Tryz.pinned (OpenSpec.ofChange airCouldWrong)

/-- 'norelaw06.AirFalse': WHATEVER THE INPUT: true; the input reads as it did. -/
def airFalseSpec : ChangeSpec := { name := "airFalse", fn := fun _ => fun
  | [d1, d2, d3] => { results := [.lit (.bool true)], args := [d1, d2, d3] }
  | _ => none }
def airFalseRow : OpenClaim := { program := "ytjipgnghjbmlkaagreatdoor", sum := "1a25edcea2d264c93f10617c480a282c5513fcbce3f9e98837e495e5afd1acfd", func := "nore/norelaw06.AirFalse", spec := "airFalse", unfollowed := true, recurses := true, named := ["nore/chart.quarter"], apart := false, laid := [("nore/chart.quarter", laid_nore_chart_quarter)] }
def AirFalseSaid : Prop := airFalseRow.holds Tryz.pinned (OpenSpec.ofChange airFalseSpec)

/-- ITS FALSE NEIGHBOUR: 'it returns false'. Refute it at one input. -/
def airFalseWrong : ChangeSpec := { name := "airFalse", fn := fun _ => fun
  | [d1, d2, d3] => { results := [.lit (.bool false)], args := [d1, d2, d3] }
  | _ => none }
def AirFalseWrongFalsely : Prop := airFalseRow.holds Tryz.pinned (OpenSpec.ofChange airFalseWrong)

/-- 'norelaw06.AirTrue': WHATEVER THE INPUT: true; the input reads as it did. -/
def airTrueSpec : ChangeSpec := { name := "airTrue", fn := fun _ => fun
  | [d1, d2, d3] => { results := [.lit (.bool true)], args := [d1, d2, d3] }
  | _ => none }
def airTrueRow : OpenClaim := { program := "ytjipgnghjbmlkaagreatdoor", sum := "1a25edcea2d264c93f10617c480a282c5513fcbce3f9e98837e495e5afd1acfd", func := "nore/norelaw06.AirTrue", spec := "airTrue", unfollowed := true, recurses := true, named := ["nore/chart.quarter"], apart := false, laid := [("nore/chart.quarter", laid_nore_chart_quarter)] }
def AirTrueSaid : Prop := airTrueRow.holds Tryz.pinned (OpenSpec.ofChange airTrueSpec)

/-- ITS FALSE NEIGHBOUR: 'it returns false'. Refute it at one input. -/
def airTrueWrong : ChangeSpec := { name := "airTrue", fn := fun _ => fun
  | [d1, d2, d3] => { results := [.lit (.bool false)], args := [d1, d2, d3] }
  | _ => none }
def AirTrueWrongFalsely : Prop := airTrueRow.holds Tryz.pinned (OpenSpec.ofChange airTrueWrong)

/-- 'norelaw06.AirReached': WHATEVER THE INPUT: true; the input reads as it did. -/
def airReachedSpec : ChangeSpec := { name := "airReached", fn := fun _ => fun
  | [d1, d2, d3] => { results := [.lit (.bool true)], args := [d1, d2, d3] }
  | _ => none }
def airReachedRow : OpenClaim := { program := "ytjipgnghjbmlkaagreatdoor", sum := "1a25edcea2d264c93f10617c480a282c5513fcbce3f9e98837e495e5afd1acfd", func := "nore/norelaw06.AirReached", spec := "airReached", unfollowed := true, recurses := true, named := ["nore/chart.quarter"], apart := false, laid := [("nore/chart.quarter", laid_nore_chart_quarter)] }
def AirReachedSaid : Prop := airReachedRow.holds Tryz.pinned (OpenSpec.ofChange airReachedSpec)

/-- ITS FALSE NEIGHBOUR: 'it returns false'. Refute it at one input. -/
def airReachedWrong : ChangeSpec := { name := "airReached", fn := fun _ => fun
  | [d1, d2, d3] => { results := [.lit (.bool false)], args := [d1, d2, d3] }
  | _ => none }
def AirReachedWrongFalsely : Prop := airReachedRow.holds Tryz.pinned (OpenSpec.ofChange airReachedWrong)

/-- 'norelaw06.AirMore': WHATEVER THE INPUT: true; the input reads as it did. -/
def airMoreSpec : ChangeSpec := { name := "airMore", fn := fun _ => fun
  | [d1, d2, d3] => { results := [.lit (.bool true)], args := [d1, d2, d3] }
  | _ => none }
def airMoreRow : OpenClaim := { program := "ytjipgnghjbmlkaagreatdoor", sum := "1a25edcea2d264c93f10617c480a282c5513fcbce3f9e98837e495e5afd1acfd", func := "nore/norelaw06.AirMore", spec := "airMore", unfollowed := true, recurses := true, named := ["nore/chart.quarter"], apart := false, laid := [("nore/chart.quarter", laid_nore_chart_quarter)] }
def AirMoreSaid : Prop := airMoreRow.holds Tryz.pinned (OpenSpec.ofChange airMoreSpec)

/-- ITS FALSE NEIGHBOUR: 'it returns false'. Refute it at one input. -/
def airMoreWrong : ChangeSpec := { name := "airMore", fn := fun _ => fun
  | [d1, d2, d3] => { results := [.lit (.bool false)], args := [d1, d2, d3] }
  | _ => none }
def AirMoreWrongFalsely : Prop := airMoreRow.holds Tryz.pinned (OpenSpec.ofChange airMoreWrong)

/-- 'norelaw06.AirGrade': WHATEVER THE INPUT: true; the input reads as it did. -/
def airGradeSpec : ChangeSpec := { name := "airGrade", fn := fun _ => fun
  | [d1, d2, d3] => { results := [.lit (.bool true)], args := [d1, d2, d3] }
  | _ => none }
def airGradeRow : OpenClaim := { program := "ytjipgnghjbmlkaagreatdoor", sum := "1a25edcea2d264c93f10617c480a282c5513fcbce3f9e98837e495e5afd1acfd", func := "nore/norelaw06.AirGrade", spec := "airGrade", unfollowed := true, recurses := true, named := ["nore/chart.quarter"], apart := false, laid := [("nore/chart.quarter", laid_nore_chart_quarter)] }
def AirGradeSaid : Prop := airGradeRow.holds Tryz.pinned (OpenSpec.ofChange airGradeSpec)

/-- ITS FALSE NEIGHBOUR: 'it returns false'. Refute it at one input. -/
def airGradeWrong : ChangeSpec := { name := "airGrade", fn := fun _ => fun
  | [d1, d2, d3] => { results := [.lit (.bool false)], args := [d1, d2, d3] }
  | _ => none }
def AirGradeWrongFalsely : Prop := airGradeRow.holds Tryz.pinned (OpenSpec.ofChange airGradeWrong)

/-- 'norelaw06.AirFewest': WHATEVER THE INPUT: true; the input reads as it did. -/
def airFewestSpec : ChangeSpec := { name := "airFewest", fn := fun _ => fun
  | [d1, d2, d3] => { results := [.lit (.bool true)], args := [d1, d2, d3] }
  | _ => none }
def airFewestRow : OpenClaim := { program := "ytjipgnghjbmlkaagreatdoor", sum := "1a25edcea2d264c93f10617c480a282c5513fcbce3f9e98837e495e5afd1acfd", func := "nore/norelaw06.AirFewest", spec := "airFewest", unfollowed := true, recurses := true, named := ["nore/chart.quarter"], apart := false, laid := [("nore/chart.quarter", laid_nore_chart_quarter)] }
def AirFewestSaid : Prop := airFewestRow.holds Tryz.pinned (OpenSpec.ofChange airFewestSpec)

/-- ITS FALSE NEIGHBOUR: 'it returns false'. Refute it at one input. -/
def airFewestWrong : ChangeSpec := { name := "airFewest", fn := fun _ => fun
  | [d1, d2, d3] => { results := [.lit (.bool false)], args := [d1, d2, d3] }
  | _ => none }
def AirFewestWrongFalsely : Prop := airFewestRow.holds Tryz.pinned (OpenSpec.ofChange airFewestWrong)

/-- 'norelaw06.AirLiars': WHATEVER THE INPUT: true; the input reads as it did. -/
def airLiarsSpec : ChangeSpec := { name := "airLiars", fn := fun _ => fun
  | [d1, d2, d3] => { results := [.lit (.bool true)], args := [d1, d2, d3] }
  | _ => none }
def airLiarsRow : OpenClaim := { program := "ytjipgnghjbmlkaagreatdoor", sum := "1a25edcea2d264c93f10617c480a282c5513fcbce3f9e98837e495e5afd1acfd", func := "nore/norelaw06.AirLiars", spec := "airLiars", unfollowed := true, recurses := true, named := ["nore/chart.quarter"], apart := false, laid := [("nore/chart.quarter", laid_nore_chart_quarter)] }
def AirLiarsSaid : Prop := airLiarsRow.holds Tryz.pinned (OpenSpec.ofChange airLiarsSpec)

/-- ITS FALSE NEIGHBOUR: 'it returns false'. Refute it at one input. -/
def airLiarsWrong : ChangeSpec := { name := "airLiars", fn := fun _ => fun
  | [d1, d2, d3] => { results := [.lit (.bool false)], args := [d1, d2, d3] }
  | _ => none }
def AirLiarsWrongFalsely : Prop := airLiarsRow.holds Tryz.pinned (OpenSpec.ofChange airLiarsWrong)

/-- 'norelaw06.AirTurned': WHATEVER THE INPUT: true; the input reads as it did. -/
def airTurnedSpec : ChangeSpec := { name := "airTurned", fn := fun _ => fun
  | [d1, d2, d3] => { results := [.lit (.bool true)], args := [d1, d2, d3] }
  | _ => none }
def airTurnedRow : OpenClaim := { program := "ytjipgnghjbmlkaagreatdoor", sum := "1a25edcea2d264c93f10617c480a282c5513fcbce3f9e98837e495e5afd1acfd", func := "nore/norelaw06.AirTurned", spec := "airTurned", unfollowed := true, recurses := true, named := ["nore/chart.quarter"], apart := false, laid := [("nore/chart.quarter", laid_nore_chart_quarter)] }
def AirTurnedSaid : Prop := airTurnedRow.holds Tryz.pinned (OpenSpec.ofChange airTurnedSpec)

/-- ITS FALSE NEIGHBOUR: 'it returns false'. Refute it at one input. -/
def airTurnedWrong : ChangeSpec := { name := "airTurned", fn := fun _ => fun
  | [d1, d2, d3] => { results := [.lit (.bool false)], args := [d1, d2, d3] }
  | _ => none }
def AirTurnedWrongFalsely : Prop := airTurnedRow.holds Tryz.pinned (OpenSpec.ofChange airTurnedWrong)

/- THE SECOND FORM. 'bulk': how many values and letters a reading holds, each counted each time it is reached (what is shared counts as often as it is met; a slice's spare places count too). A statement '..UptoSaid' is the law's where the arguments, and the package variables that the reading takes, are together of bulk at most 1048576: NARROWER than '..Said'. Prove '..Said' where nothing that the law and all that it calls make is longer than what came in: it says more and counts as full. Else prove '..UptoSaid'. A law counts once. -/
mutual
def uptoBulk {H : Type} : DataW H → Nat
  | .lit (.string bytes) => bytes.length + 1
  | .lit _ => 1
  | .nil => 1
  | .ptr d => uptoBulk d + 1
  | .slice elems spare => uptoBulkAll elems + uptoBulkAll spare + 1
  | .agg parts => uptoBulkAll parts + 1
  | .iface _ d => uptoBulk d + 1
  | .map entries => uptoBulkEntries entries + 1
  | .held _ => 1
def uptoBulkAll {H : Type} : List (DataW H) → Nat
  | [] => 0
  | d :: r => uptoBulk d + uptoBulkAll r
def uptoBulkEntries {H : Type} : List (Lit × DataW H) → Nat
  | [] => 0
  | x :: r => uptoBulkEntry x + uptoBulkEntries r
def uptoBulkEntry {H : Type} : Lit × DataW H → Nat
  | (.string bytes, d) => bytes.length + uptoBulk d + 1
  | (_, d) => uptoBulk d + 1
 end
def uptoSmall : (H : Type) → List (DataW H) → Bool := fun _ ds => decide (uptoBulkAll ds ≤ 1048576)
def OpenSpec.upto (s : _root_.Go.ChangeSpec) : _root_.Go.OpenSpec := { _root_.Go.OpenSpec.ofChange s with cond := some uptoSmall }

/-- 'norelaw06.AirClears', WHERE WHAT IT READS IS OF BULK AT MOST 1048576: true; the input reads as it did. -/
def airClearsUptoRow : OpenClaim := { program := "ytjipgnghjbmlkaagreatdoor", sum := "1a25edcea2d264c93f10617c480a282c5513fcbce3f9e98837e495e5afd1acfd", func := "nore/norelaw06.AirClears", spec := "airClears", unfollowed := true, recurses := true, named := ["nore/chart.quarter"], apart := false, laid := [("nore/chart.quarter", laid_nore_chart_quarter)], narrowed := true }
def AirClearsUptoSaid : Prop := airClearsUptoRow.holds Tryz.pinned (OpenSpec.upto airClearsSpec)

/-- 'norelaw06.AirCould', WHERE WHAT IT READS IS OF BULK AT MOST 1048576: true; the input reads as it did. -/
def airCouldUptoRow : OpenClaim := { program := "ytjipgnghjbmlkaagreatdoor", sum := "1a25edcea2d264c93f10617c480a282c5513fcbce3f9e98837e495e5afd1acfd", func := "nore/norelaw06.AirCould", spec := "airCould", unfollowed := true, recurses := true, named := ["nore/chart.quarter"], apart := false, laid := [("nore/chart.quarter", laid_nore_chart_quarter)], narrowed := true }
def AirCouldUptoSaid : Prop := airCouldUptoRow.holds Tryz.pinned (OpenSpec.upto airCouldSpec)

/-- 'norelaw06.AirFalse', WHERE WHAT IT READS IS OF BULK AT MOST 1048576: true; the input reads as it did. -/
def airFalseUptoRow : OpenClaim := { program := "ytjipgnghjbmlkaagreatdoor", sum := "1a25edcea2d264c93f10617c480a282c5513fcbce3f9e98837e495e5afd1acfd", func := "nore/norelaw06.AirFalse", spec := "airFalse", unfollowed := true, recurses := true, named := ["nore/chart.quarter"], apart := false, laid := [("nore/chart.quarter", laid_nore_chart_quarter)], narrowed := true }
def AirFalseUptoSaid : Prop := airFalseUptoRow.holds Tryz.pinned (OpenSpec.upto airFalseSpec)

/-- 'norelaw06.AirTrue', WHERE WHAT IT READS IS OF BULK AT MOST 1048576: true; the input reads as it did. -/
def airTrueUptoRow : OpenClaim := { program := "ytjipgnghjbmlkaagreatdoor", sum := "1a25edcea2d264c93f10617c480a282c5513fcbce3f9e98837e495e5afd1acfd", func := "nore/norelaw06.AirTrue", spec := "airTrue", unfollowed := true, recurses := true, named := ["nore/chart.quarter"], apart := false, laid := [("nore/chart.quarter", laid_nore_chart_quarter)], narrowed := true }
def AirTrueUptoSaid : Prop := airTrueUptoRow.holds Tryz.pinned (OpenSpec.upto airTrueSpec)

/-- 'norelaw06.AirReached', WHERE WHAT IT READS IS OF BULK AT MOST 1048576: true; the input reads as it did. -/
def airReachedUptoRow : OpenClaim := { program := "ytjipgnghjbmlkaagreatdoor", sum := "1a25edcea2d264c93f10617c480a282c5513fcbce3f9e98837e495e5afd1acfd", func := "nore/norelaw06.AirReached", spec := "airReached", unfollowed := true, recurses := true, named := ["nore/chart.quarter"], apart := false, laid := [("nore/chart.quarter", laid_nore_chart_quarter)], narrowed := true }
def AirReachedUptoSaid : Prop := airReachedUptoRow.holds Tryz.pinned (OpenSpec.upto airReachedSpec)

/-- 'norelaw06.AirMore', WHERE WHAT IT READS IS OF BULK AT MOST 1048576: true; the input reads as it did. -/
def airMoreUptoRow : OpenClaim := { program := "ytjipgnghjbmlkaagreatdoor", sum := "1a25edcea2d264c93f10617c480a282c5513fcbce3f9e98837e495e5afd1acfd", func := "nore/norelaw06.AirMore", spec := "airMore", unfollowed := true, recurses := true, named := ["nore/chart.quarter"], apart := false, laid := [("nore/chart.quarter", laid_nore_chart_quarter)], narrowed := true }
def AirMoreUptoSaid : Prop := airMoreUptoRow.holds Tryz.pinned (OpenSpec.upto airMoreSpec)

/-- 'norelaw06.AirGrade', WHERE WHAT IT READS IS OF BULK AT MOST 1048576: true; the input reads as it did. -/
def airGradeUptoRow : OpenClaim := { program := "ytjipgnghjbmlkaagreatdoor", sum := "1a25edcea2d264c93f10617c480a282c5513fcbce3f9e98837e495e5afd1acfd", func := "nore/norelaw06.AirGrade", spec := "airGrade", unfollowed := true, recurses := true, named := ["nore/chart.quarter"], apart := false, laid := [("nore/chart.quarter", laid_nore_chart_quarter)], narrowed := true }
def AirGradeUptoSaid : Prop := airGradeUptoRow.holds Tryz.pinned (OpenSpec.upto airGradeSpec)

/-- 'norelaw06.AirFewest', WHERE WHAT IT READS IS OF BULK AT MOST 1048576: true; the input reads as it did. -/
def airFewestUptoRow : OpenClaim := { program := "ytjipgnghjbmlkaagreatdoor", sum := "1a25edcea2d264c93f10617c480a282c5513fcbce3f9e98837e495e5afd1acfd", func := "nore/norelaw06.AirFewest", spec := "airFewest", unfollowed := true, recurses := true, named := ["nore/chart.quarter"], apart := false, laid := [("nore/chart.quarter", laid_nore_chart_quarter)], narrowed := true }
def AirFewestUptoSaid : Prop := airFewestUptoRow.holds Tryz.pinned (OpenSpec.upto airFewestSpec)

/-- 'norelaw06.AirLiars', WHERE WHAT IT READS IS OF BULK AT MOST 1048576: true; the input reads as it did. -/
def airLiarsUptoRow : OpenClaim := { program := "ytjipgnghjbmlkaagreatdoor", sum := "1a25edcea2d264c93f10617c480a282c5513fcbce3f9e98837e495e5afd1acfd", func := "nore/norelaw06.AirLiars", spec := "airLiars", unfollowed := true, recurses := true, named := ["nore/chart.quarter"], apart := false, laid := [("nore/chart.quarter", laid_nore_chart_quarter)], narrowed := true }
def AirLiarsUptoSaid : Prop := airLiarsUptoRow.holds Tryz.pinned (OpenSpec.upto airLiarsSpec)

/-- 'norelaw06.AirTurned', WHERE WHAT IT READS IS OF BULK AT MOST 1048576: true; the input reads as it did. -/
def airTurnedUptoRow : OpenClaim := { program := "ytjipgnghjbmlkaagreatdoor", sum := "1a25edcea2d264c93f10617c480a282c5513fcbce3f9e98837e495e5afd1acfd", func := "nore/norelaw06.AirTurned", spec := "airTurned", unfollowed := true, recurses := true, named := ["nore/chart.quarter"], apart := false, laid := [("nore/chart.quarter", laid_nore_chart_quarter)], narrowed := true }
def AirTurnedUptoSaid : Prop := airTurnedUptoRow.holds Tryz.pinned (OpenSpec.upto airTurnedSpec)

end Rows
end Go.Proofs.YtjipgnghjbmlkaaGreatDoor
