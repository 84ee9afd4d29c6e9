/-
  No cell of these rows narrows 'for every input' (looked for: loops, veiled, ifaces, maps, wideKeys, modest, calm, conditions, laid).
  DERIVED. THE GIVEN ROWS OF THIS SEAT. 3 by the template 'for every input the law returns true; each argument reads behind the call as it read before'; 0 by the template 'total and deterministic' (their statements: YtmpaifgmccdipaaTotals.lean).
  GIVEN WITH THE SEED: the statements are not yours to turn. If you find one false, say at which input.
  Laid BY PROGRAM, IN A SANDBOX (cutbox-rows.mjs): the forced cells as the released guide's own fill.sh prints them over the translation 435814800a362de8… (all of the seat's roots in one cut). By AI agents, Wed Nov 11 2026. No macro, syntax, notation, axiom, sorry.
-/
import Derived.Test.YtmpaifgmccdipaaChecked
import GoSem.Claim
import GoSem.ClaimJoined
import GoSem.ClaimMapViews
import Derived.JoinedTies
import Derived.KernelRfl
namespace Go.Proofs.Ytmpaifgmccdipaa
/- THE CELL 'sum', in the pinned program and in every row, IS THE sha256 OF THE DUMP (.gsa) THAT YtmpaifgmccdipaaProg.lean LOADS. Nothing in Lean hashes anything: it is a label: what it is worth is what the hold of that sum in a sandbox is worth. -/
noncomputable def Try.pinned : Pinned := { name := "ytmpaifgmccdipaa", sum := "435814800a362de805a9b52fe06520d97c7c2bfb162f791fe5aff86a3fa05b58", checked := Try.checked }
namespace Rows
def none {H : Type} : Left H := { results := [], args := [] }

/-- 'norelaw09.TenderWhatever': WHATEVER THE INPUT: true; the input reads as it did. -/
def tenderWhateverSpec : ChangeSpec := { name := "tenderWhatever", fn := fun _ => fun
  | [d1, d2, d3] => { results := [.lit (.bool true)], args := [d1, d2, d3] }
  | _ => none }
def tenderWhateverRow : OpenClaim := { program := "ytmpaifgmccdipaa", sum := "435814800a362de805a9b52fe06520d97c7c2bfb162f791fe5aff86a3fa05b58", func := "nore/norelaw09.TenderWhatever", spec := "tenderWhatever", unfollowed := true, recurses := true, apart := false }
def TenderWhateverSaid : Prop := tenderWhateverRow.holds Try.pinned (OpenSpec.ofChange tenderWhateverSpec)

/-- ITS FALSE NEIGHBOUR: 'it returns false'. Refute it at one input. -/
def tenderWhateverWrong : ChangeSpec := { name := "tenderWhatever", fn := fun _ => fun
  | [d1, d2, d3] => { results := [.lit (.bool false)], args := [d1, d2, d3] }
  | _ => none }
def TenderWhateverWrongFalsely : Prop := tenderWhateverRow.holds Try.pinned (OpenSpec.ofChange tenderWhateverWrong)

/-- 'norelaw09.TenderBears': WHATEVER THE INPUT: true; the input reads as it did. -/
def tenderBearsSpec : ChangeSpec := { name := "tenderBears", fn := fun _ => fun
  | [d1, d2, d3] => { results := [.lit (.bool true)], args := [d1, d2, d3] }
  | _ => none }
def tenderBearsRow : OpenClaim := { program := "ytmpaifgmccdipaa", sum := "435814800a362de805a9b52fe06520d97c7c2bfb162f791fe5aff86a3fa05b58", func := "nore/norelaw09.TenderBears", spec := "tenderBears", unfollowed := true, recurses := true, apart := false }
def TenderBearsSaid : Prop := tenderBearsRow.holds Try.pinned (OpenSpec.ofChange tenderBearsSpec)

/-- ITS FALSE NEIGHBOUR: 'it returns false'. Refute it at one input. -/
def tenderBearsWrong : ChangeSpec := { name := "tenderBears", fn := fun _ => fun
  | [d1, d2, d3] => { results := [.lit (.bool false)], args := [d1, d2, d3] }
  | _ => none }
def TenderBearsWrongFalsely : Prop := tenderBearsRow.holds Try.pinned (OpenSpec.ofChange tenderBearsWrong)

/-- 'norelaw09.TenderStill': WHATEVER THE INPUT: true; the input reads as it did. -/
def tenderStillSpec : ChangeSpec := { name := "tenderStill", fn := fun _ => fun
  | [d1, d2, d3] => { results := [.lit (.bool true)], args := [d1, d2, d3] }
  | _ => none }
def tenderStillRow : OpenClaim := { program := "ytmpaifgmccdipaa", sum := "435814800a362de805a9b52fe06520d97c7c2bfb162f791fe5aff86a3fa05b58", func := "nore/norelaw09.TenderStill", spec := "tenderStill", unfollowed := true, recurses := true, apart := false }
def TenderStillSaid : Prop := tenderStillRow.holds Try.pinned (OpenSpec.ofChange tenderStillSpec)

/-- ITS FALSE NEIGHBOUR: 'it returns false'. Refute it at one input. -/
def tenderStillWrong : ChangeSpec := { name := "tenderStill", fn := fun _ => fun
  | [d1, d2, d3] => { results := [.lit (.bool false)], args := [d1, d2, d3] }
  | _ => none }
def TenderStillWrongFalsely : Prop := tenderStillRow.holds Try.pinned (OpenSpec.ofChange tenderStillWrong)

/- THE SECOND FORM. 'bulk': how many values and letters a reading holds, each counted each time it is reached (what is shared counts as often as it is met; a slice's spare places count too). A statement '..UptoSaid' is the law's where the arguments, and the package variables that the reading takes, are together of bulk at most 1048576: NARROWER than '..Said'. Prove '..Said' where nothing that the law and all that it calls make is longer than what came in: it says more and counts as full. Else prove '..UptoSaid'. A law counts once. -/
mutual
def uptoBulk {H : Type} : DataW H → Nat
  | .lit (.string bytes) => bytes.length + 1
  | .lit _ => 1
  | .nil => 1
  | .ptr d => uptoBulk d + 1
  | .slice elems spare => uptoBulkAll elems + uptoBulkAll spare + 1
  | .agg parts => uptoBulkAll parts + 1
  | .iface _ d => uptoBulk d + 1
  | .map entries => uptoBulkEntries entries + 1
  | .held _ => 1
def uptoBulkAll {H : Type} : List (DataW H) → Nat
  | [] => 0
  | d :: r => uptoBulk d + uptoBulkAll r
def uptoBulkEntries {H : Type} : List (Lit × DataW H) → Nat
  | [] => 0
  | x :: r => uptoBulkEntry x + uptoBulkEntries r
def uptoBulkEntry {H : Type} : Lit × DataW H → Nat
  | (.string bytes, d) => bytes.length + uptoBulk d + 1
  | (_, d) => uptoBulk d + 1
 end
def uptoSmall : (H : Type) → List (DataW H) → Bool := fun _ ds => decide (uptoBulkAll ds ≤ 1048576)
def OpenSpec.upto (s : _root_.Go.ChangeSpec) : _root_.Go.OpenSpec := { _root_.Go.OpenSpec.ofChange s with cond := some uptoSmall }

/-- 'norelaw09.TenderWhatever', WHERE WHAT IT READS IS OF BULK AT MOST 1048576: true; the input reads as it did. -/
def tenderWhateverUptoRow : OpenClaim := { program := "ytmpaifgmccdipaa", sum := "435814800a362de805a9b52fe06520d97c7c2bfb162f791fe5aff86a3fa05b58", func := "nore/norelaw09.TenderWhatever", spec := "tenderWhatever", unfollowed := true, recurses := true, apart := false, narrowed := true }
def TenderWhateverUptoSaid : Prop := tenderWhateverUptoRow.holds Try.pinned (OpenSpec.upto tenderWhateverSpec)

/-- 'norelaw09.TenderBears', WHERE WHAT IT READS IS OF BULK AT MOST 1048576: true; the input reads as it did. -/
def tenderBearsUptoRow : OpenClaim := { program := "ytmpaifgmccdipaa", sum := "435814800a362de805a9b52fe06520d97c7c2bfb162f791fe5aff86a3fa05b58", func := "nore/norelaw09.TenderBears", spec := "tenderBears", unfollowed := true, recurses := true, apart := false, narrowed := true }
def TenderBearsUptoSaid : Prop := tenderBearsUptoRow.holds Try.pinned (OpenSpec.upto tenderBearsSpec)

/-- 'norelaw09.TenderStill', WHERE WHAT IT READS IS OF BULK AT MOST 1048576: true; the input reads as it did. -/
def tenderStillUptoRow : OpenClaim := { program := "ytmpaifgmccdipaa", sum := "435814800a362de805a9b52fe06520d97c7c2bfb162f791fe5aff86a3fa05b58", func := "nore/norelaw09.TenderStill", spec := "tenderStill", unfollowed := true, recurses := true, apart := false, narrowed := true }
def TenderStillUptoSaid : Prop := tenderStillUptoRow.holds Try.pinned (OpenSpec.upto tenderStillSpec)

end Rows
end Go.Proofs.Ytmpaifgmccdipaa
