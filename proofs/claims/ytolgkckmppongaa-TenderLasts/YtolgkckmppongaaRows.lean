/-
  No cell of these rows narrows 'for every input' (looked for: loops, veiled, ifaces, maps, wideKeys, modest, calm, conditions, laid).
  DERIVED. THE GIVEN ROWS OF THIS SEAT. 3 by the template 'for every input the law returns true; each argument reads behind the call as it read before'; 0 by the template 'total and deterministic' (their statements: YtolgkckmppongaaTotals.lean).
  GIVEN WITH THE SEED: the statements are not yours to turn. If you find one false, say at which input.
  Laid BY PROGRAM, IN A SANDBOX (cutbox-rows.mjs): the forced cells as the released guide's own fill.sh prints them over the translation 4aac1deb0162643c… (all of the seat's roots in one cut). By AI agents, Wed Nov 11 2026. No macro, syntax, notation, axiom, sorry.
-/
import Derived.Test.YtolgkckmppongaaChecked
import GoSem.Claim
import GoSem.ClaimJoined
import GoSem.ClaimMapViews
import Derived.JoinedTies
import Derived.KernelRfl
namespace Go.Proofs.Ytolgkckmppongaa
/- THE CELL 'sum', in the pinned program and in every row, IS THE sha256 OF THE DUMP (.gsa) THAT YtolgkckmppongaaProg.lean LOADS. Nothing in Lean hashes anything: it is a label: what it is worth is what the hold of that sum in a sandbox is worth. -/
noncomputable def Try.pinned : Pinned := { name := "ytolgkckmppongaa", sum := "4aac1deb0162643cf35d92ef202522488265c0f65a358bcd053a6c229bdf111d", checked := Try.checked }
namespace Rows
def none {H : Type} : Left H := { results := [], args := [] }

/-- 'norelaw09.TenderLasts': WHATEVER THE INPUT: true; the input reads as it did. -/
def tenderLastsSpec : ChangeSpec := { name := "tenderLasts", fn := fun _ => fun
  | [d1, d2, d3] => { results := [.lit (.bool true)], args := [d1, d2, d3] }
  | _ => none }
def tenderLastsRow : OpenClaim := { program := "ytolgkckmppongaa", sum := "4aac1deb0162643cf35d92ef202522488265c0f65a358bcd053a6c229bdf111d", func := "nore/norelaw09.TenderLasts", spec := "tenderLasts", unfollowed := true, recurses := true, apart := false }
def TenderLastsSaid : Prop := tenderLastsRow.holds Try.pinned (OpenSpec.ofChange tenderLastsSpec)

/-- ITS FALSE NEIGHBOUR: 'it returns false'. Refute it at one input. -/
def tenderLastsWrong : ChangeSpec := { name := "tenderLasts", fn := fun _ => fun
  | [d1, d2, d3] => { results := [.lit (.bool false)], args := [d1, d2, d3] }
  | _ => none }
def TenderLastsWrongFalsely : Prop := tenderLastsRow.holds Try.pinned (OpenSpec.ofChange tenderLastsWrong)

/-- 'norelaw09.TenderKnown': WHATEVER THE INPUT: true; the input reads as it did. -/
def tenderKnownSpec : ChangeSpec := { name := "tenderKnown", fn := fun _ => fun
  | [] => { results := [.lit (.bool true)], args := [] }
  | _ => none }
def tenderKnownRow : OpenClaim := { program := "ytolgkckmppongaa", sum := "4aac1deb0162643cf35d92ef202522488265c0f65a358bcd053a6c229bdf111d", func := "nore/norelaw09.TenderKnown", spec := "tenderKnown", unfollowed := true, recurses := true, apart := false }
def TenderKnownSaid : Prop := tenderKnownRow.holds Try.pinned (OpenSpec.ofChange tenderKnownSpec)

/-- ITS FALSE NEIGHBOUR: 'it returns false'. Refute it at one input. -/
def tenderKnownWrong : ChangeSpec := { name := "tenderKnown", fn := fun _ => fun
  | [] => { results := [.lit (.bool false)], args := [] }
  | _ => none }
def TenderKnownWrongFalsely : Prop := tenderKnownRow.holds Try.pinned (OpenSpec.ofChange tenderKnownWrong)

/-- 'norelaw09.TenderLeft': WHATEVER THE INPUT: true; the input reads as it did. -/
def tenderLeftSpec : ChangeSpec := { name := "tenderLeft", fn := fun _ => fun
  | [d1, d2, d3] => { results := [.lit (.bool true)], args := [d1, d2, d3] }
  | _ => none }
def tenderLeftRow : OpenClaim := { program := "ytolgkckmppongaa", sum := "4aac1deb0162643cf35d92ef202522488265c0f65a358bcd053a6c229bdf111d", func := "nore/norelaw09.TenderLeft", spec := "tenderLeft", unfollowed := true, recurses := true, apart := false }
def TenderLeftSaid : Prop := tenderLeftRow.holds Try.pinned (OpenSpec.ofChange tenderLeftSpec)

/-- ITS FALSE NEIGHBOUR: 'it returns false'. Refute it at one input. -/
def tenderLeftWrong : ChangeSpec := { name := "tenderLeft", fn := fun _ => fun
  | [d1, d2, d3] => { results := [.lit (.bool false)], args := [d1, d2, d3] }
  | _ => none }
def TenderLeftWrongFalsely : Prop := tenderLeftRow.holds Try.pinned (OpenSpec.ofChange tenderLeftWrong)

/- THE SECOND FORM. 'bulk': how many values and letters a reading holds, each counted each time it is reached (what is shared counts as often as it is met; a slice's spare places count too). A statement '..UptoSaid' is the law's where the arguments, and the package variables that the reading takes, are together of bulk at most 1048576: NARROWER than '..Said'. Prove '..Said' where nothing that the law and all that it calls make is longer than what came in: it says more and counts as full. Else prove '..UptoSaid'. A law counts once. -/
mutual
def uptoBulk {H : Type} : DataW H → Nat
  | .lit (.string bytes) => bytes.length + 1
  | .lit _ => 1
  | .nil => 1
  | .ptr d => uptoBulk d + 1
  | .slice elems spare => uptoBulkAll elems + uptoBulkAll spare + 1
  | .agg parts => uptoBulkAll parts + 1
  | .iface _ d => uptoBulk d + 1
  | .map entries => uptoBulkEntries entries + 1
  | .held _ => 1
def uptoBulkAll {H : Type} : List (DataW H) → Nat
  | [] => 0
  | d :: r => uptoBulk d + uptoBulkAll r
def uptoBulkEntries {H : Type} : List (Lit × DataW H) → Nat
  | [] => 0
  | x :: r => uptoBulkEntry x + uptoBulkEntries r
def uptoBulkEntry {H : Type} : Lit × DataW H → Nat
  | (.string bytes, d) => bytes.length + uptoBulk d + 1
  | (_, d) => uptoBulk d + 1
 end
def uptoSmall : (H : Type) → List (DataW H) → Bool := fun _ ds => decide (uptoBulkAll ds ≤ 1048576)
def OpenSpec.upto (s : _root_.Go.ChangeSpec) : _root_.Go.OpenSpec := { _root_.Go.OpenSpec.ofChange s with cond := some uptoSmall }

/-- 'norelaw09.TenderLasts', WHERE WHAT IT READS IS OF BULK AT MOST 1048576: true; the input reads as it did. -/
def tenderLastsUptoRow : OpenClaim := { program := "ytolgkckmppongaa", sum := "4aac1deb0162643cf35d92ef202522488265c0f65a358bcd053a6c229bdf111d", func := "nore/norelaw09.TenderLasts", spec := "tenderLasts", unfollowed := true, recurses := true, apart := false, narrowed := true }
def TenderLastsUptoSaid : Prop := tenderLastsUptoRow.holds Try.pinned (OpenSpec.upto tenderLastsSpec)

/-- 'norelaw09.TenderKnown', WHERE WHAT IT READS IS OF BULK AT MOST 1048576: true; the input reads as it did. -/
def tenderKnownUptoRow : OpenClaim := { program := "ytolgkckmppongaa", sum := "4aac1deb0162643cf35d92ef202522488265c0f65a358bcd053a6c229bdf111d", func := "nore/norelaw09.TenderKnown", spec := "tenderKnown", unfollowed := true, recurses := true, apart := false, narrowed := true }
def TenderKnownUptoSaid : Prop := tenderKnownUptoRow.holds Try.pinned (OpenSpec.upto tenderKnownSpec)

/-- 'norelaw09.TenderLeft', WHERE WHAT IT READS IS OF BULK AT MOST 1048576: true; the input reads as it did. -/
def tenderLeftUptoRow : OpenClaim := { program := "ytolgkckmppongaa", sum := "4aac1deb0162643cf35d92ef202522488265c0f65a358bcd053a6c229bdf111d", func := "nore/norelaw09.TenderLeft", spec := "tenderLeft", unfollowed := true, recurses := true, apart := false, narrowed := true }
def TenderLeftUptoSaid : Prop := tenderLeftUptoRow.holds Try.pinned (OpenSpec.upto tenderLeftSpec)

end Rows
end Go.Proofs.Ytolgkckmppongaa
