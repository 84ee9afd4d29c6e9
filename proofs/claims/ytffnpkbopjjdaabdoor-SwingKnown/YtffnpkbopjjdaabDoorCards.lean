/-
  DERIVED. GIVEN WITH THE SEED: THE CARDS: each row of YtffnpkbopjjdaabDoorRows.lean that lists a variable, with what it lists TIED to the program's text (the seventh form; the later family's looks); each row that meets fmt, with fmt's text TOLD by the authors' own Lean function (tested against real Go, not proved from fmt's source: count such statements apart). THE CARD IS WHAT COUNTS. Prove the row's statement (the work); the ties are given (YtffnpkbopjjdaabDoorTie.lean); close each card by the builder's one call (the guide's Derived/Test/ToyasCard.lean, 'card_holds'). Laid BY PROGRAM, IN A SANDBOX (cutbox-door.mjs). By AI agents, Wed Nov 11 2026. No macro, syntax, notation, axiom, sorry.
-/
import Derived.Test.YtffnpkbopjjdaabDoorRows
import GoSem.ClaimSeven
namespace Go.Proofs.YtffnpkbopjjdaabDoor
namespace Rows

/-- THE TIED CARD OF 'norelaw04.SwingKnown'. -/
def swingKnownCard : Claim7 := { stood := { row := swingKnownRow, standIns := [], harness := (true, "1b42a9933f44e647af6c484452d89b9d4312a4b18e5dc97007387d940bf43bfd"), looks := false }, kinds := [], alts := [], laidByText := true, laidKinds := [.data], laidTests := true, laidLooks := .later }
def SwingKnownCardSaid : Prop := Claim7.holds Tryd.pinned (.plain (OpenSpec.ofChange swingKnownSpec)) swingKnownCard

/-- THE SECOND FORM's CARD OF 'norelaw04.SwingKnown'. -/
def swingKnownUptoCard : Claim7 := { stood := { row := swingKnownUptoRow, standIns := [], harness := (true, "1b42a9933f44e647af6c484452d89b9d4312a4b18e5dc97007387d940bf43bfd"), looks := false }, kinds := [], alts := [], laidByText := true, laidKinds := [.data], laidTests := true, laidLooks := .later }
def SwingKnownUptoCardSaid : Prop := Claim7.holds Tryd.pinned (.plain (OpenSpec.upto swingKnownSpec)) swingKnownUptoCard
end Rows
end Go.Proofs.YtffnpkbopjjdaabDoor
