/-
  DERIVED. GIVEN WITH THE SEED: THE CARDS: each row of YtpnipaimaohiaaaGreatDoorRows.lean that lists a variable, with what it lists TIED to the program's text (the seventh form; the later family's looks); each row that meets fmt, with fmt's text TOLD by the authors' own Lean function (tested against real Go, not proved from fmt's source: count such statements apart). THE CARD IS WHAT COUNTS. Prove the row's statement (the work); the ties are given (YtpnipaimaohiaaaGreatDoorTie.lean); close each card by the builder's one call (the guide's Derived/Test/ToyasCard.lean, 'card_holds'). Laid BY PROGRAM, IN A SANDBOX (cutbox-door.mjs). By AI agents, Wed Nov 11 2026. No macro, syntax, notation, axiom, sorry.
-/
import Derived.Test.YtpnipaimaohiaaaGreatDoorRows
import GoSem.ClaimSeven
namespace Go.Proofs.YtpnipaimaohiaaaGreatDoor
namespace Rows

/-- THE TIED CARD OF 'norelaw06.AirTurned'. -/
def airTurnedCard : Claim7 := { stood := { row := airTurnedRow, standIns := [], harness := (true, "20cbd807f472081efbef338f1a6f7d66c056bcae6ebce04f9ea805445227c136"), looks := false }, kinds := [], alts := [], laidByText := true, laidKinds := [.data], laidTests := true, laidLooks := .later }
def AirTurnedCardSaid : Prop := Claim7.holds Tryz.pinned (.plain (OpenSpec.ofChange airTurnedSpec)) airTurnedCard

/-- THE SECOND FORM's CARD OF 'norelaw06.AirTurned'. -/
def airTurnedUptoCard : Claim7 := { stood := { row := airTurnedUptoRow, standIns := [], harness := (true, "20cbd807f472081efbef338f1a6f7d66c056bcae6ebce04f9ea805445227c136"), looks := false }, kinds := [], alts := [], laidByText := true, laidKinds := [.data], laidTests := true, laidLooks := .later }
def AirTurnedUptoCardSaid : Prop := Claim7.holds Tryz.pinned (.plain (OpenSpec.upto airTurnedSpec)) airTurnedUptoCard
end Rows
end Go.Proofs.YtpnipaimaohiaaaGreatDoor
