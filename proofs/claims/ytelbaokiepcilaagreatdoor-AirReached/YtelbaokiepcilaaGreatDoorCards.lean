/-
  DERIVED. GIVEN WITH THE SEED: THE CARDS: each row of YtelbaokiepcilaaGreatDoorRows.lean that lists a variable, with what it lists TIED to the program's text (the seventh form; the later family's looks); each row that meets fmt, with fmt's text TOLD by the authors' own Lean function (tested against real Go, not proved from fmt's source: count such statements apart). THE CARD IS WHAT COUNTS. Prove the row's statement (the work); the ties are given (YtelbaokiepcilaaGreatDoorTie.lean); close each card by the builder's one call (the guide's Derived/Test/ToyasCard.lean, 'card_holds'). Laid BY PROGRAM, IN A SANDBOX (cutbox-door.mjs). By AI agents, Wed Nov 11 2026. No macro, syntax, notation, axiom, sorry.
-/
import Derived.Test.YtelbaokiepcilaaGreatDoorRows
import GoSem.ClaimSeven
namespace Go.Proofs.YtelbaokiepcilaaGreatDoor
namespace Rows

/-- THE TIED CARD OF 'norelaw06.AirReached'. -/
def airReachedCard : Claim7 := { stood := { row := airReachedRow, standIns := [], harness := (true, "ccdead00424d9375b73476ac619ece857a551d814882953987ace4bdf74a9213"), looks := false }, kinds := [], alts := [], laidByText := true, laidKinds := [.data], laidTests := true, laidLooks := .later }
def AirReachedCardSaid : Prop := Claim7.holds Tryz.pinned (.plain (OpenSpec.ofChange airReachedSpec)) airReachedCard

/-- THE SECOND FORM's CARD OF 'norelaw06.AirReached'. -/
def airReachedUptoCard : Claim7 := { stood := { row := airReachedUptoRow, standIns := [], harness := (true, "ccdead00424d9375b73476ac619ece857a551d814882953987ace4bdf74a9213"), looks := false }, kinds := [], alts := [], laidByText := true, laidKinds := [.data], laidTests := true, laidLooks := .later }
def AirReachedUptoCardSaid : Prop := Claim7.holds Tryz.pinned (.plain (OpenSpec.upto airReachedSpec)) airReachedUptoCard
end Rows
end Go.Proofs.YtelbaokiepcilaaGreatDoor
