/-
  DERIVED. GIVEN WITH THE SEED: THE CARDS: each row of YtgcgffnamfbcgaaGreatDoorRows.lean that lists a variable, with what it lists TIED to the program's text (the seventh form; the later family's looks); each row that meets fmt, with fmt's text TOLD by the authors' own Lean function (tested against real Go, not proved from fmt's source: count such statements apart). THE CARD IS WHAT COUNTS. Prove the row's statement (the work); the ties are given (YtgcgffnamfbcgaaGreatDoorTie.lean); close each card by the builder's one call (the guide's Derived/Test/ToyasCard.lean, 'card_holds'). Laid BY PROGRAM, IN A SANDBOX (cutbox-door.mjs). By AI agents, Wed Nov 11 2026. No macro, syntax, notation, axiom, sorry.
-/
import Derived.Test.YtgcgffnamfbcgaaGreatDoorRows
import GoSem.ClaimSeven
namespace Go.Proofs.YtgcgffnamfbcgaaGreatDoor
namespace Rows

/-- THE TIED CARD OF 'norelaw04.SwingLies'. -/
def swingLiesCard : Claim7 := { stood := { row := swingLiesRow, standIns := [], harness := (true, "1cfbf53dd68d0772226138c7bbcb52bc2761a7034ae511c2c593926f9f2f3ce5"), looks := false }, kinds := [], alts := [], laidByText := true, laidKinds := [.data], laidTests := true, laidLooks := .later }
def SwingLiesCardSaid : Prop := Claim7.holds Tryz.pinned (.plain (OpenSpec.ofChange swingLiesSpec)) swingLiesCard

/-- THE SECOND FORM's CARD OF 'norelaw04.SwingLies'. -/
def swingLiesUptoCard : Claim7 := { stood := { row := swingLiesUptoRow, standIns := [], harness := (true, "1cfbf53dd68d0772226138c7bbcb52bc2761a7034ae511c2c593926f9f2f3ce5"), looks := false }, kinds := [], alts := [], laidByText := true, laidKinds := [.data], laidTests := true, laidLooks := .later }
def SwingLiesUptoCardSaid : Prop := Claim7.holds Tryz.pinned (.plain (OpenSpec.upto swingLiesSpec)) swingLiesUptoCard
end Rows
end Go.Proofs.YtgcgffnamfbcgaaGreatDoor
