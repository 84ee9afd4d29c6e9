/-
  DERIVED. GIVEN WITH THE SEED: THE CARDS: each row of YtppcdepecdemnaaGreatDoorRows.lean that lists a variable, with what it lists TIED to the program's text (the seventh form; the later family's looks); each row that meets fmt, with fmt's text TOLD by the authors' own Lean function (tested against real Go, not proved from fmt's source: count such statements apart). THE CARD IS WHAT COUNTS. Prove the row's statement (the work); the ties are given (YtppcdepecdemnaaGreatDoorTie.lean); close each card by the builder's one call (the guide's Derived/Test/ToyasCard.lean, 'card_holds'). Laid BY PROGRAM, IN A SANDBOX (cutbox-door.mjs). By AI agents, Wed Nov 11 2026. No macro, syntax, notation, axiom, sorry.
-/
import Derived.Test.YtppcdepecdemnaaGreatDoorRows
import GoSem.ClaimSeven
namespace Go.Proofs.YtppcdepecdemnaaGreatDoor
namespace Rows

/-- THE TIED CARD OF 'norelaw06.AirMore'. -/
def airMoreCard : Claim7 := { stood := { row := airMoreRow, standIns := [], harness := (true, "80970a298a7bcf73f35ab771691b53dcc5f39ab371879549474d72c5912cc300"), looks := false }, kinds := [], alts := [], laidByText := true, laidKinds := [.data], laidTests := true, laidLooks := .later }
def AirMoreCardSaid : Prop := Claim7.holds Tryz.pinned (.plain (OpenSpec.ofChange airMoreSpec)) airMoreCard

/-- THE SECOND FORM's CARD OF 'norelaw06.AirMore'. -/
def airMoreUptoCard : Claim7 := { stood := { row := airMoreUptoRow, standIns := [], harness := (true, "80970a298a7bcf73f35ab771691b53dcc5f39ab371879549474d72c5912cc300"), looks := false }, kinds := [], alts := [], laidByText := true, laidKinds := [.data], laidTests := true, laidLooks := .later }
def AirMoreUptoCardSaid : Prop := Claim7.holds Tryz.pinned (.plain (OpenSpec.upto airMoreSpec)) airMoreUptoCard
end Rows
end Go.Proofs.YtppcdepecdemnaaGreatDoor
