/-
  DERIVED. GIVEN WITH THE SEED: THE CARDS: each row of YtjipgnghjbmlkaaGreatDoorRows.lean that lists a variable, with what it lists TIED to the program's text (the seventh form; the later family's looks); each row that meets fmt, with fmt's text TOLD by the authors' own Lean function (tested against real Go, not proved from fmt's source: count such statements apart). THE CARD IS WHAT COUNTS. Prove the row's statement (the work); the ties are given (YtjipgnghjbmlkaaGreatDoorTie.lean); close each card by the builder's one call (the guide's Derived/Test/ToyasCard.lean, 'card_holds'). Laid BY PROGRAM, IN A SANDBOX (cutbox-door.mjs). By AI agents, Wed Nov 11 2026. No macro, syntax, notation, axiom, sorry.
-/
import Derived.Test.YtjipgnghjbmlkaaGreatDoorRows
import GoSem.ClaimSeven
namespace Go.Proofs.YtjipgnghjbmlkaaGreatDoor
namespace Rows

/-- THE TIED CARD OF 'norelaw06.AirClears'. -/
def airClearsCard : Claim7 := { stood := { row := airClearsRow, standIns := [], harness := (true, "6d326e23c817e34d3042f1928522107c593c188cc8895e412f9d2323e70364a5"), looks := false }, kinds := [], alts := [], laidByText := true, laidKinds := [.data], laidTests := true, laidLooks := .later }
def AirClearsCardSaid : Prop := Claim7.holds Tryz.pinned (.plain (OpenSpec.ofChange airClearsSpec)) airClearsCard

/-- THE TIED CARD OF 'norelaw06.AirCould'. -/
def airCouldCard : Claim7 := { stood := { row := airCouldRow, standIns := [], harness := (true, "6d326e23c817e34d3042f1928522107c593c188cc8895e412f9d2323e70364a5"), looks := false }, kinds := [], alts := [], laidByText := true, laidKinds := [.data], laidTests := true, laidLooks := .later }
def AirCouldCardSaid : Prop := Claim7.holds Tryz.pinned (.plain (OpenSpec.ofChange airCouldSpec)) airCouldCard

/-- THE TIED CARD OF 'norelaw06.AirFalse'. -/
def airFalseCard : Claim7 := { stood := { row := airFalseRow, standIns := [], harness := (true, "6d326e23c817e34d3042f1928522107c593c188cc8895e412f9d2323e70364a5"), looks := false }, kinds := [], alts := [], laidByText := true, laidKinds := [.data], laidTests := true, laidLooks := .later }
def AirFalseCardSaid : Prop := Claim7.holds Tryz.pinned (.plain (OpenSpec.ofChange airFalseSpec)) airFalseCard

/-- THE TIED CARD OF 'norelaw06.AirTrue'. -/
def airTrueCard : Claim7 := { stood := { row := airTrueRow, standIns := [], harness := (true, "6d326e23c817e34d3042f1928522107c593c188cc8895e412f9d2323e70364a5"), looks := false }, kinds := [], alts := [], laidByText := true, laidKinds := [.data], laidTests := true, laidLooks := .later }
def AirTrueCardSaid : Prop := Claim7.holds Tryz.pinned (.plain (OpenSpec.ofChange airTrueSpec)) airTrueCard

/-- THE TIED CARD OF 'norelaw06.AirReached'. -/
def airReachedCard : Claim7 := { stood := { row := airReachedRow, standIns := [], harness := (true, "6d326e23c817e34d3042f1928522107c593c188cc8895e412f9d2323e70364a5"), looks := false }, kinds := [], alts := [], laidByText := true, laidKinds := [.data], laidTests := true, laidLooks := .later }
def AirReachedCardSaid : Prop := Claim7.holds Tryz.pinned (.plain (OpenSpec.ofChange airReachedSpec)) airReachedCard

/-- THE TIED CARD OF 'norelaw06.AirMore'. -/
def airMoreCard : Claim7 := { stood := { row := airMoreRow, standIns := [], harness := (true, "6d326e23c817e34d3042f1928522107c593c188cc8895e412f9d2323e70364a5"), looks := false }, kinds := [], alts := [], laidByText := true, laidKinds := [.data], laidTests := true, laidLooks := .later }
def AirMoreCardSaid : Prop := Claim7.holds Tryz.pinned (.plain (OpenSpec.ofChange airMoreSpec)) airMoreCard

/-- THE TIED CARD OF 'norelaw06.AirGrade'. -/
def airGradeCard : Claim7 := { stood := { row := airGradeRow, standIns := [], harness := (true, "6d326e23c817e34d3042f1928522107c593c188cc8895e412f9d2323e70364a5"), looks := false }, kinds := [], alts := [], laidByText := true, laidKinds := [.data], laidTests := true, laidLooks := .later }
def AirGradeCardSaid : Prop := Claim7.holds Tryz.pinned (.plain (OpenSpec.ofChange airGradeSpec)) airGradeCard

/-- THE TIED CARD OF 'norelaw06.AirFewest'. -/
def airFewestCard : Claim7 := { stood := { row := airFewestRow, standIns := [], harness := (true, "6d326e23c817e34d3042f1928522107c593c188cc8895e412f9d2323e70364a5"), looks := false }, kinds := [], alts := [], laidByText := true, laidKinds := [.data], laidTests := true, laidLooks := .later }
def AirFewestCardSaid : Prop := Claim7.holds Tryz.pinned (.plain (OpenSpec.ofChange airFewestSpec)) airFewestCard

/-- THE TIED CARD OF 'norelaw06.AirLiars'. -/
def airLiarsCard : Claim7 := { stood := { row := airLiarsRow, standIns := [], harness := (true, "6d326e23c817e34d3042f1928522107c593c188cc8895e412f9d2323e70364a5"), looks := false }, kinds := [], alts := [], laidByText := true, laidKinds := [.data], laidTests := true, laidLooks := .later }
def AirLiarsCardSaid : Prop := Claim7.holds Tryz.pinned (.plain (OpenSpec.ofChange airLiarsSpec)) airLiarsCard

/-- THE TIED CARD OF 'norelaw06.AirTurned'. -/
def airTurnedCard : Claim7 := { stood := { row := airTurnedRow, standIns := [], harness := (true, "6d326e23c817e34d3042f1928522107c593c188cc8895e412f9d2323e70364a5"), looks := false }, kinds := [], alts := [], laidByText := true, laidKinds := [.data], laidTests := true, laidLooks := .later }
def AirTurnedCardSaid : Prop := Claim7.holds Tryz.pinned (.plain (OpenSpec.ofChange airTurnedSpec)) airTurnedCard

/-- THE SECOND FORM's CARD OF 'norelaw06.AirClears'. -/
def airClearsUptoCard : Claim7 := { stood := { row := airClearsUptoRow, standIns := [], harness := (true, "6d326e23c817e34d3042f1928522107c593c188cc8895e412f9d2323e70364a5"), looks := false }, kinds := [], alts := [], laidByText := true, laidKinds := [.data], laidTests := true, laidLooks := .later }
def AirClearsUptoCardSaid : Prop := Claim7.holds Tryz.pinned (.plain (OpenSpec.upto airClearsSpec)) airClearsUptoCard

/-- THE SECOND FORM's CARD OF 'norelaw06.AirCould'. -/
def airCouldUptoCard : Claim7 := { stood := { row := airCouldUptoRow, standIns := [], harness := (true, "6d326e23c817e34d3042f1928522107c593c188cc8895e412f9d2323e70364a5"), looks := false }, kinds := [], alts := [], laidByText := true, laidKinds := [.data], laidTests := true, laidLooks := .later }
def AirCouldUptoCardSaid : Prop := Claim7.holds Tryz.pinned (.plain (OpenSpec.upto airCouldSpec)) airCouldUptoCard

/-- THE SECOND FORM's CARD OF 'norelaw06.AirFalse'. -/
def airFalseUptoCard : Claim7 := { stood := { row := airFalseUptoRow, standIns := [], harness := (true, "6d326e23c817e34d3042f1928522107c593c188cc8895e412f9d2323e70364a5"), looks := false }, kinds := [], alts := [], laidByText := true, laidKinds := [.data], laidTests := true, laidLooks := .later }
def AirFalseUptoCardSaid : Prop := Claim7.holds Tryz.pinned (.plain (OpenSpec.upto airFalseSpec)) airFalseUptoCard

/-- THE SECOND FORM's CARD OF 'norelaw06.AirTrue'. -/
def airTrueUptoCard : Claim7 := { stood := { row := airTrueUptoRow, standIns := [], harness := (true, "6d326e23c817e34d3042f1928522107c593c188cc8895e412f9d2323e70364a5"), looks := false }, kinds := [], alts := [], laidByText := true, laidKinds := [.data], laidTests := true, laidLooks := .later }
def AirTrueUptoCardSaid : Prop := Claim7.holds Tryz.pinned (.plain (OpenSpec.upto airTrueSpec)) airTrueUptoCard

/-- THE SECOND FORM's CARD OF 'norelaw06.AirReached'. -/
def airReachedUptoCard : Claim7 := { stood := { row := airReachedUptoRow, standIns := [], harness := (true, "6d326e23c817e34d3042f1928522107c593c188cc8895e412f9d2323e70364a5"), looks := false }, kinds := [], alts := [], laidByText := true, laidKinds := [.data], laidTests := true, laidLooks := .later }
def AirReachedUptoCardSaid : Prop := Claim7.holds Tryz.pinned (.plain (OpenSpec.upto airReachedSpec)) airReachedUptoCard

/-- THE SECOND FORM's CARD OF 'norelaw06.AirMore'. -/
def airMoreUptoCard : Claim7 := { stood := { row := airMoreUptoRow, standIns := [], harness := (true, "6d326e23c817e34d3042f1928522107c593c188cc8895e412f9d2323e70364a5"), looks := false }, kinds := [], alts := [], laidByText := true, laidKinds := [.data], laidTests := true, laidLooks := .later }
def AirMoreUptoCardSaid : Prop := Claim7.holds Tryz.pinned (.plain (OpenSpec.upto airMoreSpec)) airMoreUptoCard

/-- THE SECOND FORM's CARD OF 'norelaw06.AirGrade'. -/
def airGradeUptoCard : Claim7 := { stood := { row := airGradeUptoRow, standIns := [], harness := (true, "6d326e23c817e34d3042f1928522107c593c188cc8895e412f9d2323e70364a5"), looks := false }, kinds := [], alts := [], laidByText := true, laidKinds := [.data], laidTests := true, laidLooks := .later }
def AirGradeUptoCardSaid : Prop := Claim7.holds Tryz.pinned (.plain (OpenSpec.upto airGradeSpec)) airGradeUptoCard

/-- THE SECOND FORM's CARD OF 'norelaw06.AirFewest'. -/
def airFewestUptoCard : Claim7 := { stood := { row := airFewestUptoRow, standIns := [], harness := (true, "6d326e23c817e34d3042f1928522107c593c188cc8895e412f9d2323e70364a5"), looks := false }, kinds := [], alts := [], laidByText := true, laidKinds := [.data], laidTests := true, laidLooks := .later }
def AirFewestUptoCardSaid : Prop := Claim7.holds Tryz.pinned (.plain (OpenSpec.upto airFewestSpec)) airFewestUptoCard

/-- THE SECOND FORM's CARD OF 'norelaw06.AirLiars'. -/
def airLiarsUptoCard : Claim7 := { stood := { row := airLiarsUptoRow, standIns := [], harness := (true, "6d326e23c817e34d3042f1928522107c593c188cc8895e412f9d2323e70364a5"), looks := false }, kinds := [], alts := [], laidByText := true, laidKinds := [.data], laidTests := true, laidLooks := .later }
def AirLiarsUptoCardSaid : Prop := Claim7.holds Tryz.pinned (.plain (OpenSpec.upto airLiarsSpec)) airLiarsUptoCard

/-- THE SECOND FORM's CARD OF 'norelaw06.AirTurned'. -/
def airTurnedUptoCard : Claim7 := { stood := { row := airTurnedUptoRow, standIns := [], harness := (true, "6d326e23c817e34d3042f1928522107c593c188cc8895e412f9d2323e70364a5"), looks := false }, kinds := [], alts := [], laidByText := true, laidKinds := [.data], laidTests := true, laidLooks := .later }
def AirTurnedUptoCardSaid : Prop := Claim7.holds Tryz.pinned (.plain (OpenSpec.upto airTurnedSpec)) airTurnedUptoCard
end Rows
end Go.Proofs.YtjipgnghjbmlkaaGreatDoor
