/-
  DERIVED. GIVEN WITH THE SEED: THE CARDS: each row of YtlbonihgofbanaaGreatDoorRows.lean that lists a variable, with what it lists TIED to the program's text (the seventh form; the later family's looks); each row that meets fmt, with fmt's text TOLD by the authors' own Lean function (tested against real Go, not proved from fmt's source: count such statements apart). THE CARD IS WHAT COUNTS. Prove the row's statement (the work); the ties are given (YtlbonihgofbanaaGreatDoorTie.lean); close each card by the builder's one call (the guide's Derived/Test/ToyasCard.lean, 'card_holds'). Laid BY PROGRAM, IN A SANDBOX (cutbox-door.mjs). By AI agents, Wed Nov 11 2026. No macro, syntax, notation, axiom, sorry.
-/
import Derived.Test.YtlbonihgofbanaaGreatDoorRows
import GoSem.ClaimSeven
namespace Go.Proofs.YtlbonihgofbanaaGreatDoor
namespace Rows

/-- THE TIED CARD OF 'norelaw06.AirKnown'. -/
def airKnownCard : Claim7 := { stood := { row := airKnownRow, standIns := [], harness := (true, "f60710e28501adc781573ee89f2433f432d779122a0a539b262302c0a2438fd5"), looks := false }, kinds := [], alts := [], laidByText := true, laidKinds := [.data], laidTests := true, laidLooks := .later }
def AirKnownCardSaid : Prop := Claim7.holds Tryz.pinned (.plain (OpenSpec.ofChange airKnownSpec)) airKnownCard

/-- THE TIED CARD OF 'norelaw06.AirSignals'. -/
def airSignalsCard : Claim7 := { stood := { row := airSignalsRow, standIns := [], harness := (true, "f60710e28501adc781573ee89f2433f432d779122a0a539b262302c0a2438fd5"), looks := false }, kinds := [], alts := [], laidByText := true, laidKinds := [.data], laidTests := true, laidLooks := .later }
def AirSignalsCardSaid : Prop := Claim7.holds Tryz.pinned (.plain (OpenSpec.ofChange airSignalsSpec)) airSignalsCard

/-- THE TIED CARD OF 'norelaw06.AirOil'. -/
def airOilCard : Claim7 := { stood := { row := airOilRow, standIns := [], harness := (true, "f60710e28501adc781573ee89f2433f432d779122a0a539b262302c0a2438fd5"), looks := false }, kinds := [], alts := [], laidByText := true, laidKinds := [.data], laidTests := true, laidLooks := .later }
def AirOilCardSaid : Prop := Claim7.holds Tryz.pinned (.plain (OpenSpec.ofChange airOilSpec)) airOilCard

/-- THE TIED CARD OF 'norelaw06.AirNearer'. -/
def airNearerCard : Claim7 := { stood := { row := airNearerRow, standIns := [], harness := (true, "f60710e28501adc781573ee89f2433f432d779122a0a539b262302c0a2438fd5"), looks := false }, kinds := [], alts := [], laidByText := true, laidKinds := [.data], laidTests := true, laidLooks := .later }
def AirNearerCardSaid : Prop := Claim7.holds Tryz.pinned (.plain (OpenSpec.ofChange airNearerSpec)) airNearerCard

/-- THE TIED CARD OF 'norelaw06.AirClears'. -/
def airClearsCard : Claim7 := { stood := { row := airClearsRow, standIns := [], harness := (true, "f60710e28501adc781573ee89f2433f432d779122a0a539b262302c0a2438fd5"), looks := false }, kinds := [], alts := [], laidByText := true, laidKinds := [.data], laidTests := true, laidLooks := .later }
def AirClearsCardSaid : Prop := Claim7.holds Tryz.pinned (.plain (OpenSpec.ofChange airClearsSpec)) airClearsCard

/-- THE SECOND FORM's CARD OF 'norelaw06.AirKnown'. -/
def airKnownUptoCard : Claim7 := { stood := { row := airKnownUptoRow, standIns := [], harness := (true, "f60710e28501adc781573ee89f2433f432d779122a0a539b262302c0a2438fd5"), looks := false }, kinds := [], alts := [], laidByText := true, laidKinds := [.data], laidTests := true, laidLooks := .later }
def AirKnownUptoCardSaid : Prop := Claim7.holds Tryz.pinned (.plain (OpenSpec.upto airKnownSpec)) airKnownUptoCard

/-- THE SECOND FORM's CARD OF 'norelaw06.AirSignals'. -/
def airSignalsUptoCard : Claim7 := { stood := { row := airSignalsUptoRow, standIns := [], harness := (true, "f60710e28501adc781573ee89f2433f432d779122a0a539b262302c0a2438fd5"), looks := false }, kinds := [], alts := [], laidByText := true, laidKinds := [.data], laidTests := true, laidLooks := .later }
def AirSignalsUptoCardSaid : Prop := Claim7.holds Tryz.pinned (.plain (OpenSpec.upto airSignalsSpec)) airSignalsUptoCard

/-- THE SECOND FORM's CARD OF 'norelaw06.AirOil'. -/
def airOilUptoCard : Claim7 := { stood := { row := airOilUptoRow, standIns := [], harness := (true, "f60710e28501adc781573ee89f2433f432d779122a0a539b262302c0a2438fd5"), looks := false }, kinds := [], alts := [], laidByText := true, laidKinds := [.data], laidTests := true, laidLooks := .later }
def AirOilUptoCardSaid : Prop := Claim7.holds Tryz.pinned (.plain (OpenSpec.upto airOilSpec)) airOilUptoCard

/-- THE SECOND FORM's CARD OF 'norelaw06.AirNearer'. -/
def airNearerUptoCard : Claim7 := { stood := { row := airNearerUptoRow, standIns := [], harness := (true, "f60710e28501adc781573ee89f2433f432d779122a0a539b262302c0a2438fd5"), looks := false }, kinds := [], alts := [], laidByText := true, laidKinds := [.data], laidTests := true, laidLooks := .later }
def AirNearerUptoCardSaid : Prop := Claim7.holds Tryz.pinned (.plain (OpenSpec.upto airNearerSpec)) airNearerUptoCard

/-- THE SECOND FORM's CARD OF 'norelaw06.AirClears'. -/
def airClearsUptoCard : Claim7 := { stood := { row := airClearsUptoRow, standIns := [], harness := (true, "f60710e28501adc781573ee89f2433f432d779122a0a539b262302c0a2438fd5"), looks := false }, kinds := [], alts := [], laidByText := true, laidKinds := [.data], laidTests := true, laidLooks := .later }
def AirClearsUptoCardSaid : Prop := Claim7.holds Tryz.pinned (.plain (OpenSpec.upto airClearsSpec)) airClearsUptoCard
end Rows
end Go.Proofs.YtlbonihgofbanaaGreatDoor
