/-
  DERIVED. GIVEN WITH THE SEED: THE CARDS: each row of YtgfhfkgdmidhpaaGreatDoorRows.lean that lists a variable, with what it lists TIED to the program's text (the seventh form; the later family's looks); each row that meets fmt, with fmt's text TOLD by the authors' own Lean function (tested against real Go, not proved from fmt's source: count such statements apart). THE CARD IS WHAT COUNTS. Prove the row's statement (the work); the ties are given (YtgfhfkgdmidhpaaGreatDoorTie.lean); close each card by the builder's one call (the guide's Derived/Test/ToyasCard.lean, 'card_holds'). Laid BY PROGRAM, IN A SANDBOX (cutbox-door.mjs). By AI agents, Wed Nov 11 2026. No macro, syntax, notation, axiom, sorry.
-/
import Derived.Test.YtgfhfkgdmidhpaaGreatDoorRows
import GoSem.ClaimSeven
namespace Go.Proofs.YtgfhfkgdmidhpaaGreatDoor
namespace Rows

/-- THE TIED CARD OF 'sololaw.Makes'. -/
def makesCard : Claim7 := { stood := { row := makesRow, standIns := [], harness := (true, "5331685fe83bc32de759303f9ceb77ddbe71fdb35452c63c032e500046f8894a"), looks := true }, kinds := [], alts := [], laidByText := true, laidKinds := [.data, .data, .data], laidTests := true, laidLooks := .later }
def MakesCardSaid : Prop := Claim7.holds Tryz.pinned (.plain (OpenSpec.ofChange makesSpec)) makesCard

/-- THE TIED CARD OF 'sololaw.Leans'. -/
def leansCard : Claim7 := { stood := { row := leansRow, standIns := [], harness := (true, "5331685fe83bc32de759303f9ceb77ddbe71fdb35452c63c032e500046f8894a"), looks := true }, kinds := [], alts := [], laidByText := true, laidKinds := [.data, .data, .data], laidTests := true, laidLooks := .later }
def LeansCardSaid : Prop := Claim7.holds Tryz.pinned (.plain (OpenSpec.ofChange leansSpec)) leansCard

/-- THE TIED CARD OF 'sololaw.Plains'. -/
def plainsCard : Claim7 := { stood := { row := plainsRow, standIns := [], harness := (true, "5331685fe83bc32de759303f9ceb77ddbe71fdb35452c63c032e500046f8894a"), looks := true }, kinds := [], alts := [], laidByText := true, laidKinds := [.data, .data, .data], laidTests := true, laidLooks := .later }
def PlainsCardSaid : Prop := Claim7.holds Tryz.pinned (.plain (OpenSpec.ofChange plainsSpec)) plainsCard

/-- THE SECOND FORM's CARD OF 'sololaw.Makes'. -/
def makesUptoCard : Claim7 := { stood := { row := makesUptoRow, standIns := [], harness := (true, "5331685fe83bc32de759303f9ceb77ddbe71fdb35452c63c032e500046f8894a"), looks := true }, kinds := [], alts := [], laidByText := true, laidKinds := [.data, .data, .data], laidTests := true, laidLooks := .later }
def MakesUptoCardSaid : Prop := Claim7.holds Tryz.pinned (.plain (OpenSpec.upto makesSpec)) makesUptoCard

/-- THE SECOND FORM's CARD OF 'sololaw.Leans'. -/
def leansUptoCard : Claim7 := { stood := { row := leansUptoRow, standIns := [], harness := (true, "5331685fe83bc32de759303f9ceb77ddbe71fdb35452c63c032e500046f8894a"), looks := true }, kinds := [], alts := [], laidByText := true, laidKinds := [.data, .data, .data], laidTests := true, laidLooks := .later }
def LeansUptoCardSaid : Prop := Claim7.holds Tryz.pinned (.plain (OpenSpec.upto leansSpec)) leansUptoCard

/-- THE SECOND FORM's CARD OF 'sololaw.Plains'. -/
def plainsUptoCard : Claim7 := { stood := { row := plainsUptoRow, standIns := [], harness := (true, "5331685fe83bc32de759303f9ceb77ddbe71fdb35452c63c032e500046f8894a"), looks := true }, kinds := [], alts := [], laidByText := true, laidKinds := [.data, .data, .data], laidTests := true, laidLooks := .later }
def PlainsUptoCardSaid : Prop := Claim7.holds Tryz.pinned (.plain (OpenSpec.upto plainsSpec)) plainsUptoCard
end Rows
end Go.Proofs.YtgfhfkgdmidhpaaGreatDoor
