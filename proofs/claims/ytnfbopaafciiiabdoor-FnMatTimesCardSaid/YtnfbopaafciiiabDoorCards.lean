/-
  DERIVED. GIVEN WITH THE SEED: THE CARDS: each row of YtnfbopaafciiiabDoorRows.lean that lists a variable, with what it lists TIED to the program's text (the seventh form; the later family's looks); each row that meets fmt, with fmt's text TOLD by the authors' own Lean function (tested against real Go, not proved from fmt's source: count such statements apart). THE CARD IS WHAT COUNTS. Prove the row's statement (the work); the ties are given (YtnfbopaafciiiabDoorTie.lean); close each card by the builder's one call (the guide's Derived/Test/ToyasCard.lean, 'card_holds'). Laid BY PROGRAM, IN A SANDBOX (cutbox-door.mjs). By AI agents, Wed Nov 11 2026. No macro, syntax, notation, axiom, sorry.
-/
import Derived.Test.YtnfbopaafciiiabDoorRows
import GoSem.ClaimSeven
namespace Go.Proofs.YtnfbopaafciiiabDoor
namespace Rows

/-- THE TIED CARD OF 'laws.FnMatTimes'. -/
def fnMatTimesCard : Claim7 := { stood := { row := fnMatTimesRow, standIns := [], harness := (true, "5a37c7c1ae157ceafaef3919c83eb1b62258d197ca74f638fcf6256e2d75ff65"), looks := true }, kinds := [], alts := [], laidByText := true, laidKinds := [.handle], laidTests := true, laidLooks := .later }
def FnMatTimesCardSaid : Prop := Claim7.holds Tryd.pinned (.plain (OpenSpec.ofChange fnMatTimesSpec)) fnMatTimesCard

/-- THE TIED CARD OF 'laws.FnAdjoint'. -/
def fnAdjointCard : Claim7 := { stood := { row := fnAdjointRow, standIns := [], harness := (true, "5a37c7c1ae157ceafaef3919c83eb1b62258d197ca74f638fcf6256e2d75ff65"), looks := true }, kinds := [], alts := [], laidByText := true, laidKinds := [.handle], laidTests := true, laidLooks := .later }
def FnAdjointCardSaid : Prop := Claim7.holds Tryd.pinned (.plain (OpenSpec.ofChange fnAdjointSpec)) fnAdjointCard

/-- THE TIED CARD OF 'laws.FnDet'. -/
def fnDetCard : Claim7 := { stood := { row := fnDetRow, standIns := [], harness := (true, "5a37c7c1ae157ceafaef3919c83eb1b62258d197ca74f638fcf6256e2d75ff65"), looks := true }, kinds := [], alts := [], laidByText := true, laidKinds := [.handle], laidTests := true, laidLooks := .later }
def FnDetCardSaid : Prop := Claim7.holds Tryd.pinned (.plain (OpenSpec.ofChange fnDetSpec)) fnDetCard

/-- THE TIED CARD OF 'laws.FnLossless'. -/
def fnLosslessCard : Claim7 := { stood := { row := fnLosslessRow, standIns := [], harness := (true, "5a37c7c1ae157ceafaef3919c83eb1b62258d197ca74f638fcf6256e2d75ff65"), looks := true }, kinds := [], alts := [], laidByText := true, laidKinds := [.handle], laidTests := true, laidLooks := .later }
def FnLosslessCardSaid : Prop := Claim7.holds Tryd.pinned (.plain (OpenSpec.ofChange fnLosslessSpec)) fnLosslessCard

/-- THE TIED CARD OF 'laws.FnMatAlike'. -/
def fnMatAlikeCard : Claim7 := { stood := { row := fnMatAlikeRow, standIns := [], harness := (true, "5a37c7c1ae157ceafaef3919c83eb1b62258d197ca74f638fcf6256e2d75ff65"), looks := true }, kinds := [], alts := [], laidByText := true, laidKinds := [.handle], laidTests := true, laidLooks := .later }
def FnMatAlikeCardSaid : Prop := Claim7.holds Tryd.pinned (.plain (OpenSpec.ofChange fnMatAlikeSpec)) fnMatAlikeCard

/-- THE TIED CARD OF 'laws.FnRotator'. -/
def fnRotatorCard : Claim7 := { stood := { row := fnRotatorRow, standIns := [], harness := (true, "5a37c7c1ae157ceafaef3919c83eb1b62258d197ca74f638fcf6256e2d75ff65"), looks := true }, kinds := [], alts := [], laidByText := true, laidKinds := [.handle], laidTests := true, laidLooks := .later }
def FnRotatorCardSaid : Prop := Claim7.holds Tryd.pinned (.plain (OpenSpec.ofChange fnRotatorSpec)) fnRotatorCard

/-- THE TIED CARD OF 'laws.FnPlate'. -/
def fnPlateCard : Claim7 := { stood := { row := fnPlateRow, standIns := [], harness := (true, "5a37c7c1ae157ceafaef3919c83eb1b62258d197ca74f638fcf6256e2d75ff65"), looks := true }, kinds := [], alts := [], laidByText := true, laidKinds := [.handle], laidTests := true, laidLooks := .later }
def FnPlateCardSaid : Prop := Claim7.holds Tryd.pinned (.plain (OpenSpec.ofChange fnPlateSpec)) fnPlateCard

/-- THE TIED CARD OF 'laws.FnFilter'. -/
def fnFilterCard : Claim7 := { stood := { row := fnFilterRow, standIns := [], harness := (true, "5a37c7c1ae157ceafaef3919c83eb1b62258d197ca74f638fcf6256e2d75ff65"), looks := true }, kinds := [], alts := [], laidByText := true, laidKinds := [.handle], laidTests := true, laidLooks := .later }
def FnFilterCardSaid : Prop := Claim7.holds Tryd.pinned (.plain (OpenSpec.ofChange fnFilterSpec)) fnFilterCard

/-- THE TIED CARD OF 'laws.FnScale'. -/
def fnScaleCard : Claim7 := { stood := { row := fnScaleRow, standIns := [], harness := (true, "5a37c7c1ae157ceafaef3919c83eb1b62258d197ca74f638fcf6256e2d75ff65"), looks := true }, kinds := [], alts := [], laidByText := true, laidKinds := [.handle], laidTests := true, laidLooks := .later }
def FnScaleCardSaid : Prop := Claim7.holds Tryd.pinned (.plain (OpenSpec.ofChange fnScaleSpec)) fnScaleCard

/-- THE SECOND FORM's CARD OF 'laws.FnMatTimes'. -/
def fnMatTimesUptoCard : Claim7 := { stood := { row := fnMatTimesUptoRow, standIns := [], harness := (true, "5a37c7c1ae157ceafaef3919c83eb1b62258d197ca74f638fcf6256e2d75ff65"), looks := true }, kinds := [], alts := [], laidByText := true, laidKinds := [.handle], laidTests := true, laidLooks := .later }
def FnMatTimesUptoCardSaid : Prop := Claim7.holds Tryd.pinned (.plain (OpenSpec.upto fnMatTimesSpec)) fnMatTimesUptoCard

/-- THE SECOND FORM's CARD OF 'laws.FnAdjoint'. -/
def fnAdjointUptoCard : Claim7 := { stood := { row := fnAdjointUptoRow, standIns := [], harness := (true, "5a37c7c1ae157ceafaef3919c83eb1b62258d197ca74f638fcf6256e2d75ff65"), looks := true }, kinds := [], alts := [], laidByText := true, laidKinds := [.handle], laidTests := true, laidLooks := .later }
def FnAdjointUptoCardSaid : Prop := Claim7.holds Tryd.pinned (.plain (OpenSpec.upto fnAdjointSpec)) fnAdjointUptoCard

/-- THE SECOND FORM's CARD OF 'laws.FnDet'. -/
def fnDetUptoCard : Claim7 := { stood := { row := fnDetUptoRow, standIns := [], harness := (true, "5a37c7c1ae157ceafaef3919c83eb1b62258d197ca74f638fcf6256e2d75ff65"), looks := true }, kinds := [], alts := [], laidByText := true, laidKinds := [.handle], laidTests := true, laidLooks := .later }
def FnDetUptoCardSaid : Prop := Claim7.holds Tryd.pinned (.plain (OpenSpec.upto fnDetSpec)) fnDetUptoCard

/-- THE SECOND FORM's CARD OF 'laws.FnLossless'. -/
def fnLosslessUptoCard : Claim7 := { stood := { row := fnLosslessUptoRow, standIns := [], harness := (true, "5a37c7c1ae157ceafaef3919c83eb1b62258d197ca74f638fcf6256e2d75ff65"), looks := true }, kinds := [], alts := [], laidByText := true, laidKinds := [.handle], laidTests := true, laidLooks := .later }
def FnLosslessUptoCardSaid : Prop := Claim7.holds Tryd.pinned (.plain (OpenSpec.upto fnLosslessSpec)) fnLosslessUptoCard

/-- THE SECOND FORM's CARD OF 'laws.FnMatAlike'. -/
def fnMatAlikeUptoCard : Claim7 := { stood := { row := fnMatAlikeUptoRow, standIns := [], harness := (true, "5a37c7c1ae157ceafaef3919c83eb1b62258d197ca74f638fcf6256e2d75ff65"), looks := true }, kinds := [], alts := [], laidByText := true, laidKinds := [.handle], laidTests := true, laidLooks := .later }
def FnMatAlikeUptoCardSaid : Prop := Claim7.holds Tryd.pinned (.plain (OpenSpec.upto fnMatAlikeSpec)) fnMatAlikeUptoCard

/-- THE SECOND FORM's CARD OF 'laws.FnRotator'. -/
def fnRotatorUptoCard : Claim7 := { stood := { row := fnRotatorUptoRow, standIns := [], harness := (true, "5a37c7c1ae157ceafaef3919c83eb1b62258d197ca74f638fcf6256e2d75ff65"), looks := true }, kinds := [], alts := [], laidByText := true, laidKinds := [.handle], laidTests := true, laidLooks := .later }
def FnRotatorUptoCardSaid : Prop := Claim7.holds Tryd.pinned (.plain (OpenSpec.upto fnRotatorSpec)) fnRotatorUptoCard

/-- THE SECOND FORM's CARD OF 'laws.FnPlate'. -/
def fnPlateUptoCard : Claim7 := { stood := { row := fnPlateUptoRow, standIns := [], harness := (true, "5a37c7c1ae157ceafaef3919c83eb1b62258d197ca74f638fcf6256e2d75ff65"), looks := true }, kinds := [], alts := [], laidByText := true, laidKinds := [.handle], laidTests := true, laidLooks := .later }
def FnPlateUptoCardSaid : Prop := Claim7.holds Tryd.pinned (.plain (OpenSpec.upto fnPlateSpec)) fnPlateUptoCard

/-- THE SECOND FORM's CARD OF 'laws.FnFilter'. -/
def fnFilterUptoCard : Claim7 := { stood := { row := fnFilterUptoRow, standIns := [], harness := (true, "5a37c7c1ae157ceafaef3919c83eb1b62258d197ca74f638fcf6256e2d75ff65"), looks := true }, kinds := [], alts := [], laidByText := true, laidKinds := [.handle], laidTests := true, laidLooks := .later }
def FnFilterUptoCardSaid : Prop := Claim7.holds Tryd.pinned (.plain (OpenSpec.upto fnFilterSpec)) fnFilterUptoCard

/-- THE SECOND FORM's CARD OF 'laws.FnScale'. -/
def fnScaleUptoCard : Claim7 := { stood := { row := fnScaleUptoRow, standIns := [], harness := (true, "5a37c7c1ae157ceafaef3919c83eb1b62258d197ca74f638fcf6256e2d75ff65"), looks := true }, kinds := [], alts := [], laidByText := true, laidKinds := [.handle], laidTests := true, laidLooks := .later }
def FnScaleUptoCardSaid : Prop := Claim7.holds Tryd.pinned (.plain (OpenSpec.upto fnScaleSpec)) fnScaleUptoCard
end Rows
end Go.Proofs.YtnfbopaafciiiabDoor
