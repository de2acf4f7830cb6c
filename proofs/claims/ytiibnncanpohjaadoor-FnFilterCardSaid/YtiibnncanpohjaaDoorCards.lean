/-
  DERIVED. GIVEN WITH THE SEED: THE CARDS: each row of YtiibnncanpohjaaDoorRows.lean that lists a variable, with what it lists TIED to the program's text (the seventh form; the later family's looks); each row that meets fmt, with fmt's text TOLD by the authors' own Lean function (tested against real Go, not proved from fmt's source: count such statements apart). THE CARD IS WHAT COUNTS. Prove the row's statement (the work); the ties are given (YtiibnncanpohjaaDoorTie.lean); close each card by the builder's one call (the guide's Derived/Test/ToyasCard.lean, 'card_holds'). Laid BY PROGRAM, IN A SANDBOX (cutbox-door.mjs). By AI agents, Wed Nov 11 2026. No macro, syntax, notation, axiom, sorry.
-/
import Derived.Test.YtiibnncanpohjaaDoorRows
import GoSem.ClaimSeven
namespace Go.Proofs.YtiibnncanpohjaaDoor
namespace Rows

/-- THE TIED CARD OF 'laws.FnMat'. -/
def fnMatCard : Claim7 := { stood := { row := fnMatRow, standIns := [], harness := (true, "a73ddd8c5c69fe54c787cae4a75eff7e4c52095c5093aca36df45fc9763e5d73"), looks := true }, kinds := [], alts := [], laidByText := true, laidKinds := [.handle], laidTests := true, laidLooks := .later }
def FnMatCardSaid : Prop := Claim7.holds Tryd.pinned (.plain (OpenSpec.ofChange fnMatSpec)) fnMatCard

/-- THE TIED CARD OF 'laws.FnLossless'. -/
def fnLosslessCard : Claim7 := { stood := { row := fnLosslessRow, standIns := [], harness := (true, "a73ddd8c5c69fe54c787cae4a75eff7e4c52095c5093aca36df45fc9763e5d73"), looks := true }, kinds := [], alts := [], laidByText := true, laidKinds := [.handle], laidTests := true, laidLooks := .later }
def FnLosslessCardSaid : Prop := Claim7.holds Tryd.pinned (.plain (OpenSpec.ofChange fnLosslessSpec)) fnLosslessCard

/-- THE TIED CARD OF 'laws.FnMatAlike'. -/
def fnMatAlikeCard : Claim7 := { stood := { row := fnMatAlikeRow, standIns := [], harness := (true, "a73ddd8c5c69fe54c787cae4a75eff7e4c52095c5093aca36df45fc9763e5d73"), looks := true }, kinds := [], alts := [], laidByText := true, laidKinds := [.handle], laidTests := true, laidLooks := .later }
def FnMatAlikeCardSaid : Prop := Claim7.holds Tryd.pinned (.plain (OpenSpec.ofChange fnMatAlikeSpec)) fnMatAlikeCard

/-- THE TIED CARD OF 'laws.FnRotator'. -/
def fnRotatorCard : Claim7 := { stood := { row := fnRotatorRow, standIns := [], harness := (true, "a73ddd8c5c69fe54c787cae4a75eff7e4c52095c5093aca36df45fc9763e5d73"), looks := true }, kinds := [], alts := [], laidByText := true, laidKinds := [.handle], laidTests := true, laidLooks := .later }
def FnRotatorCardSaid : Prop := Claim7.holds Tryd.pinned (.plain (OpenSpec.ofChange fnRotatorSpec)) fnRotatorCard

/-- THE TIED CARD OF 'laws.FnPlate'. -/
def fnPlateCard : Claim7 := { stood := { row := fnPlateRow, standIns := [], harness := (true, "a73ddd8c5c69fe54c787cae4a75eff7e4c52095c5093aca36df45fc9763e5d73"), looks := true }, kinds := [], alts := [], laidByText := true, laidKinds := [.handle], laidTests := true, laidLooks := .later }
def FnPlateCardSaid : Prop := Claim7.holds Tryd.pinned (.plain (OpenSpec.ofChange fnPlateSpec)) fnPlateCard

/-- THE TIED CARD OF 'laws.FnFilter'. -/
def fnFilterCard : Claim7 := { stood := { row := fnFilterRow, standIns := [], harness := (true, "a73ddd8c5c69fe54c787cae4a75eff7e4c52095c5093aca36df45fc9763e5d73"), looks := true }, kinds := [], alts := [], laidByText := true, laidKinds := [.handle], laidTests := true, laidLooks := .later }
def FnFilterCardSaid : Prop := Claim7.holds Tryd.pinned (.plain (OpenSpec.ofChange fnFilterSpec)) fnFilterCard

/-- THE TIED CARD OF 'laws.FnScale'. -/
def fnScaleCard : Claim7 := { stood := { row := fnScaleRow, standIns := [], harness := (true, "a73ddd8c5c69fe54c787cae4a75eff7e4c52095c5093aca36df45fc9763e5d73"), looks := true }, kinds := [], alts := [], laidByText := true, laidKinds := [.handle], laidTests := true, laidLooks := .later }
def FnScaleCardSaid : Prop := Claim7.holds Tryd.pinned (.plain (OpenSpec.ofChange fnScaleSpec)) fnScaleCard

/-- THE SECOND FORM's CARD OF 'laws.FnMat'. -/
def fnMatUptoCard : Claim7 := { stood := { row := fnMatUptoRow, standIns := [], harness := (true, "a73ddd8c5c69fe54c787cae4a75eff7e4c52095c5093aca36df45fc9763e5d73"), looks := true }, kinds := [], alts := [], laidByText := true, laidKinds := [.handle], laidTests := true, laidLooks := .later }
def FnMatUptoCardSaid : Prop := Claim7.holds Tryd.pinned (.plain (OpenSpec.upto fnMatSpec)) fnMatUptoCard

/-- THE SECOND FORM's CARD OF 'laws.FnLossless'. -/
def fnLosslessUptoCard : Claim7 := { stood := { row := fnLosslessUptoRow, standIns := [], harness := (true, "a73ddd8c5c69fe54c787cae4a75eff7e4c52095c5093aca36df45fc9763e5d73"), looks := true }, kinds := [], alts := [], laidByText := true, laidKinds := [.handle], laidTests := true, laidLooks := .later }
def FnLosslessUptoCardSaid : Prop := Claim7.holds Tryd.pinned (.plain (OpenSpec.upto fnLosslessSpec)) fnLosslessUptoCard

/-- THE SECOND FORM's CARD OF 'laws.FnMatAlike'. -/
def fnMatAlikeUptoCard : Claim7 := { stood := { row := fnMatAlikeUptoRow, standIns := [], harness := (true, "a73ddd8c5c69fe54c787cae4a75eff7e4c52095c5093aca36df45fc9763e5d73"), looks := true }, kinds := [], alts := [], laidByText := true, laidKinds := [.handle], laidTests := true, laidLooks := .later }
def FnMatAlikeUptoCardSaid : Prop := Claim7.holds Tryd.pinned (.plain (OpenSpec.upto fnMatAlikeSpec)) fnMatAlikeUptoCard

/-- THE SECOND FORM's CARD OF 'laws.FnRotator'. -/
def fnRotatorUptoCard : Claim7 := { stood := { row := fnRotatorUptoRow, standIns := [], harness := (true, "a73ddd8c5c69fe54c787cae4a75eff7e4c52095c5093aca36df45fc9763e5d73"), looks := true }, kinds := [], alts := [], laidByText := true, laidKinds := [.handle], laidTests := true, laidLooks := .later }
def FnRotatorUptoCardSaid : Prop := Claim7.holds Tryd.pinned (.plain (OpenSpec.upto fnRotatorSpec)) fnRotatorUptoCard

/-- THE SECOND FORM's CARD OF 'laws.FnPlate'. -/
def fnPlateUptoCard : Claim7 := { stood := { row := fnPlateUptoRow, standIns := [], harness := (true, "a73ddd8c5c69fe54c787cae4a75eff7e4c52095c5093aca36df45fc9763e5d73"), looks := true }, kinds := [], alts := [], laidByText := true, laidKinds := [.handle], laidTests := true, laidLooks := .later }
def FnPlateUptoCardSaid : Prop := Claim7.holds Tryd.pinned (.plain (OpenSpec.upto fnPlateSpec)) fnPlateUptoCard

/-- THE SECOND FORM's CARD OF 'laws.FnFilter'. -/
def fnFilterUptoCard : Claim7 := { stood := { row := fnFilterUptoRow, standIns := [], harness := (true, "a73ddd8c5c69fe54c787cae4a75eff7e4c52095c5093aca36df45fc9763e5d73"), looks := true }, kinds := [], alts := [], laidByText := true, laidKinds := [.handle], laidTests := true, laidLooks := .later }
def FnFilterUptoCardSaid : Prop := Claim7.holds Tryd.pinned (.plain (OpenSpec.upto fnFilterSpec)) fnFilterUptoCard

/-- THE SECOND FORM's CARD OF 'laws.FnScale'. -/
def fnScaleUptoCard : Claim7 := { stood := { row := fnScaleUptoRow, standIns := [], harness := (true, "a73ddd8c5c69fe54c787cae4a75eff7e4c52095c5093aca36df45fc9763e5d73"), looks := true }, kinds := [], alts := [], laidByText := true, laidKinds := [.handle], laidTests := true, laidLooks := .later }
def FnScaleUptoCardSaid : Prop := Claim7.holds Tryd.pinned (.plain (OpenSpec.upto fnScaleSpec)) fnScaleUptoCard
end Rows
end Go.Proofs.YtiibnncanpohjaaDoor
