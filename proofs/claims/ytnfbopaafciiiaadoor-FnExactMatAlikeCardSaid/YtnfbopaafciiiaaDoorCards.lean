/-
  DERIVED. GIVEN WITH THE SEED: THE CARDS: each row of YtnfbopaafciiiaaDoorRows.lean that lists a variable, with what it lists TIED to the program's text (the seventh form; the later family's looks); each row that meets fmt, with fmt's text TOLD by the authors' own Lean function (tested against real Go, not proved from fmt's source: count such statements apart). THE CARD IS WHAT COUNTS. Prove the row's statement (the work); the ties are given (YtnfbopaafciiiaaDoorTie.lean); close each card by the builder's one call (the guide's Derived/Test/ToyasCard.lean, 'card_holds'). Laid BY PROGRAM, IN A SANDBOX (cutbox-door.mjs). By AI agents, Wed Nov 11 2026. No macro, syntax, notation, axiom, sorry.
-/
import Derived.Test.YtnfbopaafciiiaaDoorRows
import GoSem.ClaimSeven
namespace Go.Proofs.YtnfbopaafciiiaaDoor
namespace Rows

/-- THE TIED CARD OF 'laws.FnExactMatValid'. -/
def fnExactMatValidCard : Claim7 := { stood := { row := fnExactMatValidRow, standIns := [], harness := (true, "d49746d5e77e79c28ab1aee1d022c15bcad305036f6980e47f44b367295b3b62"), looks := true }, kinds := [], alts := [], laidByText := true, laidKinds := [.handle], laidTests := true, laidLooks := .later }
def FnExactMatValidCardSaid : Prop := Claim7.holds Tryd.pinned (.plain (OpenSpec.ofChange fnExactMatValidSpec)) fnExactMatValidCard

/-- THE TIED CARD OF 'laws.FnExactMatTimes'. -/
def fnExactMatTimesCard : Claim7 := { stood := { row := fnExactMatTimesRow, standIns := [], harness := (true, "d49746d5e77e79c28ab1aee1d022c15bcad305036f6980e47f44b367295b3b62"), looks := true }, kinds := [], alts := [], laidByText := true, laidKinds := [.handle], laidTests := true, laidLooks := .later }
def FnExactMatTimesCardSaid : Prop := Claim7.holds Tryd.pinned (.plain (OpenSpec.ofChange fnExactMatTimesSpec)) fnExactMatTimesCard

/-- THE TIED CARD OF 'laws.FnExactMatAdjoint'. -/
def fnExactMatAdjointCard : Claim7 := { stood := { row := fnExactMatAdjointRow, standIns := [], harness := (true, "d49746d5e77e79c28ab1aee1d022c15bcad305036f6980e47f44b367295b3b62"), looks := true }, kinds := [], alts := [], laidByText := true, laidKinds := [.handle], laidTests := true, laidLooks := .later }
def FnExactMatAdjointCardSaid : Prop := Claim7.holds Tryd.pinned (.plain (OpenSpec.ofChange fnExactMatAdjointSpec)) fnExactMatAdjointCard

/-- THE TIED CARD OF 'laws.FnExactMatApply'. -/
def fnExactMatApplyCard : Claim7 := { stood := { row := fnExactMatApplyRow, standIns := [], harness := (true, "d49746d5e77e79c28ab1aee1d022c15bcad305036f6980e47f44b367295b3b62"), looks := true }, kinds := [], alts := [], laidByText := true, laidKinds := [.handle], laidTests := true, laidLooks := .later }
def FnExactMatApplyCardSaid : Prop := Claim7.holds Tryd.pinned (.plain (OpenSpec.ofChange fnExactMatApplySpec)) fnExactMatApplyCard

/-- THE TIED CARD OF 'laws.FnExactMatDet'. -/
def fnExactMatDetCard : Claim7 := { stood := { row := fnExactMatDetRow, standIns := [], harness := (true, "d49746d5e77e79c28ab1aee1d022c15bcad305036f6980e47f44b367295b3b62"), looks := true }, kinds := [], alts := [], laidByText := true, laidKinds := [.handle], laidTests := true, laidLooks := .later }
def FnExactMatDetCardSaid : Prop := Claim7.holds Tryd.pinned (.plain (OpenSpec.ofChange fnExactMatDetSpec)) fnExactMatDetCard

/-- THE TIED CARD OF 'laws.FnExactMatLossless'. -/
def fnExactMatLosslessCard : Claim7 := { stood := { row := fnExactMatLosslessRow, standIns := [], harness := (true, "d49746d5e77e79c28ab1aee1d022c15bcad305036f6980e47f44b367295b3b62"), looks := true }, kinds := [], alts := [], laidByText := true, laidKinds := [.handle], laidTests := true, laidLooks := .later }
def FnExactMatLosslessCardSaid : Prop := Claim7.holds Tryd.pinned (.plain (OpenSpec.ofChange fnExactMatLosslessSpec)) fnExactMatLosslessCard

/-- THE TIED CARD OF 'laws.FnExactMatAlike'. -/
def fnExactMatAlikeCard : Claim7 := { stood := { row := fnExactMatAlikeRow, standIns := [], harness := (true, "d49746d5e77e79c28ab1aee1d022c15bcad305036f6980e47f44b367295b3b62"), looks := true }, kinds := [], alts := [], laidByText := true, laidKinds := [.handle], laidTests := true, laidLooks := .later }
def FnExactMatAlikeCardSaid : Prop := Claim7.holds Tryd.pinned (.plain (OpenSpec.ofChange fnExactMatAlikeSpec)) fnExactMatAlikeCard

/-- THE TIED CARD OF 'laws.FnExactMatRotator'. -/
def fnExactMatRotatorCard : Claim7 := { stood := { row := fnExactMatRotatorRow, standIns := [], harness := (true, "d49746d5e77e79c28ab1aee1d022c15bcad305036f6980e47f44b367295b3b62"), looks := true }, kinds := [], alts := [], laidByText := true, laidKinds := [.handle], laidTests := true, laidLooks := .later }
def FnExactMatRotatorCardSaid : Prop := Claim7.holds Tryd.pinned (.plain (OpenSpec.ofChange fnExactMatRotatorSpec)) fnExactMatRotatorCard

/-- THE TIED CARD OF 'laws.FnExactMatPlate'. -/
def fnExactMatPlateCard : Claim7 := { stood := { row := fnExactMatPlateRow, standIns := [], harness := (true, "d49746d5e77e79c28ab1aee1d022c15bcad305036f6980e47f44b367295b3b62"), looks := true }, kinds := [], alts := [], laidByText := true, laidKinds := [.handle], laidTests := true, laidLooks := .later }
def FnExactMatPlateCardSaid : Prop := Claim7.holds Tryd.pinned (.plain (OpenSpec.ofChange fnExactMatPlateSpec)) fnExactMatPlateCard

/-- THE TIED CARD OF 'laws.FnExactMatFilter'. -/
def fnExactMatFilterCard : Claim7 := { stood := { row := fnExactMatFilterRow, standIns := [], harness := (true, "d49746d5e77e79c28ab1aee1d022c15bcad305036f6980e47f44b367295b3b62"), looks := true }, kinds := [], alts := [], laidByText := true, laidKinds := [.handle], laidTests := true, laidLooks := .later }
def FnExactMatFilterCardSaid : Prop := Claim7.holds Tryd.pinned (.plain (OpenSpec.ofChange fnExactMatFilterSpec)) fnExactMatFilterCard

/-- THE TIED CARD OF 'laws.FnExactMatScale'. -/
def fnExactMatScaleCard : Claim7 := { stood := { row := fnExactMatScaleRow, standIns := [], harness := (true, "d49746d5e77e79c28ab1aee1d022c15bcad305036f6980e47f44b367295b3b62"), looks := true }, kinds := [], alts := [], laidByText := true, laidKinds := [.handle], laidTests := true, laidLooks := .later }
def FnExactMatScaleCardSaid : Prop := Claim7.holds Tryd.pinned (.plain (OpenSpec.ofChange fnExactMatScaleSpec)) fnExactMatScaleCard

/-- THE TIED CARD OF 'laws.FnMat'. -/
def fnMatCard : Claim7 := { stood := { row := fnMatRow, standIns := [], harness := (true, "d49746d5e77e79c28ab1aee1d022c15bcad305036f6980e47f44b367295b3b62"), looks := true }, kinds := [], alts := [], laidByText := true, laidKinds := [.handle], laidTests := true, laidLooks := .later }
def FnMatCardSaid : Prop := Claim7.holds Tryd.pinned (.plain (OpenSpec.ofChange fnMatSpec)) fnMatCard

/-- THE SECOND FORM's CARD OF 'laws.FnExactMatValid'. -/
def fnExactMatValidUptoCard : Claim7 := { stood := { row := fnExactMatValidUptoRow, standIns := [], harness := (true, "d49746d5e77e79c28ab1aee1d022c15bcad305036f6980e47f44b367295b3b62"), looks := true }, kinds := [], alts := [], laidByText := true, laidKinds := [.handle], laidTests := true, laidLooks := .later }
def FnExactMatValidUptoCardSaid : Prop := Claim7.holds Tryd.pinned (.plain (OpenSpec.upto fnExactMatValidSpec)) fnExactMatValidUptoCard

/-- THE SECOND FORM's CARD OF 'laws.FnExactMatTimes'. -/
def fnExactMatTimesUptoCard : Claim7 := { stood := { row := fnExactMatTimesUptoRow, standIns := [], harness := (true, "d49746d5e77e79c28ab1aee1d022c15bcad305036f6980e47f44b367295b3b62"), looks := true }, kinds := [], alts := [], laidByText := true, laidKinds := [.handle], laidTests := true, laidLooks := .later }
def FnExactMatTimesUptoCardSaid : Prop := Claim7.holds Tryd.pinned (.plain (OpenSpec.upto fnExactMatTimesSpec)) fnExactMatTimesUptoCard

/-- THE SECOND FORM's CARD OF 'laws.FnExactMatAdjoint'. -/
def fnExactMatAdjointUptoCard : Claim7 := { stood := { row := fnExactMatAdjointUptoRow, standIns := [], harness := (true, "d49746d5e77e79c28ab1aee1d022c15bcad305036f6980e47f44b367295b3b62"), looks := true }, kinds := [], alts := [], laidByText := true, laidKinds := [.handle], laidTests := true, laidLooks := .later }
def FnExactMatAdjointUptoCardSaid : Prop := Claim7.holds Tryd.pinned (.plain (OpenSpec.upto fnExactMatAdjointSpec)) fnExactMatAdjointUptoCard

/-- THE SECOND FORM's CARD OF 'laws.FnExactMatApply'. -/
def fnExactMatApplyUptoCard : Claim7 := { stood := { row := fnExactMatApplyUptoRow, standIns := [], harness := (true, "d49746d5e77e79c28ab1aee1d022c15bcad305036f6980e47f44b367295b3b62"), looks := true }, kinds := [], alts := [], laidByText := true, laidKinds := [.handle], laidTests := true, laidLooks := .later }
def FnExactMatApplyUptoCardSaid : Prop := Claim7.holds Tryd.pinned (.plain (OpenSpec.upto fnExactMatApplySpec)) fnExactMatApplyUptoCard

/-- THE SECOND FORM's CARD OF 'laws.FnExactMatDet'. -/
def fnExactMatDetUptoCard : Claim7 := { stood := { row := fnExactMatDetUptoRow, standIns := [], harness := (true, "d49746d5e77e79c28ab1aee1d022c15bcad305036f6980e47f44b367295b3b62"), looks := true }, kinds := [], alts := [], laidByText := true, laidKinds := [.handle], laidTests := true, laidLooks := .later }
def FnExactMatDetUptoCardSaid : Prop := Claim7.holds Tryd.pinned (.plain (OpenSpec.upto fnExactMatDetSpec)) fnExactMatDetUptoCard

/-- THE SECOND FORM's CARD OF 'laws.FnExactMatLossless'. -/
def fnExactMatLosslessUptoCard : Claim7 := { stood := { row := fnExactMatLosslessUptoRow, standIns := [], harness := (true, "d49746d5e77e79c28ab1aee1d022c15bcad305036f6980e47f44b367295b3b62"), looks := true }, kinds := [], alts := [], laidByText := true, laidKinds := [.handle], laidTests := true, laidLooks := .later }
def FnExactMatLosslessUptoCardSaid : Prop := Claim7.holds Tryd.pinned (.plain (OpenSpec.upto fnExactMatLosslessSpec)) fnExactMatLosslessUptoCard

/-- THE SECOND FORM's CARD OF 'laws.FnExactMatAlike'. -/
def fnExactMatAlikeUptoCard : Claim7 := { stood := { row := fnExactMatAlikeUptoRow, standIns := [], harness := (true, "d49746d5e77e79c28ab1aee1d022c15bcad305036f6980e47f44b367295b3b62"), looks := true }, kinds := [], alts := [], laidByText := true, laidKinds := [.handle], laidTests := true, laidLooks := .later }
def FnExactMatAlikeUptoCardSaid : Prop := Claim7.holds Tryd.pinned (.plain (OpenSpec.upto fnExactMatAlikeSpec)) fnExactMatAlikeUptoCard

/-- THE SECOND FORM's CARD OF 'laws.FnExactMatRotator'. -/
def fnExactMatRotatorUptoCard : Claim7 := { stood := { row := fnExactMatRotatorUptoRow, standIns := [], harness := (true, "d49746d5e77e79c28ab1aee1d022c15bcad305036f6980e47f44b367295b3b62"), looks := true }, kinds := [], alts := [], laidByText := true, laidKinds := [.handle], laidTests := true, laidLooks := .later }
def FnExactMatRotatorUptoCardSaid : Prop := Claim7.holds Tryd.pinned (.plain (OpenSpec.upto fnExactMatRotatorSpec)) fnExactMatRotatorUptoCard

/-- THE SECOND FORM's CARD OF 'laws.FnExactMatPlate'. -/
def fnExactMatPlateUptoCard : Claim7 := { stood := { row := fnExactMatPlateUptoRow, standIns := [], harness := (true, "d49746d5e77e79c28ab1aee1d022c15bcad305036f6980e47f44b367295b3b62"), looks := true }, kinds := [], alts := [], laidByText := true, laidKinds := [.handle], laidTests := true, laidLooks := .later }
def FnExactMatPlateUptoCardSaid : Prop := Claim7.holds Tryd.pinned (.plain (OpenSpec.upto fnExactMatPlateSpec)) fnExactMatPlateUptoCard

/-- THE SECOND FORM's CARD OF 'laws.FnExactMatFilter'. -/
def fnExactMatFilterUptoCard : Claim7 := { stood := { row := fnExactMatFilterUptoRow, standIns := [], harness := (true, "d49746d5e77e79c28ab1aee1d022c15bcad305036f6980e47f44b367295b3b62"), looks := true }, kinds := [], alts := [], laidByText := true, laidKinds := [.handle], laidTests := true, laidLooks := .later }
def FnExactMatFilterUptoCardSaid : Prop := Claim7.holds Tryd.pinned (.plain (OpenSpec.upto fnExactMatFilterSpec)) fnExactMatFilterUptoCard

/-- THE SECOND FORM's CARD OF 'laws.FnExactMatScale'. -/
def fnExactMatScaleUptoCard : Claim7 := { stood := { row := fnExactMatScaleUptoRow, standIns := [], harness := (true, "d49746d5e77e79c28ab1aee1d022c15bcad305036f6980e47f44b367295b3b62"), looks := true }, kinds := [], alts := [], laidByText := true, laidKinds := [.handle], laidTests := true, laidLooks := .later }
def FnExactMatScaleUptoCardSaid : Prop := Claim7.holds Tryd.pinned (.plain (OpenSpec.upto fnExactMatScaleSpec)) fnExactMatScaleUptoCard

/-- THE SECOND FORM's CARD OF 'laws.FnMat'. -/
def fnMatUptoCard : Claim7 := { stood := { row := fnMatUptoRow, standIns := [], harness := (true, "d49746d5e77e79c28ab1aee1d022c15bcad305036f6980e47f44b367295b3b62"), looks := true }, kinds := [], alts := [], laidByText := true, laidKinds := [.handle], laidTests := true, laidLooks := .later }
def FnMatUptoCardSaid : Prop := Claim7.holds Tryd.pinned (.plain (OpenSpec.upto fnMatSpec)) fnMatUptoCard
end Rows
end Go.Proofs.YtnfbopaafciiiaaDoor
