/-
  DERIVED. GIVEN WITH THE SEED: THE CARDS: each row of YtjmhkkdeljbjpaaDoorRows.lean that lists a variable, with what it lists TIED to the program's text (the seventh form; the later family's looks); each row that meets fmt, with fmt's text TOLD by the authors' own Lean function (tested against real Go, not proved from fmt's source: count such statements apart). THE CARD IS WHAT COUNTS. Prove the row's statement (the work); the ties are given (YtjmhkkdeljbjpaaDoorTie.lean); close each card by the builder's one call (the guide's Derived/Test/ToyasCard.lean, 'card_holds'). Laid BY PROGRAM, IN A SANDBOX (cutbox-door.mjs). By AI agents, Wed Nov 11 2026. No macro, syntax, notation, axiom, sorry.
-/
import Derived.Test.YtjmhkkdeljbjpaaDoorRows
import GoSem.ClaimSeven
namespace Go.Proofs.YtjmhkkdeljbjpaaDoor
namespace Rows

/-- THE TIED CARD OF 'laws.FnMatAlike'. -/
def fnMatAlikeCard : Claim7 := { stood := { row := fnMatAlikeRow, standIns := [], harness := (true, "733dd0437c5958b5829c37225ba717ecc5e450d0f6b2529ef790b2f836542db0"), looks := true }, kinds := [], alts := [], laidByText := true, laidKinds := [.handle], laidTests := true, laidLooks := .later }
def FnMatAlikeCardSaid : Prop := Claim7.holds Tryd.pinned (.plain (OpenSpec.ofChange fnMatAlikeSpec)) fnMatAlikeCard

/-- THE TIED CARD OF 'laws.FnPlate'. -/
def fnPlateCard : Claim7 := { stood := { row := fnPlateRow, standIns := [], harness := (true, "733dd0437c5958b5829c37225ba717ecc5e450d0f6b2529ef790b2f836542db0"), looks := true }, kinds := [], alts := [], laidByText := true, laidKinds := [.handle], laidTests := true, laidLooks := .later }
def FnPlateCardSaid : Prop := Claim7.holds Tryd.pinned (.plain (OpenSpec.ofChange fnPlateSpec)) fnPlateCard

/-- THE TIED CARD OF 'laws.FnScale'. -/
def fnScaleCard : Claim7 := { stood := { row := fnScaleRow, standIns := [], harness := (true, "733dd0437c5958b5829c37225ba717ecc5e450d0f6b2529ef790b2f836542db0"), looks := true }, kinds := [], alts := [], laidByText := true, laidKinds := [.handle], laidTests := true, laidLooks := .later }
def FnScaleCardSaid : Prop := Claim7.holds Tryd.pinned (.plain (OpenSpec.ofChange fnScaleSpec)) fnScaleCard

/-- THE SECOND FORM's CARD OF 'laws.FnMatAlike'. -/
def fnMatAlikeUptoCard : Claim7 := { stood := { row := fnMatAlikeUptoRow, standIns := [], harness := (true, "733dd0437c5958b5829c37225ba717ecc5e450d0f6b2529ef790b2f836542db0"), looks := true }, kinds := [], alts := [], laidByText := true, laidKinds := [.handle], laidTests := true, laidLooks := .later }
def FnMatAlikeUptoCardSaid : Prop := Claim7.holds Tryd.pinned (.plain (OpenSpec.upto fnMatAlikeSpec)) fnMatAlikeUptoCard

/-- THE SECOND FORM's CARD OF 'laws.FnPlate'. -/
def fnPlateUptoCard : Claim7 := { stood := { row := fnPlateUptoRow, standIns := [], harness := (true, "733dd0437c5958b5829c37225ba717ecc5e450d0f6b2529ef790b2f836542db0"), looks := true }, kinds := [], alts := [], laidByText := true, laidKinds := [.handle], laidTests := true, laidLooks := .later }
def FnPlateUptoCardSaid : Prop := Claim7.holds Tryd.pinned (.plain (OpenSpec.upto fnPlateSpec)) fnPlateUptoCard

/-- THE SECOND FORM's CARD OF 'laws.FnScale'. -/
def fnScaleUptoCard : Claim7 := { stood := { row := fnScaleUptoRow, standIns := [], harness := (true, "733dd0437c5958b5829c37225ba717ecc5e450d0f6b2529ef790b2f836542db0"), looks := true }, kinds := [], alts := [], laidByText := true, laidKinds := [.handle], laidTests := true, laidLooks := .later }
def FnScaleUptoCardSaid : Prop := Claim7.holds Tryd.pinned (.plain (OpenSpec.upto fnScaleSpec)) fnScaleUptoCard
end Rows
end Go.Proofs.YtjmhkkdeljbjpaaDoor
