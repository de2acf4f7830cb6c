/-
  DERIVED. GIVEN WITH THE SEED: THE CARDS: each row of YtbihlkienhbapabDoorRows.lean that lists a variable, with what it lists TIED to the program's text (the seventh form; the later family's looks); each row that meets fmt, with fmt's text TOLD by the authors' own Lean function (tested against real Go, not proved from fmt's source: count such statements apart). THE CARD IS WHAT COUNTS. Prove the row's statement (the work); the ties are given (YtbihlkienhbapabDoorTie.lean); close each card by the builder's one call (the guide's Derived/Test/ToyasCard.lean, 'card_holds'). Laid BY PROGRAM, IN A SANDBOX (cutbox-door.mjs). By AI agents, Wed Nov 11 2026. No macro, syntax, notation, axiom, sorry.
-/
import Derived.Test.YtbihlkienhbapabDoorRows
import GoSem.ClaimSeven
namespace Go.Proofs.YtbihlkienhbapabDoor
namespace Rows

/-- THE TIED CARD OF 'laws.FnJones'. -/
def fnJonesCard : Claim7 := { stood := { row := fnJonesRow, standIns := [], harness := (true, "bb7591183b8cc6fdc30f20cedf1b2394c3a835d0cdcdd23f52e11cb77bcfcfbb"), looks := true }, kinds := [], alts := [], laidByText := true, laidKinds := [.handle], laidTests := true, laidLooks := .later }
def FnJonesCardSaid : Prop := Claim7.holds Tryd.pinned (.plain (OpenSpec.ofChange fnJonesSpec)) fnJonesCard

/-- THE TIED CARD OF 'laws.FnJonesPower'. -/
def fnJonesPowerCard : Claim7 := { stood := { row := fnJonesPowerRow, standIns := [], harness := (true, "bb7591183b8cc6fdc30f20cedf1b2394c3a835d0cdcdd23f52e11cb77bcfcfbb"), looks := true }, kinds := [], alts := [], laidByText := true, laidKinds := [.handle], laidTests := true, laidLooks := .later }
def FnJonesPowerCardSaid : Prop := Claim7.holds Tryd.pinned (.plain (OpenSpec.ofChange fnJonesPowerSpec)) fnJonesPowerCard

/-- THE TIED CARD OF 'laws.FnInner'. -/
def fnInnerCard : Claim7 := { stood := { row := fnInnerRow, standIns := [], harness := (true, "bb7591183b8cc6fdc30f20cedf1b2394c3a835d0cdcdd23f52e11cb77bcfcfbb"), looks := true }, kinds := [], alts := [], laidByText := true, laidKinds := [.handle], laidTests := true, laidLooks := .later }
def FnInnerCardSaid : Prop := Claim7.holds Tryd.pinned (.plain (OpenSpec.ofChange fnInnerSpec)) fnInnerCard

/-- THE TIED CARD OF 'laws.FnJonesAdd'. -/
def fnJonesAddCard : Claim7 := { stood := { row := fnJonesAddRow, standIns := [], harness := (true, "bb7591183b8cc6fdc30f20cedf1b2394c3a835d0cdcdd23f52e11cb77bcfcfbb"), looks := true }, kinds := [], alts := [], laidByText := true, laidKinds := [.handle], laidTests := true, laidLooks := .later }
def FnJonesAddCardSaid : Prop := Claim7.holds Tryd.pinned (.plain (OpenSpec.ofChange fnJonesAddSpec)) fnJonesAddCard

/-- THE TIED CARD OF 'laws.FnJonesTimes'. -/
def fnJonesTimesCard : Claim7 := { stood := { row := fnJonesTimesRow, standIns := [], harness := (true, "bb7591183b8cc6fdc30f20cedf1b2394c3a835d0cdcdd23f52e11cb77bcfcfbb"), looks := true }, kinds := [], alts := [], laidByText := true, laidKinds := [.handle], laidTests := true, laidLooks := .later }
def FnJonesTimesCardSaid : Prop := Claim7.holds Tryd.pinned (.plain (OpenSpec.ofChange fnJonesTimesSpec)) fnJonesTimesCard

/-- THE TIED CARD OF 'laws.FnCross'. -/
def fnCrossCard : Claim7 := { stood := { row := fnCrossRow, standIns := [], harness := (true, "bb7591183b8cc6fdc30f20cedf1b2394c3a835d0cdcdd23f52e11cb77bcfcfbb"), looks := true }, kinds := [], alts := [], laidByText := true, laidKinds := [.handle], laidTests := true, laidLooks := .later }
def FnCrossCardSaid : Prop := Claim7.holds Tryd.pinned (.plain (OpenSpec.ofChange fnCrossSpec)) fnCrossCard

/-- THE TIED CARD OF 'laws.FnJonesWide'. -/
def fnJonesWideCard : Claim7 := { stood := { row := fnJonesWideRow, standIns := [], harness := (true, "bb7591183b8cc6fdc30f20cedf1b2394c3a835d0cdcdd23f52e11cb77bcfcfbb"), looks := true }, kinds := [], alts := [], laidByText := true, laidKinds := [.handle], laidTests := true, laidLooks := .later }
def FnJonesWideCardSaid : Prop := Claim7.holds Tryd.pinned (.plain (OpenSpec.ofChange fnJonesWideSpec)) fnJonesWideCard

/-- THE TIED CARD OF 'laws.FnFits'. -/
def fnFitsCard : Claim7 := { stood := { row := fnFitsRow, standIns := [], harness := (true, "bb7591183b8cc6fdc30f20cedf1b2394c3a835d0cdcdd23f52e11cb77bcfcfbb"), looks := true }, kinds := [], alts := [], laidByText := true, laidKinds := [.handle], laidTests := true, laidLooks := .later }
def FnFitsCardSaid : Prop := Claim7.holds Tryd.pinned (.plain (OpenSpec.ofChange fnFitsSpec)) fnFitsCard

/-- THE SECOND FORM's CARD OF 'laws.FnJones'. -/
def fnJonesUptoCard : Claim7 := { stood := { row := fnJonesUptoRow, standIns := [], harness := (true, "bb7591183b8cc6fdc30f20cedf1b2394c3a835d0cdcdd23f52e11cb77bcfcfbb"), looks := true }, kinds := [], alts := [], laidByText := true, laidKinds := [.handle], laidTests := true, laidLooks := .later }
def FnJonesUptoCardSaid : Prop := Claim7.holds Tryd.pinned (.plain (OpenSpec.upto fnJonesSpec)) fnJonesUptoCard

/-- THE SECOND FORM's CARD OF 'laws.FnJonesPower'. -/
def fnJonesPowerUptoCard : Claim7 := { stood := { row := fnJonesPowerUptoRow, standIns := [], harness := (true, "bb7591183b8cc6fdc30f20cedf1b2394c3a835d0cdcdd23f52e11cb77bcfcfbb"), looks := true }, kinds := [], alts := [], laidByText := true, laidKinds := [.handle], laidTests := true, laidLooks := .later }
def FnJonesPowerUptoCardSaid : Prop := Claim7.holds Tryd.pinned (.plain (OpenSpec.upto fnJonesPowerSpec)) fnJonesPowerUptoCard

/-- THE SECOND FORM's CARD OF 'laws.FnInner'. -/
def fnInnerUptoCard : Claim7 := { stood := { row := fnInnerUptoRow, standIns := [], harness := (true, "bb7591183b8cc6fdc30f20cedf1b2394c3a835d0cdcdd23f52e11cb77bcfcfbb"), looks := true }, kinds := [], alts := [], laidByText := true, laidKinds := [.handle], laidTests := true, laidLooks := .later }
def FnInnerUptoCardSaid : Prop := Claim7.holds Tryd.pinned (.plain (OpenSpec.upto fnInnerSpec)) fnInnerUptoCard

/-- THE SECOND FORM's CARD OF 'laws.FnJonesAdd'. -/
def fnJonesAddUptoCard : Claim7 := { stood := { row := fnJonesAddUptoRow, standIns := [], harness := (true, "bb7591183b8cc6fdc30f20cedf1b2394c3a835d0cdcdd23f52e11cb77bcfcfbb"), looks := true }, kinds := [], alts := [], laidByText := true, laidKinds := [.handle], laidTests := true, laidLooks := .later }
def FnJonesAddUptoCardSaid : Prop := Claim7.holds Tryd.pinned (.plain (OpenSpec.upto fnJonesAddSpec)) fnJonesAddUptoCard

/-- THE SECOND FORM's CARD OF 'laws.FnJonesTimes'. -/
def fnJonesTimesUptoCard : Claim7 := { stood := { row := fnJonesTimesUptoRow, standIns := [], harness := (true, "bb7591183b8cc6fdc30f20cedf1b2394c3a835d0cdcdd23f52e11cb77bcfcfbb"), looks := true }, kinds := [], alts := [], laidByText := true, laidKinds := [.handle], laidTests := true, laidLooks := .later }
def FnJonesTimesUptoCardSaid : Prop := Claim7.holds Tryd.pinned (.plain (OpenSpec.upto fnJonesTimesSpec)) fnJonesTimesUptoCard

/-- THE SECOND FORM's CARD OF 'laws.FnCross'. -/
def fnCrossUptoCard : Claim7 := { stood := { row := fnCrossUptoRow, standIns := [], harness := (true, "bb7591183b8cc6fdc30f20cedf1b2394c3a835d0cdcdd23f52e11cb77bcfcfbb"), looks := true }, kinds := [], alts := [], laidByText := true, laidKinds := [.handle], laidTests := true, laidLooks := .later }
def FnCrossUptoCardSaid : Prop := Claim7.holds Tryd.pinned (.plain (OpenSpec.upto fnCrossSpec)) fnCrossUptoCard

/-- THE SECOND FORM's CARD OF 'laws.FnJonesWide'. -/
def fnJonesWideUptoCard : Claim7 := { stood := { row := fnJonesWideUptoRow, standIns := [], harness := (true, "bb7591183b8cc6fdc30f20cedf1b2394c3a835d0cdcdd23f52e11cb77bcfcfbb"), looks := true }, kinds := [], alts := [], laidByText := true, laidKinds := [.handle], laidTests := true, laidLooks := .later }
def FnJonesWideUptoCardSaid : Prop := Claim7.holds Tryd.pinned (.plain (OpenSpec.upto fnJonesWideSpec)) fnJonesWideUptoCard

/-- THE SECOND FORM's CARD OF 'laws.FnFits'. -/
def fnFitsUptoCard : Claim7 := { stood := { row := fnFitsUptoRow, standIns := [], harness := (true, "bb7591183b8cc6fdc30f20cedf1b2394c3a835d0cdcdd23f52e11cb77bcfcfbb"), looks := true }, kinds := [], alts := [], laidByText := true, laidKinds := [.handle], laidTests := true, laidLooks := .later }
def FnFitsUptoCardSaid : Prop := Claim7.holds Tryd.pinned (.plain (OpenSpec.upto fnFitsSpec)) fnFitsUptoCard
end Rows
end Go.Proofs.YtbihlkienhbapabDoor
