/-
  DERIVED. GIVEN WITH THE SEED: THE CARDS: each row of YtedigdakgjaedaaDoorRows.lean that lists a variable, with what it lists TIED to the program's text (the seventh form; the later family's looks); each row that meets fmt, with fmt's text TOLD by the authors' own Lean function (tested against real Go, not proved from fmt's source: count such statements apart). THE CARD IS WHAT COUNTS. Prove the row's statement (the work); the ties are given (YtedigdakgjaedaaDoorTie.lean); close each card by the builder's one call (the guide's Derived/Test/ToyasCard.lean, 'card_holds'). Laid BY PROGRAM, IN A SANDBOX (cutbox-door.mjs). By AI agents, Wed Nov 11 2026. No macro, syntax, notation, axiom, sorry.
-/
import Derived.Test.YtedigdakgjaedaaDoorRows
import GoSem.ClaimSeven
namespace Go.Proofs.YtedigdakgjaedaaDoor
namespace Rows

/-- THE TIED CARD OF 'laws.FnExactStokesValid'. -/
def fnExactStokesValidCard : Claim7 := { stood := { row := fnExactStokesValidRow, standIns := [], harness := (true, "31cd221cb3bd64c3f1c376a43a22d9ab15fb05744b24bdeb34d36ab640364994"), looks := true }, kinds := [], alts := [], laidByText := true, laidKinds := [.handle], laidTests := true, laidLooks := .later }
def FnExactStokesValidCardSaid : Prop := Claim7.holds Tryd.pinned (.plain (OpenSpec.ofChange fnExactStokesValidSpec)) fnExactStokesValidCard

/-- THE TIED CARD OF 'laws.FnExactStokesSquares'. -/
def fnExactStokesSquaresCard : Claim7 := { stood := { row := fnExactStokesSquaresRow, standIns := [], harness := (true, "31cd221cb3bd64c3f1c376a43a22d9ab15fb05744b24bdeb34d36ab640364994"), looks := true }, kinds := [], alts := [], laidByText := true, laidKinds := [.handle], laidTests := true, laidLooks := .later }
def FnExactStokesSquaresCardSaid : Prop := Claim7.holds Tryd.pinned (.plain (OpenSpec.ofChange fnExactStokesSquaresSpec)) fnExactStokesSquaresCard

/-- THE TIED CARD OF 'laws.FnExactStokesLight'. -/
def fnExactStokesLightCard : Claim7 := { stood := { row := fnExactStokesLightRow, standIns := [], harness := (true, "31cd221cb3bd64c3f1c376a43a22d9ab15fb05744b24bdeb34d36ab640364994"), looks := true }, kinds := [], alts := [], laidByText := true, laidKinds := [.handle], laidTests := true, laidLooks := .later }
def FnExactStokesLightCardSaid : Prop := Claim7.holds Tryd.pinned (.plain (OpenSpec.ofChange fnExactStokesLightSpec)) fnExactStokesLightCard

/-- THE TIED CARD OF 'laws.FnExactStokesPure'. -/
def fnExactStokesPureCard : Claim7 := { stood := { row := fnExactStokesPureRow, standIns := [], harness := (true, "31cd221cb3bd64c3f1c376a43a22d9ab15fb05744b24bdeb34d36ab640364994"), looks := true }, kinds := [], alts := [], laidByText := true, laidKinds := [.handle], laidTests := true, laidLooks := .later }
def FnExactStokesPureCardSaid : Prop := Claim7.holds Tryd.pinned (.plain (OpenSpec.ofChange fnExactStokesPureSpec)) fnExactStokesPureCard

/-- THE TIED CARD OF 'laws.FnExactStokesOf'. -/
def fnExactStokesOfCard : Claim7 := { stood := { row := fnExactStokesOfRow, standIns := [], harness := (true, "31cd221cb3bd64c3f1c376a43a22d9ab15fb05744b24bdeb34d36ab640364994"), looks := true }, kinds := [], alts := [], laidByText := true, laidKinds := [.handle], laidTests := true, laidLooks := .later }
def FnExactStokesOfCardSaid : Prop := Claim7.holds Tryd.pinned (.plain (OpenSpec.ofChange fnExactStokesOfSpec)) fnExactStokesOfCard

/-- THE TIED CARD OF 'laws.FnExactStokesAdd'. -/
def fnExactStokesAddCard : Claim7 := { stood := { row := fnExactStokesAddRow, standIns := [], harness := (true, "31cd221cb3bd64c3f1c376a43a22d9ab15fb05744b24bdeb34d36ab640364994"), looks := true }, kinds := [], alts := [], laidByText := true, laidKinds := [.handle], laidTests := true, laidLooks := .later }
def FnExactStokesAddCardSaid : Prop := Claim7.holds Tryd.pinned (.plain (OpenSpec.ofChange fnExactStokesAddSpec)) fnExactStokesAddCard

/-- THE TIED CARD OF 'laws.FnExactStokesTimes'. -/
def fnExactStokesTimesCard : Claim7 := { stood := { row := fnExactStokesTimesRow, standIns := [], harness := (true, "31cd221cb3bd64c3f1c376a43a22d9ab15fb05744b24bdeb34d36ab640364994"), looks := true }, kinds := [], alts := [], laidByText := true, laidKinds := [.handle], laidTests := true, laidLooks := .later }
def FnExactStokesTimesCardSaid : Prop := Claim7.holds Tryd.pinned (.plain (OpenSpec.ofChange fnExactStokesTimesSpec)) fnExactStokesTimesCard

/-- THE TIED CARD OF 'laws.FnExactStokesVector'. -/
def fnExactStokesVectorCard : Claim7 := { stood := { row := fnExactStokesVectorRow, standIns := [], harness := (true, "31cd221cb3bd64c3f1c376a43a22d9ab15fb05744b24bdeb34d36ab640364994"), looks := true }, kinds := [], alts := [], laidByText := true, laidKinds := [.handle], laidTests := true, laidLooks := .later }
def FnExactStokesVectorCardSaid : Prop := Claim7.holds Tryd.pinned (.plain (OpenSpec.ofChange fnExactStokesVectorSpec)) fnExactStokesVectorCard

/-- THE TIED CARD OF 'laws.FnExactStokesAlike'. -/
def fnExactStokesAlikeCard : Claim7 := { stood := { row := fnExactStokesAlikeRow, standIns := [], harness := (true, "31cd221cb3bd64c3f1c376a43a22d9ab15fb05744b24bdeb34d36ab640364994"), looks := true }, kinds := [], alts := [], laidByText := true, laidKinds := [.handle], laidTests := true, laidLooks := .later }
def FnExactStokesAlikeCardSaid : Prop := Claim7.holds Tryd.pinned (.plain (OpenSpec.ofChange fnExactStokesAlikeSpec)) fnExactStokesAlikeCard

/-- THE TIED CARD OF 'laws.FnExactStokesMirror'. -/
def fnExactStokesMirrorCard : Claim7 := { stood := { row := fnExactStokesMirrorRow, standIns := [], harness := (true, "31cd221cb3bd64c3f1c376a43a22d9ab15fb05744b24bdeb34d36ab640364994"), looks := true }, kinds := [], alts := [], laidByText := true, laidKinds := [.handle], laidTests := true, laidLooks := .later }
def FnExactStokesMirrorCardSaid : Prop := Claim7.holds Tryd.pinned (.plain (OpenSpec.ofChange fnExactStokesMirrorSpec)) fnExactStokesMirrorCard

/-- THE TIED CARD OF 'laws.FnExactJonesPower'. -/
def fnExactJonesPowerCard : Claim7 := { stood := { row := fnExactJonesPowerRow, standIns := [], harness := (true, "31cd221cb3bd64c3f1c376a43a22d9ab15fb05744b24bdeb34d36ab640364994"), looks := true }, kinds := [], alts := [], laidByText := true, laidKinds := [.handle], laidTests := true, laidLooks := .later }
def FnExactJonesPowerCardSaid : Prop := Claim7.holds Tryd.pinned (.plain (OpenSpec.ofChange fnExactJonesPowerSpec)) fnExactJonesPowerCard

/-- THE TIED CARD OF 'laws.FnExactJonesAlike'. -/
def fnExactJonesAlikeCard : Claim7 := { stood := { row := fnExactJonesAlikeRow, standIns := [], harness := (true, "31cd221cb3bd64c3f1c376a43a22d9ab15fb05744b24bdeb34d36ab640364994"), looks := true }, kinds := [], alts := [], laidByText := true, laidKinds := [.handle], laidTests := true, laidLooks := .later }
def FnExactJonesAlikeCardSaid : Prop := Claim7.holds Tryd.pinned (.plain (OpenSpec.ofChange fnExactJonesAlikeSpec)) fnExactJonesAlikeCard

/-- THE SECOND FORM's CARD OF 'laws.FnExactStokesValid'. -/
def fnExactStokesValidUptoCard : Claim7 := { stood := { row := fnExactStokesValidUptoRow, standIns := [], harness := (true, "31cd221cb3bd64c3f1c376a43a22d9ab15fb05744b24bdeb34d36ab640364994"), looks := true }, kinds := [], alts := [], laidByText := true, laidKinds := [.handle], laidTests := true, laidLooks := .later }
def FnExactStokesValidUptoCardSaid : Prop := Claim7.holds Tryd.pinned (.plain (OpenSpec.upto fnExactStokesValidSpec)) fnExactStokesValidUptoCard

/-- THE SECOND FORM's CARD OF 'laws.FnExactStokesSquares'. -/
def fnExactStokesSquaresUptoCard : Claim7 := { stood := { row := fnExactStokesSquaresUptoRow, standIns := [], harness := (true, "31cd221cb3bd64c3f1c376a43a22d9ab15fb05744b24bdeb34d36ab640364994"), looks := true }, kinds := [], alts := [], laidByText := true, laidKinds := [.handle], laidTests := true, laidLooks := .later }
def FnExactStokesSquaresUptoCardSaid : Prop := Claim7.holds Tryd.pinned (.plain (OpenSpec.upto fnExactStokesSquaresSpec)) fnExactStokesSquaresUptoCard

/-- THE SECOND FORM's CARD OF 'laws.FnExactStokesLight'. -/
def fnExactStokesLightUptoCard : Claim7 := { stood := { row := fnExactStokesLightUptoRow, standIns := [], harness := (true, "31cd221cb3bd64c3f1c376a43a22d9ab15fb05744b24bdeb34d36ab640364994"), looks := true }, kinds := [], alts := [], laidByText := true, laidKinds := [.handle], laidTests := true, laidLooks := .later }
def FnExactStokesLightUptoCardSaid : Prop := Claim7.holds Tryd.pinned (.plain (OpenSpec.upto fnExactStokesLightSpec)) fnExactStokesLightUptoCard

/-- THE SECOND FORM's CARD OF 'laws.FnExactStokesPure'. -/
def fnExactStokesPureUptoCard : Claim7 := { stood := { row := fnExactStokesPureUptoRow, standIns := [], harness := (true, "31cd221cb3bd64c3f1c376a43a22d9ab15fb05744b24bdeb34d36ab640364994"), looks := true }, kinds := [], alts := [], laidByText := true, laidKinds := [.handle], laidTests := true, laidLooks := .later }
def FnExactStokesPureUptoCardSaid : Prop := Claim7.holds Tryd.pinned (.plain (OpenSpec.upto fnExactStokesPureSpec)) fnExactStokesPureUptoCard

/-- THE SECOND FORM's CARD OF 'laws.FnExactStokesOf'. -/
def fnExactStokesOfUptoCard : Claim7 := { stood := { row := fnExactStokesOfUptoRow, standIns := [], harness := (true, "31cd221cb3bd64c3f1c376a43a22d9ab15fb05744b24bdeb34d36ab640364994"), looks := true }, kinds := [], alts := [], laidByText := true, laidKinds := [.handle], laidTests := true, laidLooks := .later }
def FnExactStokesOfUptoCardSaid : Prop := Claim7.holds Tryd.pinned (.plain (OpenSpec.upto fnExactStokesOfSpec)) fnExactStokesOfUptoCard

/-- THE SECOND FORM's CARD OF 'laws.FnExactStokesAdd'. -/
def fnExactStokesAddUptoCard : Claim7 := { stood := { row := fnExactStokesAddUptoRow, standIns := [], harness := (true, "31cd221cb3bd64c3f1c376a43a22d9ab15fb05744b24bdeb34d36ab640364994"), looks := true }, kinds := [], alts := [], laidByText := true, laidKinds := [.handle], laidTests := true, laidLooks := .later }
def FnExactStokesAddUptoCardSaid : Prop := Claim7.holds Tryd.pinned (.plain (OpenSpec.upto fnExactStokesAddSpec)) fnExactStokesAddUptoCard

/-- THE SECOND FORM's CARD OF 'laws.FnExactStokesTimes'. -/
def fnExactStokesTimesUptoCard : Claim7 := { stood := { row := fnExactStokesTimesUptoRow, standIns := [], harness := (true, "31cd221cb3bd64c3f1c376a43a22d9ab15fb05744b24bdeb34d36ab640364994"), looks := true }, kinds := [], alts := [], laidByText := true, laidKinds := [.handle], laidTests := true, laidLooks := .later }
def FnExactStokesTimesUptoCardSaid : Prop := Claim7.holds Tryd.pinned (.plain (OpenSpec.upto fnExactStokesTimesSpec)) fnExactStokesTimesUptoCard

/-- THE SECOND FORM's CARD OF 'laws.FnExactStokesVector'. -/
def fnExactStokesVectorUptoCard : Claim7 := { stood := { row := fnExactStokesVectorUptoRow, standIns := [], harness := (true, "31cd221cb3bd64c3f1c376a43a22d9ab15fb05744b24bdeb34d36ab640364994"), looks := true }, kinds := [], alts := [], laidByText := true, laidKinds := [.handle], laidTests := true, laidLooks := .later }
def FnExactStokesVectorUptoCardSaid : Prop := Claim7.holds Tryd.pinned (.plain (OpenSpec.upto fnExactStokesVectorSpec)) fnExactStokesVectorUptoCard

/-- THE SECOND FORM's CARD OF 'laws.FnExactStokesAlike'. -/
def fnExactStokesAlikeUptoCard : Claim7 := { stood := { row := fnExactStokesAlikeUptoRow, standIns := [], harness := (true, "31cd221cb3bd64c3f1c376a43a22d9ab15fb05744b24bdeb34d36ab640364994"), looks := true }, kinds := [], alts := [], laidByText := true, laidKinds := [.handle], laidTests := true, laidLooks := .later }
def FnExactStokesAlikeUptoCardSaid : Prop := Claim7.holds Tryd.pinned (.plain (OpenSpec.upto fnExactStokesAlikeSpec)) fnExactStokesAlikeUptoCard

/-- THE SECOND FORM's CARD OF 'laws.FnExactStokesMirror'. -/
def fnExactStokesMirrorUptoCard : Claim7 := { stood := { row := fnExactStokesMirrorUptoRow, standIns := [], harness := (true, "31cd221cb3bd64c3f1c376a43a22d9ab15fb05744b24bdeb34d36ab640364994"), looks := true }, kinds := [], alts := [], laidByText := true, laidKinds := [.handle], laidTests := true, laidLooks := .later }
def FnExactStokesMirrorUptoCardSaid : Prop := Claim7.holds Tryd.pinned (.plain (OpenSpec.upto fnExactStokesMirrorSpec)) fnExactStokesMirrorUptoCard

/-- THE SECOND FORM's CARD OF 'laws.FnExactJonesPower'. -/
def fnExactJonesPowerUptoCard : Claim7 := { stood := { row := fnExactJonesPowerUptoRow, standIns := [], harness := (true, "31cd221cb3bd64c3f1c376a43a22d9ab15fb05744b24bdeb34d36ab640364994"), looks := true }, kinds := [], alts := [], laidByText := true, laidKinds := [.handle], laidTests := true, laidLooks := .later }
def FnExactJonesPowerUptoCardSaid : Prop := Claim7.holds Tryd.pinned (.plain (OpenSpec.upto fnExactJonesPowerSpec)) fnExactJonesPowerUptoCard

/-- THE SECOND FORM's CARD OF 'laws.FnExactJonesAlike'. -/
def fnExactJonesAlikeUptoCard : Claim7 := { stood := { row := fnExactJonesAlikeUptoRow, standIns := [], harness := (true, "31cd221cb3bd64c3f1c376a43a22d9ab15fb05744b24bdeb34d36ab640364994"), looks := true }, kinds := [], alts := [], laidByText := true, laidKinds := [.handle], laidTests := true, laidLooks := .later }
def FnExactJonesAlikeUptoCardSaid : Prop := Claim7.holds Tryd.pinned (.plain (OpenSpec.upto fnExactJonesAlikeSpec)) fnExactJonesAlikeUptoCard
end Rows
end Go.Proofs.YtedigdakgjaedaaDoor
