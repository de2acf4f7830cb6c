/-
  DERIVED. GIVEN WITH THE SEED: THE CARDS: each row of YtedigdakgjaedabDoorRows.lean that lists a variable, with what it lists TIED to the program's text (the seventh form; the later family's looks); each row that meets fmt, with fmt's text TOLD by the authors' own Lean function (tested against real Go, not proved from fmt's source: count such statements apart). THE CARD IS WHAT COUNTS. Prove the row's statement (the work); the ties are given (YtedigdakgjaedabDoorTie.lean); close each card by the builder's one call (the guide's Derived/Test/ToyasCard.lean, 'card_holds'). Laid BY PROGRAM, IN A SANDBOX (cutbox-door.mjs). By AI agents, Wed Nov 11 2026. No macro, syntax, notation, axiom, sorry.
-/
import Derived.Test.YtedigdakgjaedabDoorRows
import GoSem.ClaimSeven
namespace Go.Proofs.YtedigdakgjaedabDoor
namespace Rows

/-- THE TIED CARD OF 'laws.FnJonesAlike'. -/
def fnJonesAlikeCard : Claim7 := { stood := { row := fnJonesAlikeRow, standIns := [], harness := (true, "e151a98343ad5f774daf910833fecf119feca4149624959d1fdbca7fdc04919f"), looks := true }, kinds := [], alts := [], laidByText := true, laidKinds := [.handle], laidTests := true, laidLooks := .later }
def FnJonesAlikeCardSaid : Prop := Claim7.holds Tryd.pinned (.plain (OpenSpec.ofChange fnJonesAlikeSpec)) fnJonesAlikeCard

/-- THE TIED CARD OF 'laws.FnJonesMirror'. -/
def fnJonesMirrorCard : Claim7 := { stood := { row := fnJonesMirrorRow, standIns := [], harness := (true, "e151a98343ad5f774daf910833fecf119feca4149624959d1fdbca7fdc04919f"), looks := true }, kinds := [], alts := [], laidByText := true, laidKinds := [.handle], laidTests := true, laidLooks := .later }
def FnJonesMirrorCardSaid : Prop := Claim7.holds Tryd.pinned (.plain (OpenSpec.ofChange fnJonesMirrorSpec)) fnJonesMirrorCard

/-- THE TIED CARD OF 'laws.FnStokes'. -/
def fnStokesCard : Claim7 := { stood := { row := fnStokesRow, standIns := [], harness := (true, "e151a98343ad5f774daf910833fecf119feca4149624959d1fdbca7fdc04919f"), looks := true }, kinds := [], alts := [], laidByText := true, laidKinds := [.handle], laidTests := true, laidLooks := .later }
def FnStokesCardSaid : Prop := Claim7.holds Tryd.pinned (.plain (OpenSpec.ofChange fnStokesSpec)) fnStokesCard

/-- THE TIED CARD OF 'laws.FnLight'. -/
def fnLightCard : Claim7 := { stood := { row := fnLightRow, standIns := [], harness := (true, "e151a98343ad5f774daf910833fecf119feca4149624959d1fdbca7fdc04919f"), looks := true }, kinds := [], alts := [], laidByText := true, laidKinds := [.handle], laidTests := true, laidLooks := .later }
def FnLightCardSaid : Prop := Claim7.holds Tryd.pinned (.plain (OpenSpec.ofChange fnLightSpec)) fnLightCard

/-- THE TIED CARD OF 'laws.FnStokesOf'. -/
def fnStokesOfCard : Claim7 := { stood := { row := fnStokesOfRow, standIns := [], harness := (true, "e151a98343ad5f774daf910833fecf119feca4149624959d1fdbca7fdc04919f"), looks := true }, kinds := [], alts := [], laidByText := true, laidKinds := [.handle], laidTests := true, laidLooks := .later }
def FnStokesOfCardSaid : Prop := Claim7.holds Tryd.pinned (.plain (OpenSpec.ofChange fnStokesOfSpec)) fnStokesOfCard

/-- THE TIED CARD OF 'laws.FnStokesAdd'. -/
def fnStokesAddCard : Claim7 := { stood := { row := fnStokesAddRow, standIns := [], harness := (true, "e151a98343ad5f774daf910833fecf119feca4149624959d1fdbca7fdc04919f"), looks := true }, kinds := [], alts := [], laidByText := true, laidKinds := [.handle], laidTests := true, laidLooks := .later }
def FnStokesAddCardSaid : Prop := Claim7.holds Tryd.pinned (.plain (OpenSpec.ofChange fnStokesAddSpec)) fnStokesAddCard

/-- THE TIED CARD OF 'laws.FnStokesTimes'. -/
def fnStokesTimesCard : Claim7 := { stood := { row := fnStokesTimesRow, standIns := [], harness := (true, "e151a98343ad5f774daf910833fecf119feca4149624959d1fdbca7fdc04919f"), looks := true }, kinds := [], alts := [], laidByText := true, laidKinds := [.handle], laidTests := true, laidLooks := .later }
def FnStokesTimesCardSaid : Prop := Claim7.holds Tryd.pinned (.plain (OpenSpec.ofChange fnStokesTimesSpec)) fnStokesTimesCard

/-- THE TIED CARD OF 'laws.FnSquares'. -/
def fnSquaresCard : Claim7 := { stood := { row := fnSquaresRow, standIns := [], harness := (true, "e151a98343ad5f774daf910833fecf119feca4149624959d1fdbca7fdc04919f"), looks := true }, kinds := [], alts := [], laidByText := true, laidKinds := [.handle], laidTests := true, laidLooks := .later }
def FnSquaresCardSaid : Prop := Claim7.holds Tryd.pinned (.plain (OpenSpec.ofChange fnSquaresSpec)) fnSquaresCard

/-- THE TIED CARD OF 'laws.FnVector'. -/
def fnVectorCard : Claim7 := { stood := { row := fnVectorRow, standIns := [], harness := (true, "e151a98343ad5f774daf910833fecf119feca4149624959d1fdbca7fdc04919f"), looks := true }, kinds := [], alts := [], laidByText := true, laidKinds := [.handle], laidTests := true, laidLooks := .later }
def FnVectorCardSaid : Prop := Claim7.holds Tryd.pinned (.plain (OpenSpec.ofChange fnVectorSpec)) fnVectorCard

/-- THE TIED CARD OF 'laws.FnStokesAlike'. -/
def fnStokesAlikeCard : Claim7 := { stood := { row := fnStokesAlikeRow, standIns := [], harness := (true, "e151a98343ad5f774daf910833fecf119feca4149624959d1fdbca7fdc04919f"), looks := true }, kinds := [], alts := [], laidByText := true, laidKinds := [.handle], laidTests := true, laidLooks := .later }
def FnStokesAlikeCardSaid : Prop := Claim7.holds Tryd.pinned (.plain (OpenSpec.ofChange fnStokesAlikeSpec)) fnStokesAlikeCard

/-- THE TIED CARD OF 'laws.FnStokesMirror'. -/
def fnStokesMirrorCard : Claim7 := { stood := { row := fnStokesMirrorRow, standIns := [], harness := (true, "e151a98343ad5f774daf910833fecf119feca4149624959d1fdbca7fdc04919f"), looks := true }, kinds := [], alts := [], laidByText := true, laidKinds := [.handle], laidTests := true, laidLooks := .later }
def FnStokesMirrorCardSaid : Prop := Claim7.holds Tryd.pinned (.plain (OpenSpec.ofChange fnStokesMirrorSpec)) fnStokesMirrorCard

/-- THE SECOND FORM's CARD OF 'laws.FnJonesAlike'. -/
def fnJonesAlikeUptoCard : Claim7 := { stood := { row := fnJonesAlikeUptoRow, standIns := [], harness := (true, "e151a98343ad5f774daf910833fecf119feca4149624959d1fdbca7fdc04919f"), looks := true }, kinds := [], alts := [], laidByText := true, laidKinds := [.handle], laidTests := true, laidLooks := .later }
def FnJonesAlikeUptoCardSaid : Prop := Claim7.holds Tryd.pinned (.plain (OpenSpec.upto fnJonesAlikeSpec)) fnJonesAlikeUptoCard

/-- THE SECOND FORM's CARD OF 'laws.FnJonesMirror'. -/
def fnJonesMirrorUptoCard : Claim7 := { stood := { row := fnJonesMirrorUptoRow, standIns := [], harness := (true, "e151a98343ad5f774daf910833fecf119feca4149624959d1fdbca7fdc04919f"), looks := true }, kinds := [], alts := [], laidByText := true, laidKinds := [.handle], laidTests := true, laidLooks := .later }
def FnJonesMirrorUptoCardSaid : Prop := Claim7.holds Tryd.pinned (.plain (OpenSpec.upto fnJonesMirrorSpec)) fnJonesMirrorUptoCard

/-- THE SECOND FORM's CARD OF 'laws.FnStokes'. -/
def fnStokesUptoCard : Claim7 := { stood := { row := fnStokesUptoRow, standIns := [], harness := (true, "e151a98343ad5f774daf910833fecf119feca4149624959d1fdbca7fdc04919f"), looks := true }, kinds := [], alts := [], laidByText := true, laidKinds := [.handle], laidTests := true, laidLooks := .later }
def FnStokesUptoCardSaid : Prop := Claim7.holds Tryd.pinned (.plain (OpenSpec.upto fnStokesSpec)) fnStokesUptoCard

/-- THE SECOND FORM's CARD OF 'laws.FnLight'. -/
def fnLightUptoCard : Claim7 := { stood := { row := fnLightUptoRow, standIns := [], harness := (true, "e151a98343ad5f774daf910833fecf119feca4149624959d1fdbca7fdc04919f"), looks := true }, kinds := [], alts := [], laidByText := true, laidKinds := [.handle], laidTests := true, laidLooks := .later }
def FnLightUptoCardSaid : Prop := Claim7.holds Tryd.pinned (.plain (OpenSpec.upto fnLightSpec)) fnLightUptoCard

/-- THE SECOND FORM's CARD OF 'laws.FnStokesOf'. -/
def fnStokesOfUptoCard : Claim7 := { stood := { row := fnStokesOfUptoRow, standIns := [], harness := (true, "e151a98343ad5f774daf910833fecf119feca4149624959d1fdbca7fdc04919f"), looks := true }, kinds := [], alts := [], laidByText := true, laidKinds := [.handle], laidTests := true, laidLooks := .later }
def FnStokesOfUptoCardSaid : Prop := Claim7.holds Tryd.pinned (.plain (OpenSpec.upto fnStokesOfSpec)) fnStokesOfUptoCard

/-- THE SECOND FORM's CARD OF 'laws.FnStokesAdd'. -/
def fnStokesAddUptoCard : Claim7 := { stood := { row := fnStokesAddUptoRow, standIns := [], harness := (true, "e151a98343ad5f774daf910833fecf119feca4149624959d1fdbca7fdc04919f"), looks := true }, kinds := [], alts := [], laidByText := true, laidKinds := [.handle], laidTests := true, laidLooks := .later }
def FnStokesAddUptoCardSaid : Prop := Claim7.holds Tryd.pinned (.plain (OpenSpec.upto fnStokesAddSpec)) fnStokesAddUptoCard

/-- THE SECOND FORM's CARD OF 'laws.FnStokesTimes'. -/
def fnStokesTimesUptoCard : Claim7 := { stood := { row := fnStokesTimesUptoRow, standIns := [], harness := (true, "e151a98343ad5f774daf910833fecf119feca4149624959d1fdbca7fdc04919f"), looks := true }, kinds := [], alts := [], laidByText := true, laidKinds := [.handle], laidTests := true, laidLooks := .later }
def FnStokesTimesUptoCardSaid : Prop := Claim7.holds Tryd.pinned (.plain (OpenSpec.upto fnStokesTimesSpec)) fnStokesTimesUptoCard

/-- THE SECOND FORM's CARD OF 'laws.FnSquares'. -/
def fnSquaresUptoCard : Claim7 := { stood := { row := fnSquaresUptoRow, standIns := [], harness := (true, "e151a98343ad5f774daf910833fecf119feca4149624959d1fdbca7fdc04919f"), looks := true }, kinds := [], alts := [], laidByText := true, laidKinds := [.handle], laidTests := true, laidLooks := .later }
def FnSquaresUptoCardSaid : Prop := Claim7.holds Tryd.pinned (.plain (OpenSpec.upto fnSquaresSpec)) fnSquaresUptoCard

/-- THE SECOND FORM's CARD OF 'laws.FnVector'. -/
def fnVectorUptoCard : Claim7 := { stood := { row := fnVectorUptoRow, standIns := [], harness := (true, "e151a98343ad5f774daf910833fecf119feca4149624959d1fdbca7fdc04919f"), looks := true }, kinds := [], alts := [], laidByText := true, laidKinds := [.handle], laidTests := true, laidLooks := .later }
def FnVectorUptoCardSaid : Prop := Claim7.holds Tryd.pinned (.plain (OpenSpec.upto fnVectorSpec)) fnVectorUptoCard

/-- THE SECOND FORM's CARD OF 'laws.FnStokesAlike'. -/
def fnStokesAlikeUptoCard : Claim7 := { stood := { row := fnStokesAlikeUptoRow, standIns := [], harness := (true, "e151a98343ad5f774daf910833fecf119feca4149624959d1fdbca7fdc04919f"), looks := true }, kinds := [], alts := [], laidByText := true, laidKinds := [.handle], laidTests := true, laidLooks := .later }
def FnStokesAlikeUptoCardSaid : Prop := Claim7.holds Tryd.pinned (.plain (OpenSpec.upto fnStokesAlikeSpec)) fnStokesAlikeUptoCard

/-- THE SECOND FORM's CARD OF 'laws.FnStokesMirror'. -/
def fnStokesMirrorUptoCard : Claim7 := { stood := { row := fnStokesMirrorUptoRow, standIns := [], harness := (true, "e151a98343ad5f774daf910833fecf119feca4149624959d1fdbca7fdc04919f"), looks := true }, kinds := [], alts := [], laidByText := true, laidKinds := [.handle], laidTests := true, laidLooks := .later }
def FnStokesMirrorUptoCardSaid : Prop := Claim7.holds Tryd.pinned (.plain (OpenSpec.upto fnStokesMirrorSpec)) fnStokesMirrorUptoCard
end Rows
end Go.Proofs.YtedigdakgjaedabDoor
