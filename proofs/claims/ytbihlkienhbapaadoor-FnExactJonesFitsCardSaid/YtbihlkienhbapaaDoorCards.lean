/-
  DERIVED. GIVEN WITH THE SEED: THE CARDS: each row of YtbihlkienhbapaaDoorRows.lean that lists a variable, with what it lists TIED to the program's text (the seventh form; the later family's looks); each row that meets fmt, with fmt's text TOLD by the authors' own Lean function (tested against real Go, not proved from fmt's source: count such statements apart). THE CARD IS WHAT COUNTS. Prove the row's statement (the work); the ties are given (YtbihlkienhbapaaDoorTie.lean); close each card by the builder's one call (the guide's Derived/Test/ToyasCard.lean, 'card_holds'). Laid BY PROGRAM, IN A SANDBOX (cutbox-door.mjs). By AI agents, Wed Nov 11 2026. No macro, syntax, notation, axiom, sorry.
-/
import Derived.Test.YtbihlkienhbapaaDoorRows
import GoSem.ClaimSeven
namespace Go.Proofs.YtbihlkienhbapaaDoor
namespace Rows

/-- THE TIED CARD OF 'laws.FnExactJonesValid'. -/
def fnExactJonesValidCard : Claim7 := { stood := { row := fnExactJonesValidRow, standIns := [], harness := (true, "13d82c53e1814180a46c8af55596faae13f81ed36010c3e032eb8ac7cb856405"), looks := true }, kinds := [], alts := [], laidByText := true, laidKinds := [.handle], laidTests := true, laidLooks := .later }
def FnExactJonesValidCardSaid : Prop := Claim7.holds Tryd.pinned (.plain (OpenSpec.ofChange fnExactJonesValidSpec)) fnExactJonesValidCard

/-- THE TIED CARD OF 'laws.FnExactJonesPower'. -/
def fnExactJonesPowerCard : Claim7 := { stood := { row := fnExactJonesPowerRow, standIns := [], harness := (true, "13d82c53e1814180a46c8af55596faae13f81ed36010c3e032eb8ac7cb856405"), looks := true }, kinds := [], alts := [], laidByText := true, laidKinds := [.handle], laidTests := true, laidLooks := .later }
def FnExactJonesPowerCardSaid : Prop := Claim7.holds Tryd.pinned (.plain (OpenSpec.ofChange fnExactJonesPowerSpec)) fnExactJonesPowerCard

/-- THE TIED CARD OF 'laws.FnExactJonesInner'. -/
def fnExactJonesInnerCard : Claim7 := { stood := { row := fnExactJonesInnerRow, standIns := [], harness := (true, "13d82c53e1814180a46c8af55596faae13f81ed36010c3e032eb8ac7cb856405"), looks := true }, kinds := [], alts := [], laidByText := true, laidKinds := [.handle], laidTests := true, laidLooks := .later }
def FnExactJonesInnerCardSaid : Prop := Claim7.holds Tryd.pinned (.plain (OpenSpec.ofChange fnExactJonesInnerSpec)) fnExactJonesInnerCard

/-- THE TIED CARD OF 'laws.FnExactJonesAdd'. -/
def fnExactJonesAddCard : Claim7 := { stood := { row := fnExactJonesAddRow, standIns := [], harness := (true, "13d82c53e1814180a46c8af55596faae13f81ed36010c3e032eb8ac7cb856405"), looks := true }, kinds := [], alts := [], laidByText := true, laidKinds := [.handle], laidTests := true, laidLooks := .later }
def FnExactJonesAddCardSaid : Prop := Claim7.holds Tryd.pinned (.plain (OpenSpec.ofChange fnExactJonesAddSpec)) fnExactJonesAddCard

/-- THE TIED CARD OF 'laws.FnExactJonesTimes'. -/
def fnExactJonesTimesCard : Claim7 := { stood := { row := fnExactJonesTimesRow, standIns := [], harness := (true, "13d82c53e1814180a46c8af55596faae13f81ed36010c3e032eb8ac7cb856405"), looks := true }, kinds := [], alts := [], laidByText := true, laidKinds := [.handle], laidTests := true, laidLooks := .later }
def FnExactJonesTimesCardSaid : Prop := Claim7.holds Tryd.pinned (.plain (OpenSpec.ofChange fnExactJonesTimesSpec)) fnExactJonesTimesCard

/-- THE TIED CARD OF 'laws.FnExactJonesAlike'. -/
def fnExactJonesAlikeCard : Claim7 := { stood := { row := fnExactJonesAlikeRow, standIns := [], harness := (true, "13d82c53e1814180a46c8af55596faae13f81ed36010c3e032eb8ac7cb856405"), looks := true }, kinds := [], alts := [], laidByText := true, laidKinds := [.handle], laidTests := true, laidLooks := .later }
def FnExactJonesAlikeCardSaid : Prop := Claim7.holds Tryd.pinned (.plain (OpenSpec.ofChange fnExactJonesAlikeSpec)) fnExactJonesAlikeCard

/-- THE TIED CARD OF 'laws.FnExactJonesCross'. -/
def fnExactJonesCrossCard : Claim7 := { stood := { row := fnExactJonesCrossRow, standIns := [], harness := (true, "13d82c53e1814180a46c8af55596faae13f81ed36010c3e032eb8ac7cb856405"), looks := true }, kinds := [], alts := [], laidByText := true, laidKinds := [.handle], laidTests := true, laidLooks := .later }
def FnExactJonesCrossCardSaid : Prop := Claim7.holds Tryd.pinned (.plain (OpenSpec.ofChange fnExactJonesCrossSpec)) fnExactJonesCrossCard

/-- THE TIED CARD OF 'laws.FnExactJonesMirror'. -/
def fnExactJonesMirrorCard : Claim7 := { stood := { row := fnExactJonesMirrorRow, standIns := [], harness := (true, "13d82c53e1814180a46c8af55596faae13f81ed36010c3e032eb8ac7cb856405"), looks := true }, kinds := [], alts := [], laidByText := true, laidKinds := [.handle], laidTests := true, laidLooks := .later }
def FnExactJonesMirrorCardSaid : Prop := Claim7.holds Tryd.pinned (.plain (OpenSpec.ofChange fnExactJonesMirrorSpec)) fnExactJonesMirrorCard

/-- THE TIED CARD OF 'laws.FnExactJonesWide'. -/
def fnExactJonesWideCard : Claim7 := { stood := { row := fnExactJonesWideRow, standIns := [], harness := (true, "13d82c53e1814180a46c8af55596faae13f81ed36010c3e032eb8ac7cb856405"), looks := true }, kinds := [], alts := [], laidByText := true, laidKinds := [.handle], laidTests := true, laidLooks := .later }
def FnExactJonesWideCardSaid : Prop := Claim7.holds Tryd.pinned (.plain (OpenSpec.ofChange fnExactJonesWideSpec)) fnExactJonesWideCard

/-- THE TIED CARD OF 'laws.FnExactJonesFits'. -/
def fnExactJonesFitsCard : Claim7 := { stood := { row := fnExactJonesFitsRow, standIns := [], harness := (true, "13d82c53e1814180a46c8af55596faae13f81ed36010c3e032eb8ac7cb856405"), looks := true }, kinds := [], alts := [], laidByText := true, laidKinds := [.handle], laidTests := true, laidLooks := .later }
def FnExactJonesFitsCardSaid : Prop := Claim7.holds Tryd.pinned (.plain (OpenSpec.ofChange fnExactJonesFitsSpec)) fnExactJonesFitsCard

/-- THE TIED CARD OF 'laws.FnExactFracSingle'. -/
def fnExactFracSingleCard : Claim7 := { stood := { row := fnExactFracSingleRow, standIns := [], harness := (true, "13d82c53e1814180a46c8af55596faae13f81ed36010c3e032eb8ac7cb856405"), looks := true }, kinds := [], alts := [], laidByText := true, laidKinds := [.handle], laidTests := true, laidLooks := .later }
def FnExactFracSingleCardSaid : Prop := Claim7.holds Tryd.pinned (.plain (OpenSpec.ofChange fnExactFracSingleSpec)) fnExactFracSingleCard

/-- THE TIED CARD OF 'laws.FnSingle'. -/
def fnSingleCard : Claim7 := { stood := { row := fnSingleRow, standIns := [], harness := (true, "13d82c53e1814180a46c8af55596faae13f81ed36010c3e032eb8ac7cb856405"), looks := true }, kinds := [], alts := [], laidByText := true, laidKinds := [.handle], laidTests := true, laidLooks := .later }
def FnSingleCardSaid : Prop := Claim7.holds Tryd.pinned (.plain (OpenSpec.ofChange fnSingleSpec)) fnSingleCard

/-- THE SECOND FORM's CARD OF 'laws.FnExactJonesValid'. -/
def fnExactJonesValidUptoCard : Claim7 := { stood := { row := fnExactJonesValidUptoRow, standIns := [], harness := (true, "13d82c53e1814180a46c8af55596faae13f81ed36010c3e032eb8ac7cb856405"), looks := true }, kinds := [], alts := [], laidByText := true, laidKinds := [.handle], laidTests := true, laidLooks := .later }
def FnExactJonesValidUptoCardSaid : Prop := Claim7.holds Tryd.pinned (.plain (OpenSpec.upto fnExactJonesValidSpec)) fnExactJonesValidUptoCard

/-- THE SECOND FORM's CARD OF 'laws.FnExactJonesPower'. -/
def fnExactJonesPowerUptoCard : Claim7 := { stood := { row := fnExactJonesPowerUptoRow, standIns := [], harness := (true, "13d82c53e1814180a46c8af55596faae13f81ed36010c3e032eb8ac7cb856405"), looks := true }, kinds := [], alts := [], laidByText := true, laidKinds := [.handle], laidTests := true, laidLooks := .later }
def FnExactJonesPowerUptoCardSaid : Prop := Claim7.holds Tryd.pinned (.plain (OpenSpec.upto fnExactJonesPowerSpec)) fnExactJonesPowerUptoCard

/-- THE SECOND FORM's CARD OF 'laws.FnExactJonesInner'. -/
def fnExactJonesInnerUptoCard : Claim7 := { stood := { row := fnExactJonesInnerUptoRow, standIns := [], harness := (true, "13d82c53e1814180a46c8af55596faae13f81ed36010c3e032eb8ac7cb856405"), looks := true }, kinds := [], alts := [], laidByText := true, laidKinds := [.handle], laidTests := true, laidLooks := .later }
def FnExactJonesInnerUptoCardSaid : Prop := Claim7.holds Tryd.pinned (.plain (OpenSpec.upto fnExactJonesInnerSpec)) fnExactJonesInnerUptoCard

/-- THE SECOND FORM's CARD OF 'laws.FnExactJonesAdd'. -/
def fnExactJonesAddUptoCard : Claim7 := { stood := { row := fnExactJonesAddUptoRow, standIns := [], harness := (true, "13d82c53e1814180a46c8af55596faae13f81ed36010c3e032eb8ac7cb856405"), looks := true }, kinds := [], alts := [], laidByText := true, laidKinds := [.handle], laidTests := true, laidLooks := .later }
def FnExactJonesAddUptoCardSaid : Prop := Claim7.holds Tryd.pinned (.plain (OpenSpec.upto fnExactJonesAddSpec)) fnExactJonesAddUptoCard

/-- THE SECOND FORM's CARD OF 'laws.FnExactJonesTimes'. -/
def fnExactJonesTimesUptoCard : Claim7 := { stood := { row := fnExactJonesTimesUptoRow, standIns := [], harness := (true, "13d82c53e1814180a46c8af55596faae13f81ed36010c3e032eb8ac7cb856405"), looks := true }, kinds := [], alts := [], laidByText := true, laidKinds := [.handle], laidTests := true, laidLooks := .later }
def FnExactJonesTimesUptoCardSaid : Prop := Claim7.holds Tryd.pinned (.plain (OpenSpec.upto fnExactJonesTimesSpec)) fnExactJonesTimesUptoCard

/-- THE SECOND FORM's CARD OF 'laws.FnExactJonesAlike'. -/
def fnExactJonesAlikeUptoCard : Claim7 := { stood := { row := fnExactJonesAlikeUptoRow, standIns := [], harness := (true, "13d82c53e1814180a46c8af55596faae13f81ed36010c3e032eb8ac7cb856405"), looks := true }, kinds := [], alts := [], laidByText := true, laidKinds := [.handle], laidTests := true, laidLooks := .later }
def FnExactJonesAlikeUptoCardSaid : Prop := Claim7.holds Tryd.pinned (.plain (OpenSpec.upto fnExactJonesAlikeSpec)) fnExactJonesAlikeUptoCard

/-- THE SECOND FORM's CARD OF 'laws.FnExactJonesCross'. -/
def fnExactJonesCrossUptoCard : Claim7 := { stood := { row := fnExactJonesCrossUptoRow, standIns := [], harness := (true, "13d82c53e1814180a46c8af55596faae13f81ed36010c3e032eb8ac7cb856405"), looks := true }, kinds := [], alts := [], laidByText := true, laidKinds := [.handle], laidTests := true, laidLooks := .later }
def FnExactJonesCrossUptoCardSaid : Prop := Claim7.holds Tryd.pinned (.plain (OpenSpec.upto fnExactJonesCrossSpec)) fnExactJonesCrossUptoCard

/-- THE SECOND FORM's CARD OF 'laws.FnExactJonesMirror'. -/
def fnExactJonesMirrorUptoCard : Claim7 := { stood := { row := fnExactJonesMirrorUptoRow, standIns := [], harness := (true, "13d82c53e1814180a46c8af55596faae13f81ed36010c3e032eb8ac7cb856405"), looks := true }, kinds := [], alts := [], laidByText := true, laidKinds := [.handle], laidTests := true, laidLooks := .later }
def FnExactJonesMirrorUptoCardSaid : Prop := Claim7.holds Tryd.pinned (.plain (OpenSpec.upto fnExactJonesMirrorSpec)) fnExactJonesMirrorUptoCard

/-- THE SECOND FORM's CARD OF 'laws.FnExactJonesWide'. -/
def fnExactJonesWideUptoCard : Claim7 := { stood := { row := fnExactJonesWideUptoRow, standIns := [], harness := (true, "13d82c53e1814180a46c8af55596faae13f81ed36010c3e032eb8ac7cb856405"), looks := true }, kinds := [], alts := [], laidByText := true, laidKinds := [.handle], laidTests := true, laidLooks := .later }
def FnExactJonesWideUptoCardSaid : Prop := Claim7.holds Tryd.pinned (.plain (OpenSpec.upto fnExactJonesWideSpec)) fnExactJonesWideUptoCard

/-- THE SECOND FORM's CARD OF 'laws.FnExactJonesFits'. -/
def fnExactJonesFitsUptoCard : Claim7 := { stood := { row := fnExactJonesFitsUptoRow, standIns := [], harness := (true, "13d82c53e1814180a46c8af55596faae13f81ed36010c3e032eb8ac7cb856405"), looks := true }, kinds := [], alts := [], laidByText := true, laidKinds := [.handle], laidTests := true, laidLooks := .later }
def FnExactJonesFitsUptoCardSaid : Prop := Claim7.holds Tryd.pinned (.plain (OpenSpec.upto fnExactJonesFitsSpec)) fnExactJonesFitsUptoCard

/-- THE SECOND FORM's CARD OF 'laws.FnExactFracSingle'. -/
def fnExactFracSingleUptoCard : Claim7 := { stood := { row := fnExactFracSingleUptoRow, standIns := [], harness := (true, "13d82c53e1814180a46c8af55596faae13f81ed36010c3e032eb8ac7cb856405"), looks := true }, kinds := [], alts := [], laidByText := true, laidKinds := [.handle], laidTests := true, laidLooks := .later }
def FnExactFracSingleUptoCardSaid : Prop := Claim7.holds Tryd.pinned (.plain (OpenSpec.upto fnExactFracSingleSpec)) fnExactFracSingleUptoCard

/-- THE SECOND FORM's CARD OF 'laws.FnSingle'. -/
def fnSingleUptoCard : Claim7 := { stood := { row := fnSingleUptoRow, standIns := [], harness := (true, "13d82c53e1814180a46c8af55596faae13f81ed36010c3e032eb8ac7cb856405"), looks := true }, kinds := [], alts := [], laidByText := true, laidKinds := [.handle], laidTests := true, laidLooks := .later }
def FnSingleUptoCardSaid : Prop := Claim7.holds Tryd.pinned (.plain (OpenSpec.upto fnSingleSpec)) fnSingleUptoCard
end Rows
end Go.Proofs.YtbihlkienhbapaaDoor
