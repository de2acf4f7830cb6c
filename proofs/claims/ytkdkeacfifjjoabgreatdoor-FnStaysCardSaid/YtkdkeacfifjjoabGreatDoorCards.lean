/-
  DERIVED. GIVEN WITH THE SEED: THE CARDS: each row of YtkdkeacfifjjoabGreatDoorRows.lean that lists a variable, with what it lists TIED to the program's text (the seventh form; the later family's looks); each row that meets fmt, with fmt's text TOLD by the authors' own Lean function (tested against real Go, not proved from fmt's source: count such statements apart). THE CARD IS WHAT COUNTS. Prove the row's statement (the work); the ties are given (YtkdkeacfifjjoabGreatDoorTie.lean); close each card by the builder's one call (the guide's Derived/Test/ToyasCard.lean, 'card_holds'). Laid BY PROGRAM, IN A SANDBOX (cutbox-door.mjs). By AI agents, Wed Nov 11 2026. No macro, syntax, notation, axiom, sorry.
-/
import Derived.Test.YtkdkeacfifjjoabGreatDoorRows
import GoSem.ClaimSeven
namespace Go.Proofs.YtkdkeacfifjjoabGreatDoor
namespace Rows

/-- THE TIED CARD OF 'laws.FnOrder'. -/
def fnOrderCard : Claim7 := { stood := { row := fnOrderRow, standIns := [], harness := (true, "88fb52bf59f1e9723c825b53684cfb5a95402aaa7f26ac0bdedbba444c9392d7"), looks := true }, kinds := [], alts := [], laidByText := true, laidKinds := [.handle], laidTests := true, laidLooks := .later }
def FnOrderCardSaid : Prop := Claim7.holds Tryz.pinned (.plain (OpenSpec.ofChange fnOrderSpec)) fnOrderCard

/-- THE TIED CARD OF 'laws.FnStays'. -/
def fnStaysCard : Claim7 := { stood := { row := fnStaysRow, standIns := [], harness := (true, "88fb52bf59f1e9723c825b53684cfb5a95402aaa7f26ac0bdedbba444c9392d7"), looks := true }, kinds := [], alts := [], laidByText := true, laidKinds := [.handle], laidTests := true, laidLooks := .later }
def FnStaysCardSaid : Prop := Claim7.holds Tryz.pinned (.plain (OpenSpec.ofChange fnStaysSpec)) fnStaysCard

/-- THE TIED CARD OF 'laws.FnFilmSame'. -/
def fnFilmSameCard : Claim7 := { stood := { row := fnFilmSameRow, standIns := [], harness := (true, "88fb52bf59f1e9723c825b53684cfb5a95402aaa7f26ac0bdedbba444c9392d7"), looks := true }, kinds := [], alts := [], laidByText := true, laidKinds := [.handle], laidTests := true, laidLooks := .later }
def FnFilmSameCardSaid : Prop := Claim7.holds Tryz.pinned (.plain (OpenSpec.ofChange fnFilmSameSpec)) fnFilmSameCard

/-- THE SECOND FORM's CARD OF 'laws.FnOrder'. -/
def fnOrderUptoCard : Claim7 := { stood := { row := fnOrderUptoRow, standIns := [], harness := (true, "88fb52bf59f1e9723c825b53684cfb5a95402aaa7f26ac0bdedbba444c9392d7"), looks := true }, kinds := [], alts := [], laidByText := true, laidKinds := [.handle], laidTests := true, laidLooks := .later }
def FnOrderUptoCardSaid : Prop := Claim7.holds Tryz.pinned (.plain (OpenSpec.upto fnOrderSpec)) fnOrderUptoCard

/-- THE SECOND FORM's CARD OF 'laws.FnStays'. -/
def fnStaysUptoCard : Claim7 := { stood := { row := fnStaysUptoRow, standIns := [], harness := (true, "88fb52bf59f1e9723c825b53684cfb5a95402aaa7f26ac0bdedbba444c9392d7"), looks := true }, kinds := [], alts := [], laidByText := true, laidKinds := [.handle], laidTests := true, laidLooks := .later }
def FnStaysUptoCardSaid : Prop := Claim7.holds Tryz.pinned (.plain (OpenSpec.upto fnStaysSpec)) fnStaysUptoCard

/-- THE SECOND FORM's CARD OF 'laws.FnFilmSame'. -/
def fnFilmSameUptoCard : Claim7 := { stood := { row := fnFilmSameUptoRow, standIns := [], harness := (true, "88fb52bf59f1e9723c825b53684cfb5a95402aaa7f26ac0bdedbba444c9392d7"), looks := true }, kinds := [], alts := [], laidByText := true, laidKinds := [.handle], laidTests := true, laidLooks := .later }
def FnFilmSameUptoCardSaid : Prop := Claim7.holds Tryz.pinned (.plain (OpenSpec.upto fnFilmSameSpec)) fnFilmSameUptoCard
end Rows
end Go.Proofs.YtkdkeacfifjjoabGreatDoor
