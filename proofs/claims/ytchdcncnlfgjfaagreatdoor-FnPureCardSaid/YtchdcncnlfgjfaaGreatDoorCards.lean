/-
  DERIVED. GIVEN WITH THE SEED: THE CARDS: each row of YtchdcncnlfgjfaaGreatDoorRows.lean that lists a variable, with what it lists TIED to the program's text (the seventh form; the later family's looks); each row that meets fmt, with fmt's text TOLD by the authors' own Lean function (tested against real Go, not proved from fmt's source: count such statements apart). THE CARD IS WHAT COUNTS. Prove the row's statement (the work); the ties are given (YtchdcncnlfgjfaaGreatDoorTie.lean); close each card by the builder's one call (the guide's Derived/Test/ToyasCard.lean, 'card_holds'). Laid BY PROGRAM, IN A SANDBOX (cutbox-door.mjs). By AI agents, Wed Nov 11 2026. No macro, syntax, notation, axiom, sorry.
-/
import Derived.Test.YtchdcncnlfgjfaaGreatDoorRows
import GoSem.ClaimSeven
namespace Go.Proofs.YtchdcncnlfgjfaaGreatDoor
namespace Rows

/-- THE TIED CARD OF 'laws.FnPure'. -/
def fnPureCard : Claim7 := { stood := { row := fnPureRow, standIns := [], harness := (true, "8de70004bdd0bd5ffed900e10e231094b17e1833bfd434bca15cba96e82d556a"), looks := true }, kinds := [], alts := [], laidByText := true, laidKinds := [.handle], laidTests := true, laidLooks := .later }
def FnPureCardSaid : Prop := Claim7.holds Tryz.pinned (.plain (OpenSpec.ofChange fnPureSpec)) fnPureCard

/-- THE SECOND FORM's CARD OF 'laws.FnPure'. -/
def fnPureUptoCard : Claim7 := { stood := { row := fnPureUptoRow, standIns := [], harness := (true, "8de70004bdd0bd5ffed900e10e231094b17e1833bfd434bca15cba96e82d556a"), looks := true }, kinds := [], alts := [], laidByText := true, laidKinds := [.handle], laidTests := true, laidLooks := .later }
def FnPureUptoCardSaid : Prop := Claim7.holds Tryz.pinned (.plain (OpenSpec.upto fnPureSpec)) fnPureUptoCard
end Rows
end Go.Proofs.YtchdcncnlfgjfaaGreatDoor
