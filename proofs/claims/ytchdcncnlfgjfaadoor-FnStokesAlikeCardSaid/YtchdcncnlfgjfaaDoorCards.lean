/-
  DERIVED. GIVEN WITH THE SEED: THE CARDS: each row of YtchdcncnlfgjfaaDoorRows.lean that lists a variable, with what it lists TIED to the program's text (the seventh form; the later family's looks); each row that meets fmt, with fmt's text TOLD by the authors' own Lean function (tested against real Go, not proved from fmt's source: count such statements apart). THE CARD IS WHAT COUNTS. Prove the row's statement (the work); the ties are given (YtchdcncnlfgjfaaDoorTie.lean); close each card by the builder's one call (the guide's Derived/Test/ToyasCard.lean, 'card_holds'). Laid BY PROGRAM, IN A SANDBOX (cutbox-door.mjs). By AI agents, Wed Nov 11 2026. No macro, syntax, notation, axiom, sorry.
-/
import Derived.Test.YtchdcncnlfgjfaaDoorRows
import GoSem.ClaimSeven
namespace Go.Proofs.YtchdcncnlfgjfaaDoor
namespace Rows

/-- THE TIED CARD OF 'laws.FnStokesAlike'. -/
def fnStokesAlikeCard : Claim7 := { stood := { row := fnStokesAlikeRow, standIns := [], harness := (true, "b24fa26d16b790de2ad21bf307cacebc8364e62f6a5f23f4a1f7705a1008a8ae"), looks := true }, kinds := [], alts := [], laidByText := true, laidKinds := [.handle], laidTests := true, laidLooks := .later }
def FnStokesAlikeCardSaid : Prop := Claim7.holds Tryd.pinned (.plain (OpenSpec.ofChange fnStokesAlikeSpec)) fnStokesAlikeCard

/-- THE SECOND FORM's CARD OF 'laws.FnStokesAlike'. -/
def fnStokesAlikeUptoCard : Claim7 := { stood := { row := fnStokesAlikeUptoRow, standIns := [], harness := (true, "b24fa26d16b790de2ad21bf307cacebc8364e62f6a5f23f4a1f7705a1008a8ae"), looks := true }, kinds := [], alts := [], laidByText := true, laidKinds := [.handle], laidTests := true, laidLooks := .later }
def FnStokesAlikeUptoCardSaid : Prop := Claim7.holds Tryd.pinned (.plain (OpenSpec.upto fnStokesAlikeSpec)) fnStokesAlikeUptoCard
end Rows
end Go.Proofs.YtchdcncnlfgjfaaDoor
