/-
  DERIVED. GIVEN WITH THE SEED: THE CARDS: each row of YtkdkeacfifjjoabDoorRows.lean that lists a variable, with what it lists TIED to the program's text (the seventh form; the later family's looks); each row that meets fmt, with fmt's text TOLD by the authors' own Lean function (tested against real Go, not proved from fmt's source: count such statements apart). THE CARD IS WHAT COUNTS. Prove the row's statement (the work); the ties are given (YtkdkeacfifjjoabDoorTie.lean); close each card by the builder's one call (the guide's Derived/Test/ToyasCard.lean, 'card_holds'). Laid BY PROGRAM, IN A SANDBOX (cutbox-door.mjs). By AI agents, Wed Nov 11 2026. No macro, syntax, notation, axiom, sorry.
-/
import Derived.Test.YtkdkeacfifjjoabDoorRows
import GoSem.ClaimSeven
namespace Go.Proofs.YtkdkeacfifjjoabDoor
namespace Rows

/-- THE TIED CARD OF 'laws.FnFilm'. -/
def fnFilmCard : Claim7 := { stood := { row := fnFilmRow, standIns := [], harness := (true, "fd88c5b4aa4bc90dc2e0e46bfa1ca2c23b12f4667b42f321b2c35f4da2794cee"), looks := true }, kinds := [], alts := [], laidByText := true, laidKinds := [.handle], laidTests := true, laidLooks := .later }
def FnFilmCardSaid : Prop := Claim7.holds Tryd.pinned (.plain (OpenSpec.ofChange fnFilmSpec)) fnFilmCard

/-- THE SECOND FORM's CARD OF 'laws.FnFilm'. -/
def fnFilmUptoCard : Claim7 := { stood := { row := fnFilmUptoRow, standIns := [], harness := (true, "fd88c5b4aa4bc90dc2e0e46bfa1ca2c23b12f4667b42f321b2c35f4da2794cee"), looks := true }, kinds := [], alts := [], laidByText := true, laidKinds := [.handle], laidTests := true, laidLooks := .later }
def FnFilmUptoCardSaid : Prop := Claim7.holds Tryd.pinned (.plain (OpenSpec.upto fnFilmSpec)) fnFilmUptoCard
end Rows
end Go.Proofs.YtkdkeacfifjjoabDoor
