/-
  DERIVED. GIVEN WITH THE SEED: THE CARDS: each row of YtpgklllgmfaekaaDoorRows.lean that lists a variable, with what it lists TIED to the program's text (the seventh form; the later family's looks); each row that meets fmt, with fmt's text TOLD by the authors' own Lean function (tested against real Go, not proved from fmt's source: count such statements apart). THE CARD IS WHAT COUNTS. Prove the row's statement (the work); the ties are given (YtpgklllgmfaekaaDoorTie.lean); close each card by the builder's one call (the guide's Derived/Test/ToyasCard.lean, 'card_holds'). Laid BY PROGRAM, IN A SANDBOX (cutbox-door.mjs). By AI agents, Wed Nov 11 2026. No macro, syntax, notation, axiom, sorry.
-/
import Derived.Test.YtpgklllgmfaekaaDoorRows
import GoSem.ClaimSeven
namespace Go.Proofs.YtpgklllgmfaekaaDoor
namespace Rows

/-- THE TIED CARD OF 'laws.FnFilmMat'. -/
def fnFilmMatCard : Claim7 := { stood := { row := fnFilmMatRow, standIns := [], harness := (true, "3b2f19c98f58b44d0f6ce295c5bc68efdadc3617622d7d06c3866e7bf5784734"), looks := true }, kinds := [], alts := [], laidByText := true, laidKinds := [.handle], laidTests := true, laidLooks := .later }
def FnFilmMatCardSaid : Prop := Claim7.holds Tryd.pinned (.plain (OpenSpec.ofChange fnFilmMatSpec)) fnFilmMatCard

/-- THE SECOND FORM's CARD OF 'laws.FnFilmMat'. -/
def fnFilmMatUptoCard : Claim7 := { stood := { row := fnFilmMatUptoRow, standIns := [], harness := (true, "3b2f19c98f58b44d0f6ce295c5bc68efdadc3617622d7d06c3866e7bf5784734"), looks := true }, kinds := [], alts := [], laidByText := true, laidKinds := [.handle], laidTests := true, laidLooks := .later }
def FnFilmMatUptoCardSaid : Prop := Claim7.holds Tryd.pinned (.plain (OpenSpec.upto fnFilmMatSpec)) fnFilmMatUptoCard
end Rows
end Go.Proofs.YtpgklllgmfaekaaDoor
