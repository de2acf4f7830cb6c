/-
  DERIVED. GIVEN WITH THE SEED: THE CARDS: each row of YtkiggkmbgkonmaaDoorRows.lean that lists a variable, with what it lists TIED to the program's text (the seventh form; the later family's looks); each row that meets fmt, with fmt's text TOLD by the authors' own Lean function (tested against real Go, not proved from fmt's source: count such statements apart). THE CARD IS WHAT COUNTS. Prove the row's statement (the work); the ties are given (YtkiggkmbgkonmaaDoorTie.lean); close each card by the builder's one call (the guide's Derived/Test/ToyasCard.lean, 'card_holds'). Laid BY PROGRAM, IN A SANDBOX (cutbox-door.mjs). By AI agents, Wed Nov 11 2026. No macro, syntax, notation, axiom, sorry.
-/
import Derived.Test.YtkiggkmbgkonmaaDoorRows
import GoSem.ClaimSeven
namespace Go.Proofs.YtkiggkmbgkonmaaDoor
namespace Rows

/-- THE TIED CARD OF 'laws.FnExactFibreValid'. -/
def fnExactFibreValidCard : Claim7 := { stood := { row := fnExactFibreValidRow, standIns := [], harness := (true, "7f24f7bba3503eb4778a7576594507330ca35948e1c02bc57bba7a06568b0883"), looks := true }, kinds := [], alts := [], laidByText := true, laidKinds := [.handle], laidTests := true, laidLooks := .later }
def FnExactFibreValidCardSaid : Prop := Claim7.holds Tryd.pinned (.plain (OpenSpec.ofChange fnExactFibreValidSpec)) fnExactFibreValidCard

/-- THE SECOND FORM's CARD OF 'laws.FnExactFibreValid'. -/
def fnExactFibreValidUptoCard : Claim7 := { stood := { row := fnExactFibreValidUptoRow, standIns := [], harness := (true, "7f24f7bba3503eb4778a7576594507330ca35948e1c02bc57bba7a06568b0883"), looks := true }, kinds := [], alts := [], laidByText := true, laidKinds := [.handle], laidTests := true, laidLooks := .later }
def FnExactFibreValidUptoCardSaid : Prop := Claim7.holds Tryd.pinned (.plain (OpenSpec.upto fnExactFibreValidSpec)) fnExactFibreValidUptoCard
end Rows
end Go.Proofs.YtkiggkmbgkonmaaDoor
