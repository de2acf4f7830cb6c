/-
  DERIVED. GIVEN WITH THE SEED: THE CARDS: each row of YtkdkeacfifjjoaaGreatDoorRows.lean that lists a variable, with what it lists TIED to the program's text (the seventh form; the later family's looks); each row that meets fmt, with fmt's text TOLD by the authors' own Lean function (tested against real Go, not proved from fmt's source: count such statements apart). THE CARD IS WHAT COUNTS. Prove the row's statement (the work); the ties are given (YtkdkeacfifjjoaaGreatDoorTie.lean); close each card by the builder's one call (the guide's Derived/Test/ToyasCard.lean, 'card_holds'). Laid BY PROGRAM, IN A SANDBOX (cutbox-door.mjs). By AI agents, Wed Nov 11 2026. No macro, syntax, notation, axiom, sorry.
-/
import Derived.Test.YtkdkeacfifjjoaaGreatDoorRows
import GoSem.ClaimSeven
namespace Go.Proofs.YtkdkeacfifjjoaaGreatDoor
namespace Rows

/-- THE TIED CARD OF 'laws.FnFibreMat'. -/
def fnFibreMatCard : Claim7 := { stood := { row := fnFibreMatRow, standIns := [], harness := (true, "8c4609399b01537b6aca5b96a985d82a4295f48a5a7a7dad4be7a908ff83f504"), looks := true }, kinds := [], alts := [], laidByText := true, laidKinds := [.handle], laidTests := true, laidLooks := .later }
def FnFibreMatCardSaid : Prop := Claim7.holds Tryz.pinned (.plain (OpenSpec.ofChange fnFibreMatSpec)) fnFibreMatCard

/-- THE TIED CARD OF 'laws.FnFibreRun'. -/
def fnFibreRunCard : Claim7 := { stood := { row := fnFibreRunRow, standIns := [], harness := (true, "8c4609399b01537b6aca5b96a985d82a4295f48a5a7a7dad4be7a908ff83f504"), looks := true }, kinds := [], alts := [], laidByText := true, laidKinds := [.handle], laidTests := true, laidLooks := .later }
def FnFibreRunCardSaid : Prop := Claim7.holds Tryz.pinned (.plain (OpenSpec.ofChange fnFibreRunSpec)) fnFibreRunCard

/-- THE SECOND FORM's CARD OF 'laws.FnFibreMat'. -/
def fnFibreMatUptoCard : Claim7 := { stood := { row := fnFibreMatUptoRow, standIns := [], harness := (true, "8c4609399b01537b6aca5b96a985d82a4295f48a5a7a7dad4be7a908ff83f504"), looks := true }, kinds := [], alts := [], laidByText := true, laidKinds := [.handle], laidTests := true, laidLooks := .later }
def FnFibreMatUptoCardSaid : Prop := Claim7.holds Tryz.pinned (.plain (OpenSpec.upto fnFibreMatSpec)) fnFibreMatUptoCard

/-- THE SECOND FORM's CARD OF 'laws.FnFibreRun'. -/
def fnFibreRunUptoCard : Claim7 := { stood := { row := fnFibreRunUptoRow, standIns := [], harness := (true, "8c4609399b01537b6aca5b96a985d82a4295f48a5a7a7dad4be7a908ff83f504"), looks := true }, kinds := [], alts := [], laidByText := true, laidKinds := [.handle], laidTests := true, laidLooks := .later }
def FnFibreRunUptoCardSaid : Prop := Claim7.holds Tryz.pinned (.plain (OpenSpec.upto fnFibreRunSpec)) fnFibreRunUptoCard
end Rows
end Go.Proofs.YtkdkeacfifjjoaaGreatDoor
