/-
  DERIVED. GIVEN WITH THE SEED: THE CARDS: each row of YtkiggkmbgkonmaaGreatDoorRows.lean that lists a variable, with what it lists TIED to the program's text (the seventh form; the later family's looks); each row that meets fmt, with fmt's text TOLD by the authors' own Lean function (tested against real Go, not proved from fmt's source: count such statements apart). THE CARD IS WHAT COUNTS. Prove the row's statement (the work); the ties are given (YtkiggkmbgkonmaaGreatDoorTie.lean); close each card by the builder's one call (the guide's Derived/Test/ToyasCard.lean, 'card_holds'). Laid BY PROGRAM, IN A SANDBOX (cutbox-door.mjs). By AI agents, Wed Nov 11 2026. No macro, syntax, notation, axiom, sorry.
-/
import Derived.Test.YtkiggkmbgkonmaaGreatDoorRows
import GoSem.ClaimSeven
namespace Go.Proofs.YtkiggkmbgkonmaaGreatDoor
namespace Rows

/-- THE TIED CARD OF 'laws.FnExactFibreMat'. -/
def fnExactFibreMatCard : Claim7 := { stood := { row := fnExactFibreMatRow, standIns := [], harness := (true, "e7f0b41967b255ed8e2b329a2a423e04b197ad5b738b74524f669fc2689f3657"), looks := true }, kinds := [], alts := [], laidByText := true, laidKinds := [.handle], laidTests := true, laidLooks := .later }
def FnExactFibreMatCardSaid : Prop := Claim7.holds Tryz.pinned (.plain (OpenSpec.ofChange fnExactFibreMatSpec)) fnExactFibreMatCard

/-- THE TIED CARD OF 'laws.FnExactFibreRun'. -/
def fnExactFibreRunCard : Claim7 := { stood := { row := fnExactFibreRunRow, standIns := [], harness := (true, "e7f0b41967b255ed8e2b329a2a423e04b197ad5b738b74524f669fc2689f3657"), looks := true }, kinds := [], alts := [], laidByText := true, laidKinds := [.handle], laidTests := true, laidLooks := .later }
def FnExactFibreRunCardSaid : Prop := Claim7.holds Tryz.pinned (.plain (OpenSpec.ofChange fnExactFibreRunSpec)) fnExactFibreRunCard

/-- THE TIED CARD OF 'laws.FnExactFibreOrder'. -/
def fnExactFibreOrderCard : Claim7 := { stood := { row := fnExactFibreOrderRow, standIns := [], harness := (true, "e7f0b41967b255ed8e2b329a2a423e04b197ad5b738b74524f669fc2689f3657"), looks := true }, kinds := [], alts := [], laidByText := true, laidKinds := [.handle], laidTests := true, laidLooks := .later }
def FnExactFibreOrderCardSaid : Prop := Claim7.holds Tryz.pinned (.plain (OpenSpec.ofChange fnExactFibreOrderSpec)) fnExactFibreOrderCard

/-- THE TIED CARD OF 'laws.FnExactFibreStays'. -/
def fnExactFibreStaysCard : Claim7 := { stood := { row := fnExactFibreStaysRow, standIns := [], harness := (true, "e7f0b41967b255ed8e2b329a2a423e04b197ad5b738b74524f669fc2689f3657"), looks := true }, kinds := [], alts := [], laidByText := true, laidKinds := [.handle], laidTests := true, laidLooks := .later }
def FnExactFibreStaysCardSaid : Prop := Claim7.holds Tryz.pinned (.plain (OpenSpec.ofChange fnExactFibreStaysSpec)) fnExactFibreStaysCard

/-- THE SECOND FORM's CARD OF 'laws.FnExactFibreMat'. -/
def fnExactFibreMatUptoCard : Claim7 := { stood := { row := fnExactFibreMatUptoRow, standIns := [], harness := (true, "e7f0b41967b255ed8e2b329a2a423e04b197ad5b738b74524f669fc2689f3657"), looks := true }, kinds := [], alts := [], laidByText := true, laidKinds := [.handle], laidTests := true, laidLooks := .later }
def FnExactFibreMatUptoCardSaid : Prop := Claim7.holds Tryz.pinned (.plain (OpenSpec.upto fnExactFibreMatSpec)) fnExactFibreMatUptoCard

/-- THE SECOND FORM's CARD OF 'laws.FnExactFibreRun'. -/
def fnExactFibreRunUptoCard : Claim7 := { stood := { row := fnExactFibreRunUptoRow, standIns := [], harness := (true, "e7f0b41967b255ed8e2b329a2a423e04b197ad5b738b74524f669fc2689f3657"), looks := true }, kinds := [], alts := [], laidByText := true, laidKinds := [.handle], laidTests := true, laidLooks := .later }
def FnExactFibreRunUptoCardSaid : Prop := Claim7.holds Tryz.pinned (.plain (OpenSpec.upto fnExactFibreRunSpec)) fnExactFibreRunUptoCard

/-- THE SECOND FORM's CARD OF 'laws.FnExactFibreOrder'. -/
def fnExactFibreOrderUptoCard : Claim7 := { stood := { row := fnExactFibreOrderUptoRow, standIns := [], harness := (true, "e7f0b41967b255ed8e2b329a2a423e04b197ad5b738b74524f669fc2689f3657"), looks := true }, kinds := [], alts := [], laidByText := true, laidKinds := [.handle], laidTests := true, laidLooks := .later }
def FnExactFibreOrderUptoCardSaid : Prop := Claim7.holds Tryz.pinned (.plain (OpenSpec.upto fnExactFibreOrderSpec)) fnExactFibreOrderUptoCard

/-- THE SECOND FORM's CARD OF 'laws.FnExactFibreStays'. -/
def fnExactFibreStaysUptoCard : Claim7 := { stood := { row := fnExactFibreStaysUptoRow, standIns := [], harness := (true, "e7f0b41967b255ed8e2b329a2a423e04b197ad5b738b74524f669fc2689f3657"), looks := true }, kinds := [], alts := [], laidByText := true, laidKinds := [.handle], laidTests := true, laidLooks := .later }
def FnExactFibreStaysUptoCardSaid : Prop := Claim7.holds Tryz.pinned (.plain (OpenSpec.upto fnExactFibreStaysSpec)) fnExactFibreStaysUptoCard
end Rows
end Go.Proofs.YtkiggkmbgkonmaaGreatDoor
