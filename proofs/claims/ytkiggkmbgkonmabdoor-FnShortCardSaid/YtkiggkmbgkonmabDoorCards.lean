/-
  DERIVED. GIVEN WITH THE SEED: THE CARDS: each row of YtkiggkmbgkonmabDoorRows.lean that lists a variable, with what it lists TIED to the program's text (the seventh form; the later family's looks); each row that meets fmt, with fmt's text TOLD by the authors' own Lean function (tested against real Go, not proved from fmt's source: count such statements apart). THE CARD IS WHAT COUNTS. Prove the row's statement (the work); the ties are given (YtkiggkmbgkonmabDoorTie.lean); close each card by the builder's one call (the guide's Derived/Test/ToyasCard.lean, 'card_holds'). Laid BY PROGRAM, IN A SANDBOX (cutbox-door.mjs). By AI agents, Wed Nov 11 2026. No macro, syntax, notation, axiom, sorry.
-/
import Derived.Test.YtkiggkmbgkonmabDoorRows
import GoSem.ClaimSeven
namespace Go.Proofs.YtkiggkmbgkonmabDoor
namespace Rows

/-- THE TIED CARD OF 'laws.FnExactFibreBeat'. -/
def fnExactFibreBeatCard : Claim7 := { stood := { row := fnExactFibreBeatRow, standIns := [], harness := (true, "911cae8e7eac04cada2ad7790d8bbac60e5a2c15dc41ddbe9e7421d0415b8ea8"), looks := true }, kinds := [], alts := [], laidByText := true, laidKinds := [.handle], laidTests := true, laidLooks := .later }
def FnExactFibreBeatCardSaid : Prop := Claim7.holds Tryd.pinned (.plain (OpenSpec.ofChange fnExactFibreBeatSpec)) fnExactFibreBeatCard

/-- THE TIED CARD OF 'laws.FnExactFibreBack'. -/
def fnExactFibreBackCard : Claim7 := { stood := { row := fnExactFibreBackRow, standIns := [], harness := (true, "911cae8e7eac04cada2ad7790d8bbac60e5a2c15dc41ddbe9e7421d0415b8ea8"), looks := true }, kinds := [], alts := [], laidByText := true, laidKinds := [.handle], laidTests := true, laidLooks := .later }
def FnExactFibreBackCardSaid : Prop := Claim7.holds Tryd.pinned (.plain (OpenSpec.ofChange fnExactFibreBackSpec)) fnExactFibreBackCard

/-- THE TIED CARD OF 'laws.FnExactFibreShort'. -/
def fnExactFibreShortCard : Claim7 := { stood := { row := fnExactFibreShortRow, standIns := [], harness := (true, "911cae8e7eac04cada2ad7790d8bbac60e5a2c15dc41ddbe9e7421d0415b8ea8"), looks := true }, kinds := [], alts := [], laidByText := true, laidKinds := [.handle], laidTests := true, laidLooks := .later }
def FnExactFibreShortCardSaid : Prop := Claim7.holds Tryd.pinned (.plain (OpenSpec.ofChange fnExactFibreShortSpec)) fnExactFibreShortCard

/-- THE TIED CARD OF 'laws.FnBeat'. -/
def fnBeatCard : Claim7 := { stood := { row := fnBeatRow, standIns := [], harness := (true, "911cae8e7eac04cada2ad7790d8bbac60e5a2c15dc41ddbe9e7421d0415b8ea8"), looks := true }, kinds := [], alts := [], laidByText := true, laidKinds := [.handle], laidTests := true, laidLooks := .later }
def FnBeatCardSaid : Prop := Claim7.holds Tryd.pinned (.plain (OpenSpec.ofChange fnBeatSpec)) fnBeatCard

/-- THE TIED CARD OF 'laws.FnShort'. -/
def fnShortCard : Claim7 := { stood := { row := fnShortRow, standIns := [], harness := (true, "911cae8e7eac04cada2ad7790d8bbac60e5a2c15dc41ddbe9e7421d0415b8ea8"), looks := true }, kinds := [], alts := [], laidByText := true, laidKinds := [.handle], laidTests := true, laidLooks := .later }
def FnShortCardSaid : Prop := Claim7.holds Tryd.pinned (.plain (OpenSpec.ofChange fnShortSpec)) fnShortCard

/-- THE SECOND FORM's CARD OF 'laws.FnExactFibreBeat'. -/
def fnExactFibreBeatUptoCard : Claim7 := { stood := { row := fnExactFibreBeatUptoRow, standIns := [], harness := (true, "911cae8e7eac04cada2ad7790d8bbac60e5a2c15dc41ddbe9e7421d0415b8ea8"), looks := true }, kinds := [], alts := [], laidByText := true, laidKinds := [.handle], laidTests := true, laidLooks := .later }
def FnExactFibreBeatUptoCardSaid : Prop := Claim7.holds Tryd.pinned (.plain (OpenSpec.upto fnExactFibreBeatSpec)) fnExactFibreBeatUptoCard

/-- THE SECOND FORM's CARD OF 'laws.FnExactFibreBack'. -/
def fnExactFibreBackUptoCard : Claim7 := { stood := { row := fnExactFibreBackUptoRow, standIns := [], harness := (true, "911cae8e7eac04cada2ad7790d8bbac60e5a2c15dc41ddbe9e7421d0415b8ea8"), looks := true }, kinds := [], alts := [], laidByText := true, laidKinds := [.handle], laidTests := true, laidLooks := .later }
def FnExactFibreBackUptoCardSaid : Prop := Claim7.holds Tryd.pinned (.plain (OpenSpec.upto fnExactFibreBackSpec)) fnExactFibreBackUptoCard

/-- THE SECOND FORM's CARD OF 'laws.FnExactFibreShort'. -/
def fnExactFibreShortUptoCard : Claim7 := { stood := { row := fnExactFibreShortUptoRow, standIns := [], harness := (true, "911cae8e7eac04cada2ad7790d8bbac60e5a2c15dc41ddbe9e7421d0415b8ea8"), looks := true }, kinds := [], alts := [], laidByText := true, laidKinds := [.handle], laidTests := true, laidLooks := .later }
def FnExactFibreShortUptoCardSaid : Prop := Claim7.holds Tryd.pinned (.plain (OpenSpec.upto fnExactFibreShortSpec)) fnExactFibreShortUptoCard

/-- THE SECOND FORM's CARD OF 'laws.FnBeat'. -/
def fnBeatUptoCard : Claim7 := { stood := { row := fnBeatUptoRow, standIns := [], harness := (true, "911cae8e7eac04cada2ad7790d8bbac60e5a2c15dc41ddbe9e7421d0415b8ea8"), looks := true }, kinds := [], alts := [], laidByText := true, laidKinds := [.handle], laidTests := true, laidLooks := .later }
def FnBeatUptoCardSaid : Prop := Claim7.holds Tryd.pinned (.plain (OpenSpec.upto fnBeatSpec)) fnBeatUptoCard

/-- THE SECOND FORM's CARD OF 'laws.FnShort'. -/
def fnShortUptoCard : Claim7 := { stood := { row := fnShortUptoRow, standIns := [], harness := (true, "911cae8e7eac04cada2ad7790d8bbac60e5a2c15dc41ddbe9e7421d0415b8ea8"), looks := true }, kinds := [], alts := [], laidByText := true, laidKinds := [.handle], laidTests := true, laidLooks := .later }
def FnShortUptoCardSaid : Prop := Claim7.holds Tryd.pinned (.plain (OpenSpec.upto fnShortSpec)) fnShortUptoCard
end Rows
end Go.Proofs.YtkiggkmbgkonmabDoor
