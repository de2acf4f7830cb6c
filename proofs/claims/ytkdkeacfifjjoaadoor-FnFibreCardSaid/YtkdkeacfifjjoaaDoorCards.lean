/-
  DERIVED. GIVEN WITH THE SEED: THE CARDS: each row of YtkdkeacfifjjoaaDoorRows.lean that lists a variable, with what it lists TIED to the program's text (the seventh form; the later family's looks); each row that meets fmt, with fmt's text TOLD by the authors' own Lean function (tested against real Go, not proved from fmt's source: count such statements apart). THE CARD IS WHAT COUNTS. Prove the row's statement (the work); the ties are given (YtkdkeacfifjjoaaDoorTie.lean); close each card by the builder's one call (the guide's Derived/Test/ToyasCard.lean, 'card_holds'). Laid BY PROGRAM, IN A SANDBOX (cutbox-door.mjs). By AI agents, Wed Nov 11 2026. No macro, syntax, notation, axiom, sorry.
-/
import Derived.Test.YtkdkeacfifjjoaaDoorRows
import GoSem.ClaimSeven
namespace Go.Proofs.YtkdkeacfifjjoaaDoor
namespace Rows

/-- THE TIED CARD OF 'laws.FnFibre'. -/
def fnFibreCard : Claim7 := { stood := { row := fnFibreRow, standIns := [], harness := (true, "86d03d9dcb6b908bfd76c939e22d5d2afe4a5603ad157354639de9a55f7bafa4"), looks := true }, kinds := [], alts := [], laidByText := true, laidKinds := [.handle], laidTests := true, laidLooks := .later }
def FnFibreCardSaid : Prop := Claim7.holds Tryd.pinned (.plain (OpenSpec.ofChange fnFibreSpec)) fnFibreCard

/-- THE TIED CARD OF 'laws.FnFibreBack'. -/
def fnFibreBackCard : Claim7 := { stood := { row := fnFibreBackRow, standIns := [], harness := (true, "86d03d9dcb6b908bfd76c939e22d5d2afe4a5603ad157354639de9a55f7bafa4"), looks := true }, kinds := [], alts := [], laidByText := true, laidKinds := [.handle], laidTests := true, laidLooks := .later }
def FnFibreBackCardSaid : Prop := Claim7.holds Tryd.pinned (.plain (OpenSpec.ofChange fnFibreBackSpec)) fnFibreBackCard

/-- THE SECOND FORM's CARD OF 'laws.FnFibre'. -/
def fnFibreUptoCard : Claim7 := { stood := { row := fnFibreUptoRow, standIns := [], harness := (true, "86d03d9dcb6b908bfd76c939e22d5d2afe4a5603ad157354639de9a55f7bafa4"), looks := true }, kinds := [], alts := [], laidByText := true, laidKinds := [.handle], laidTests := true, laidLooks := .later }
def FnFibreUptoCardSaid : Prop := Claim7.holds Tryd.pinned (.plain (OpenSpec.upto fnFibreSpec)) fnFibreUptoCard

/-- THE SECOND FORM's CARD OF 'laws.FnFibreBack'. -/
def fnFibreBackUptoCard : Claim7 := { stood := { row := fnFibreBackUptoRow, standIns := [], harness := (true, "86d03d9dcb6b908bfd76c939e22d5d2afe4a5603ad157354639de9a55f7bafa4"), looks := true }, kinds := [], alts := [], laidByText := true, laidKinds := [.handle], laidTests := true, laidLooks := .later }
def FnFibreBackUptoCardSaid : Prop := Claim7.holds Tryd.pinned (.plain (OpenSpec.upto fnFibreBackSpec)) fnFibreBackUptoCard
end Rows
end Go.Proofs.YtkdkeacfifjjoaaDoor
