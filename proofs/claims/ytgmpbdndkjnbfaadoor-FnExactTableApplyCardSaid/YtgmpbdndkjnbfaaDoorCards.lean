/-
  DERIVED. GIVEN WITH THE SEED: THE CARDS: each row of YtgmpbdndkjnbfaaDoorRows.lean that lists a variable, with what it lists TIED to the program's text (the seventh form; the later family's looks); each row that meets fmt, with fmt's text TOLD by the authors' own Lean function (tested against real Go, not proved from fmt's source: count such statements apart). THE CARD IS WHAT COUNTS. Prove the row's statement (the work); the ties are given (YtgmpbdndkjnbfaaDoorTie.lean); close each card by the builder's one call (the guide's Derived/Test/ToyasCard.lean, 'card_holds'). Laid BY PROGRAM, IN A SANDBOX (cutbox-door.mjs). By AI agents, Wed Nov 11 2026. No macro, syntax, notation, axiom, sorry.
-/
import Derived.Test.YtgmpbdndkjnbfaaDoorRows
import GoSem.ClaimSeven
namespace Go.Proofs.YtgmpbdndkjnbfaaDoor
namespace Rows

/-- THE TIED CARD OF 'laws.FnExactTableApply'. -/
def fnExactTableApplyCard : Claim7 := { stood := { row := fnExactTableApplyRow, standIns := [], harness := (true, "f1fa66cb40450b098b60e1f4854aa7dac12cc0c21cd9b6f954bc8cbd139b9a2f"), looks := true }, kinds := [], alts := [], laidByText := true, laidKinds := [.handle], laidTests := true, laidLooks := .later }
def FnExactTableApplyCardSaid : Prop := Claim7.holds Tryd.pinned (.plain (OpenSpec.ofChange fnExactTableApplySpec)) fnExactTableApplyCard

/-- THE TIED CARD OF 'laws.FnExactTableKeeps'. -/
def fnExactTableKeepsCard : Claim7 := { stood := { row := fnExactTableKeepsRow, standIns := [], harness := (true, "f1fa66cb40450b098b60e1f4854aa7dac12cc0c21cd9b6f954bc8cbd139b9a2f"), looks := true }, kinds := [], alts := [], laidByText := true, laidKinds := [.handle], laidTests := true, laidLooks := .later }
def FnExactTableKeepsCardSaid : Prop := Claim7.holds Tryd.pinned (.plain (OpenSpec.ofChange fnExactTableKeepsSpec)) fnExactTableKeepsCard

/-- THE TIED CARD OF 'laws.FnExactTableEnergy'. -/
def fnExactTableEnergyCard : Claim7 := { stood := { row := fnExactTableEnergyRow, standIns := [], harness := (true, "f1fa66cb40450b098b60e1f4854aa7dac12cc0c21cd9b6f954bc8cbd139b9a2f"), looks := true }, kinds := [], alts := [], laidByText := true, laidKinds := [.handle], laidTests := true, laidLooks := .later }
def FnExactTableEnergyCardSaid : Prop := Claim7.holds Tryd.pinned (.plain (OpenSpec.ofChange fnExactTableEnergySpec)) fnExactTableEnergyCard

/-- THE SECOND FORM's CARD OF 'laws.FnExactTableApply'. -/
def fnExactTableApplyUptoCard : Claim7 := { stood := { row := fnExactTableApplyUptoRow, standIns := [], harness := (true, "f1fa66cb40450b098b60e1f4854aa7dac12cc0c21cd9b6f954bc8cbd139b9a2f"), looks := true }, kinds := [], alts := [], laidByText := true, laidKinds := [.handle], laidTests := true, laidLooks := .later }
def FnExactTableApplyUptoCardSaid : Prop := Claim7.holds Tryd.pinned (.plain (OpenSpec.upto fnExactTableApplySpec)) fnExactTableApplyUptoCard

/-- THE SECOND FORM's CARD OF 'laws.FnExactTableKeeps'. -/
def fnExactTableKeepsUptoCard : Claim7 := { stood := { row := fnExactTableKeepsUptoRow, standIns := [], harness := (true, "f1fa66cb40450b098b60e1f4854aa7dac12cc0c21cd9b6f954bc8cbd139b9a2f"), looks := true }, kinds := [], alts := [], laidByText := true, laidKinds := [.handle], laidTests := true, laidLooks := .later }
def FnExactTableKeepsUptoCardSaid : Prop := Claim7.holds Tryd.pinned (.plain (OpenSpec.upto fnExactTableKeepsSpec)) fnExactTableKeepsUptoCard

/-- THE SECOND FORM's CARD OF 'laws.FnExactTableEnergy'. -/
def fnExactTableEnergyUptoCard : Claim7 := { stood := { row := fnExactTableEnergyUptoRow, standIns := [], harness := (true, "f1fa66cb40450b098b60e1f4854aa7dac12cc0c21cd9b6f954bc8cbd139b9a2f"), looks := true }, kinds := [], alts := [], laidByText := true, laidKinds := [.handle], laidTests := true, laidLooks := .later }
def FnExactTableEnergyUptoCardSaid : Prop := Claim7.holds Tryd.pinned (.plain (OpenSpec.upto fnExactTableEnergySpec)) fnExactTableEnergyUptoCard
end Rows
end Go.Proofs.YtgmpbdndkjnbfaaDoor
