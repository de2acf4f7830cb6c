/-
  DERIVED. GIVEN WITH THE SEED: THE CARDS: each row of YthphehpnobancaaDoorRows.lean that lists a variable, with what it lists TIED to the program's text (the seventh form; the later family's looks); each row that meets fmt, with fmt's text TOLD by the authors' own Lean function (tested against real Go, not proved from fmt's source: count such statements apart). THE CARD IS WHAT COUNTS. Prove the row's statement (the work); the ties are given (YthphehpnobancaaDoorTie.lean); close each card by the builder's one call (the guide's Derived/Test/ToyasCard.lean, 'card_holds'). Laid BY PROGRAM, IN A SANDBOX (cutbox-door.mjs). By AI agents, Wed Nov 11 2026. No macro, syntax, notation, axiom, sorry.
-/
import Derived.Test.YthphehpnobancaaDoorRows
import GoSem.ClaimSeven
namespace Go.Proofs.YthphehpnobancaaDoor
namespace Rows

/-- THE TIED CARD OF 'laws.FnExactTableValid'. -/
def fnExactTableValidCard : Claim7 := { stood := { row := fnExactTableValidRow, standIns := [], harness := (true, "8776098af509336c3b9f2a11e3494ab86ccb386c4dad619959c3e77504a08472"), looks := true }, kinds := [], alts := [], laidByText := true, laidKinds := [.handle], laidTests := true, laidLooks := .later }
def FnExactTableValidCardSaid : Prop := Claim7.holds Tryd.pinned (.plain (OpenSpec.ofChange fnExactTableValidSpec)) fnExactTableValidCard

/-- THE TIED CARD OF 'laws.FnExactTableApply'. -/
def fnExactTableApplyCard : Claim7 := { stood := { row := fnExactTableApplyRow, standIns := [], harness := (true, "8776098af509336c3b9f2a11e3494ab86ccb386c4dad619959c3e77504a08472"), looks := true }, kinds := [], alts := [], laidByText := true, laidKinds := [.handle], laidTests := true, laidLooks := .later }
def FnExactTableApplyCardSaid : Prop := Claim7.holds Tryd.pinned (.plain (OpenSpec.ofChange fnExactTableApplySpec)) fnExactTableApplyCard

/-- THE TIED CARD OF 'laws.FnExactTableKeeps'. -/
def fnExactTableKeepsCard : Claim7 := { stood := { row := fnExactTableKeepsRow, standIns := [], harness := (true, "8776098af509336c3b9f2a11e3494ab86ccb386c4dad619959c3e77504a08472"), looks := true }, kinds := [], alts := [], laidByText := true, laidKinds := [.handle], laidTests := true, laidLooks := .later }
def FnExactTableKeepsCardSaid : Prop := Claim7.holds Tryd.pinned (.plain (OpenSpec.ofChange fnExactTableKeepsSpec)) fnExactTableKeepsCard

/-- THE TIED CARD OF 'laws.FnExactTableEnergy'. -/
def fnExactTableEnergyCard : Claim7 := { stood := { row := fnExactTableEnergyRow, standIns := [], harness := (true, "8776098af509336c3b9f2a11e3494ab86ccb386c4dad619959c3e77504a08472"), looks := true }, kinds := [], alts := [], laidByText := true, laidKinds := [.handle], laidTests := true, laidLooks := .later }
def FnExactTableEnergyCardSaid : Prop := Claim7.holds Tryd.pinned (.plain (OpenSpec.ofChange fnExactTableEnergySpec)) fnExactTableEnergyCard

/-- THE SECOND FORM's CARD OF 'laws.FnExactTableValid'. -/
def fnExactTableValidUptoCard : Claim7 := { stood := { row := fnExactTableValidUptoRow, standIns := [], harness := (true, "8776098af509336c3b9f2a11e3494ab86ccb386c4dad619959c3e77504a08472"), looks := true }, kinds := [], alts := [], laidByText := true, laidKinds := [.handle], laidTests := true, laidLooks := .later }
def FnExactTableValidUptoCardSaid : Prop := Claim7.holds Tryd.pinned (.plain (OpenSpec.upto fnExactTableValidSpec)) fnExactTableValidUptoCard

/-- THE SECOND FORM's CARD OF 'laws.FnExactTableApply'. -/
def fnExactTableApplyUptoCard : Claim7 := { stood := { row := fnExactTableApplyUptoRow, standIns := [], harness := (true, "8776098af509336c3b9f2a11e3494ab86ccb386c4dad619959c3e77504a08472"), looks := true }, kinds := [], alts := [], laidByText := true, laidKinds := [.handle], laidTests := true, laidLooks := .later }
def FnExactTableApplyUptoCardSaid : Prop := Claim7.holds Tryd.pinned (.plain (OpenSpec.upto fnExactTableApplySpec)) fnExactTableApplyUptoCard

/-- THE SECOND FORM's CARD OF 'laws.FnExactTableKeeps'. -/
def fnExactTableKeepsUptoCard : Claim7 := { stood := { row := fnExactTableKeepsUptoRow, standIns := [], harness := (true, "8776098af509336c3b9f2a11e3494ab86ccb386c4dad619959c3e77504a08472"), looks := true }, kinds := [], alts := [], laidByText := true, laidKinds := [.handle], laidTests := true, laidLooks := .later }
def FnExactTableKeepsUptoCardSaid : Prop := Claim7.holds Tryd.pinned (.plain (OpenSpec.upto fnExactTableKeepsSpec)) fnExactTableKeepsUptoCard

/-- THE SECOND FORM's CARD OF 'laws.FnExactTableEnergy'. -/
def fnExactTableEnergyUptoCard : Claim7 := { stood := { row := fnExactTableEnergyUptoRow, standIns := [], harness := (true, "8776098af509336c3b9f2a11e3494ab86ccb386c4dad619959c3e77504a08472"), looks := true }, kinds := [], alts := [], laidByText := true, laidKinds := [.handle], laidTests := true, laidLooks := .later }
def FnExactTableEnergyUptoCardSaid : Prop := Claim7.holds Tryd.pinned (.plain (OpenSpec.upto fnExactTableEnergySpec)) fnExactTableEnergyUptoCard
end Rows
end Go.Proofs.YthphehpnobancaaDoor
