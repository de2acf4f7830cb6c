/-
  DERIVED. GIVEN WITH THE SEED: THE CARDS: each row of YtdagcjohpmolpaaGreatDoorRows.lean that lists a variable, with what it lists TIED to the program's text (the seventh form; the later family's looks); each row that meets fmt, with fmt's text TOLD by the authors' own Lean function (tested against real Go, not proved from fmt's source: count such statements apart). THE CARD IS WHAT COUNTS. Prove the row's statement (the work); the ties are given (YtdagcjohpmolpaaGreatDoorTie.lean); close each card by the builder's one call (the guide's Derived/Test/ToyasCard.lean, 'card_holds'). Laid BY PROGRAM, IN A SANDBOX (cutbox-door.mjs). By AI agents, Wed Nov 11 2026. No macro, syntax, notation, axiom, sorry.
-/
import Derived.Test.YtdagcjohpmolpaaGreatDoorRows
import GoSem.ClaimSeven
namespace Go.Proofs.YtdagcjohpmolpaaGreatDoor
namespace Rows

/-- THE TIED CARD OF 'laws.FnExactFilmReflected'. -/
def fnExactFilmReflectedCard : Claim7 := { stood := { row := fnExactFilmReflectedRow, standIns := [], harness := (true, "28b1ec8eebbd6d55c132344e1819387bd4a02c99555ca35472404bd096d30b07"), looks := true }, kinds := [], alts := [], laidByText := true, laidKinds := [.handle], laidTests := true, laidLooks := .later }
def FnExactFilmReflectedCardSaid : Prop := Claim7.holds Tryz.pinned (.plain (OpenSpec.ofChange fnExactFilmReflectedSpec)) fnExactFilmReflectedCard

/-- THE TIED CARD OF 'laws.FnExactFilmPassing'. -/
def fnExactFilmPassingCard : Claim7 := { stood := { row := fnExactFilmPassingRow, standIns := [], harness := (true, "28b1ec8eebbd6d55c132344e1819387bd4a02c99555ca35472404bd096d30b07"), looks := true }, kinds := [], alts := [], laidByText := true, laidKinds := [.handle], laidTests := true, laidLooks := .later }
def FnExactFilmPassingCardSaid : Prop := Claim7.holds Tryz.pinned (.plain (OpenSpec.ofChange fnExactFilmPassingSpec)) fnExactFilmPassingCard

/-- THE TIED CARD OF 'laws.FnExactFilmPowers'. -/
def fnExactFilmPowersCard : Claim7 := { stood := { row := fnExactFilmPowersRow, standIns := [], harness := (true, "28b1ec8eebbd6d55c132344e1819387bd4a02c99555ca35472404bd096d30b07"), looks := true }, kinds := [], alts := [], laidByText := true, laidKinds := [.handle], laidTests := true, laidLooks := .later }
def FnExactFilmPowersCardSaid : Prop := Claim7.holds Tryz.pinned (.plain (OpenSpec.ofChange fnExactFilmPowersSpec)) fnExactFilmPowersCard

/-- THE TIED CARD OF 'laws.FnReflected'. -/
def fnReflectedCard : Claim7 := { stood := { row := fnReflectedRow, standIns := [], harness := (true, "28b1ec8eebbd6d55c132344e1819387bd4a02c99555ca35472404bd096d30b07"), looks := true }, kinds := [], alts := [], laidByText := true, laidKinds := [.handle], laidTests := true, laidLooks := .later }
def FnReflectedCardSaid : Prop := Claim7.holds Tryz.pinned (.plain (OpenSpec.ofChange fnReflectedSpec)) fnReflectedCard

/-- THE SECOND FORM's CARD OF 'laws.FnExactFilmReflected'. -/
def fnExactFilmReflectedUptoCard : Claim7 := { stood := { row := fnExactFilmReflectedUptoRow, standIns := [], harness := (true, "28b1ec8eebbd6d55c132344e1819387bd4a02c99555ca35472404bd096d30b07"), looks := true }, kinds := [], alts := [], laidByText := true, laidKinds := [.handle], laidTests := true, laidLooks := .later }
def FnExactFilmReflectedUptoCardSaid : Prop := Claim7.holds Tryz.pinned (.plain (OpenSpec.upto fnExactFilmReflectedSpec)) fnExactFilmReflectedUptoCard

/-- THE SECOND FORM's CARD OF 'laws.FnExactFilmPassing'. -/
def fnExactFilmPassingUptoCard : Claim7 := { stood := { row := fnExactFilmPassingUptoRow, standIns := [], harness := (true, "28b1ec8eebbd6d55c132344e1819387bd4a02c99555ca35472404bd096d30b07"), looks := true }, kinds := [], alts := [], laidByText := true, laidKinds := [.handle], laidTests := true, laidLooks := .later }
def FnExactFilmPassingUptoCardSaid : Prop := Claim7.holds Tryz.pinned (.plain (OpenSpec.upto fnExactFilmPassingSpec)) fnExactFilmPassingUptoCard

/-- THE SECOND FORM's CARD OF 'laws.FnExactFilmPowers'. -/
def fnExactFilmPowersUptoCard : Claim7 := { stood := { row := fnExactFilmPowersUptoRow, standIns := [], harness := (true, "28b1ec8eebbd6d55c132344e1819387bd4a02c99555ca35472404bd096d30b07"), looks := true }, kinds := [], alts := [], laidByText := true, laidKinds := [.handle], laidTests := true, laidLooks := .later }
def FnExactFilmPowersUptoCardSaid : Prop := Claim7.holds Tryz.pinned (.plain (OpenSpec.upto fnExactFilmPowersSpec)) fnExactFilmPowersUptoCard

/-- THE SECOND FORM's CARD OF 'laws.FnReflected'. -/
def fnReflectedUptoCard : Claim7 := { stood := { row := fnReflectedUptoRow, standIns := [], harness := (true, "28b1ec8eebbd6d55c132344e1819387bd4a02c99555ca35472404bd096d30b07"), looks := true }, kinds := [], alts := [], laidByText := true, laidKinds := [.handle], laidTests := true, laidLooks := .later }
def FnReflectedUptoCardSaid : Prop := Claim7.holds Tryz.pinned (.plain (OpenSpec.upto fnReflectedSpec)) fnReflectedUptoCard
end Rows
end Go.Proofs.YtdagcjohpmolpaaGreatDoor
