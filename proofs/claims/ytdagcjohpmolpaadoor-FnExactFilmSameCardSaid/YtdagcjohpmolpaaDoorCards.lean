/-
  DERIVED. GIVEN WITH THE SEED: THE CARDS: each row of YtdagcjohpmolpaaDoorRows.lean that lists a variable, with what it lists TIED to the program's text (the seventh form; the later family's looks); each row that meets fmt, with fmt's text TOLD by the authors' own Lean function (tested against real Go, not proved from fmt's source: count such statements apart). THE CARD IS WHAT COUNTS. Prove the row's statement (the work); the ties are given (YtdagcjohpmolpaaDoorTie.lean); close each card by the builder's one call (the guide's Derived/Test/ToyasCard.lean, 'card_holds'). Laid BY PROGRAM, IN A SANDBOX (cutbox-door.mjs). By AI agents, Wed Nov 11 2026. No macro, syntax, notation, axiom, sorry.
-/
import Derived.Test.YtdagcjohpmolpaaDoorRows
import GoSem.ClaimSeven
namespace Go.Proofs.YtdagcjohpmolpaaDoor
namespace Rows

/-- THE TIED CARD OF 'laws.FnExactFilmValid'. -/
def fnExactFilmValidCard : Claim7 := { stood := { row := fnExactFilmValidRow, standIns := [], harness := (true, "1ccaab84574511d8c56596ad8f125e9ac8d96b08a97ac62a039f791b3a05ce6e"), looks := true }, kinds := [], alts := [], laidByText := true, laidKinds := [.handle], laidTests := true, laidLooks := .later }
def FnExactFilmValidCardSaid : Prop := Claim7.holds Tryd.pinned (.plain (OpenSpec.ofChange fnExactFilmValidSpec)) fnExactFilmValidCard

/-- THE TIED CARD OF 'laws.FnExactFilmMat'. -/
def fnExactFilmMatCard : Claim7 := { stood := { row := fnExactFilmMatRow, standIns := [], harness := (true, "1ccaab84574511d8c56596ad8f125e9ac8d96b08a97ac62a039f791b3a05ce6e"), looks := true }, kinds := [], alts := [], laidByText := true, laidKinds := [.handle], laidTests := true, laidLooks := .later }
def FnExactFilmMatCardSaid : Prop := Claim7.holds Tryd.pinned (.plain (OpenSpec.ofChange fnExactFilmMatSpec)) fnExactFilmMatCard

/-- THE TIED CARD OF 'laws.FnExactFilmBack'. -/
def fnExactFilmBackCard : Claim7 := { stood := { row := fnExactFilmBackRow, standIns := [], harness := (true, "1ccaab84574511d8c56596ad8f125e9ac8d96b08a97ac62a039f791b3a05ce6e"), looks := true }, kinds := [], alts := [], laidByText := true, laidKinds := [.handle], laidTests := true, laidLooks := .later }
def FnExactFilmBackCardSaid : Prop := Claim7.holds Tryd.pinned (.plain (OpenSpec.ofChange fnExactFilmBackSpec)) fnExactFilmBackCard

/-- THE TIED CARD OF 'laws.FnExactFilmSame'. -/
def fnExactFilmSameCard : Claim7 := { stood := { row := fnExactFilmSameRow, standIns := [], harness := (true, "1ccaab84574511d8c56596ad8f125e9ac8d96b08a97ac62a039f791b3a05ce6e"), looks := true }, kinds := [], alts := [], laidByText := true, laidKinds := [.handle], laidTests := true, laidLooks := .later }
def FnExactFilmSameCardSaid : Prop := Claim7.holds Tryd.pinned (.plain (OpenSpec.ofChange fnExactFilmSameSpec)) fnExactFilmSameCard

/-- THE SECOND FORM's CARD OF 'laws.FnExactFilmValid'. -/
def fnExactFilmValidUptoCard : Claim7 := { stood := { row := fnExactFilmValidUptoRow, standIns := [], harness := (true, "1ccaab84574511d8c56596ad8f125e9ac8d96b08a97ac62a039f791b3a05ce6e"), looks := true }, kinds := [], alts := [], laidByText := true, laidKinds := [.handle], laidTests := true, laidLooks := .later }
def FnExactFilmValidUptoCardSaid : Prop := Claim7.holds Tryd.pinned (.plain (OpenSpec.upto fnExactFilmValidSpec)) fnExactFilmValidUptoCard

/-- THE SECOND FORM's CARD OF 'laws.FnExactFilmMat'. -/
def fnExactFilmMatUptoCard : Claim7 := { stood := { row := fnExactFilmMatUptoRow, standIns := [], harness := (true, "1ccaab84574511d8c56596ad8f125e9ac8d96b08a97ac62a039f791b3a05ce6e"), looks := true }, kinds := [], alts := [], laidByText := true, laidKinds := [.handle], laidTests := true, laidLooks := .later }
def FnExactFilmMatUptoCardSaid : Prop := Claim7.holds Tryd.pinned (.plain (OpenSpec.upto fnExactFilmMatSpec)) fnExactFilmMatUptoCard

/-- THE SECOND FORM's CARD OF 'laws.FnExactFilmBack'. -/
def fnExactFilmBackUptoCard : Claim7 := { stood := { row := fnExactFilmBackUptoRow, standIns := [], harness := (true, "1ccaab84574511d8c56596ad8f125e9ac8d96b08a97ac62a039f791b3a05ce6e"), looks := true }, kinds := [], alts := [], laidByText := true, laidKinds := [.handle], laidTests := true, laidLooks := .later }
def FnExactFilmBackUptoCardSaid : Prop := Claim7.holds Tryd.pinned (.plain (OpenSpec.upto fnExactFilmBackSpec)) fnExactFilmBackUptoCard

/-- THE SECOND FORM's CARD OF 'laws.FnExactFilmSame'. -/
def fnExactFilmSameUptoCard : Claim7 := { stood := { row := fnExactFilmSameUptoRow, standIns := [], harness := (true, "1ccaab84574511d8c56596ad8f125e9ac8d96b08a97ac62a039f791b3a05ce6e"), looks := true }, kinds := [], alts := [], laidByText := true, laidKinds := [.handle], laidTests := true, laidLooks := .later }
def FnExactFilmSameUptoCardSaid : Prop := Claim7.holds Tryd.pinned (.plain (OpenSpec.upto fnExactFilmSameSpec)) fnExactFilmSameUptoCard
end Rows
end Go.Proofs.YtdagcjohpmolpaaDoor
