/-
  DERIVED. GIVEN WITH THE SEED: THE CARDS: each row of YtpbibfefcepeiaaDoorRows.lean that lists a variable, with what it lists TIED to the program's text (the seventh form; the later family's looks); each row that meets fmt, with fmt's text TOLD by the authors' own Lean function (tested against real Go, not proved from fmt's source: count such statements apart). THE CARD IS WHAT COUNTS. Prove the row's statement (the work); the ties are given (YtpbibfefcepeiaaDoorTie.lean); close each card by the builder's one call (the guide's Derived/Test/ToyasCard.lean, 'card_holds'). Laid BY PROGRAM, IN A SANDBOX (cutbox-door.mjs). By AI agents, Wed Nov 11 2026. No macro, syntax, notation, axiom, sorry.
-/
import Derived.Test.YtpbibfefcepeiaaDoorRows
import GoSem.ClaimSeven
namespace Go.Proofs.YtpbibfefcepeiaaDoor
namespace Rows

/-- THE TIED CARD OF 'laws.FnFrac'. -/
def fnFracCard : Claim7 := { stood := { row := fnFracRow, standIns := [], harness := (true, "28e8410205ee7cab54cc1e212edb4945d8b2bc5c4ab34963da8e72ffdbb7177d"), looks := true }, kinds := [], alts := [], laidByText := true, laidKinds := [.handle], laidTests := true, laidLooks := .later }
def FnFracCardSaid : Prop := Claim7.holds Tryd.pinned (.plain (OpenSpec.ofChange fnFracSpec)) fnFracCard

/-- THE TIED CARD OF 'laws.FnMake'. -/
def fnMakeCard : Claim7 := { stood := { row := fnMakeRow, standIns := [], harness := (true, "28e8410205ee7cab54cc1e212edb4945d8b2bc5c4ab34963da8e72ffdbb7177d"), looks := true }, kinds := [], alts := [], laidByText := true, laidKinds := [.handle], laidTests := true, laidLooks := .later }
def FnMakeCardSaid : Prop := Claim7.holds Tryd.pinned (.plain (OpenSpec.ofChange fnMakeSpec)) fnMakeCard

/-- THE TIED CARD OF 'laws.FnAdd'. -/
def fnAddCard : Claim7 := { stood := { row := fnAddRow, standIns := [], harness := (true, "28e8410205ee7cab54cc1e212edb4945d8b2bc5c4ab34963da8e72ffdbb7177d"), looks := true }, kinds := [], alts := [], laidByText := true, laidKinds := [.handle], laidTests := true, laidLooks := .later }
def FnAddCardSaid : Prop := Claim7.holds Tryd.pinned (.plain (OpenSpec.ofChange fnAddSpec)) fnAddCard

/-- THE TIED CARD OF 'laws.FnLess'. -/
def fnLessCard : Claim7 := { stood := { row := fnLessRow, standIns := [], harness := (true, "28e8410205ee7cab54cc1e212edb4945d8b2bc5c4ab34963da8e72ffdbb7177d"), looks := true }, kinds := [], alts := [], laidByText := true, laidKinds := [.handle], laidTests := true, laidLooks := .later }
def FnLessCardSaid : Prop := Claim7.holds Tryd.pinned (.plain (OpenSpec.ofChange fnLessSpec)) fnLessCard

/-- THE TIED CARD OF 'laws.FnTimes'. -/
def fnTimesCard : Claim7 := { stood := { row := fnTimesRow, standIns := [], harness := (true, "28e8410205ee7cab54cc1e212edb4945d8b2bc5c4ab34963da8e72ffdbb7177d"), looks := true }, kinds := [], alts := [], laidByText := true, laidKinds := [.handle], laidTests := true, laidLooks := .later }
def FnTimesCardSaid : Prop := Claim7.holds Tryd.pinned (.plain (OpenSpec.ofChange fnTimesSpec)) fnTimesCard

/-- THE TIED CARD OF 'laws.FnOver'. -/
def fnOverCard : Claim7 := { stood := { row := fnOverRow, standIns := [], harness := (true, "28e8410205ee7cab54cc1e212edb4945d8b2bc5c4ab34963da8e72ffdbb7177d"), looks := true }, kinds := [], alts := [], laidByText := true, laidKinds := [.handle], laidTests := true, laidLooks := .later }
def FnOverCardSaid : Prop := Claim7.holds Tryd.pinned (.plain (OpenSpec.ofChange fnOverSpec)) fnOverCard

/-- THE TIED CARD OF 'laws.FnMirror'. -/
def fnMirrorCard : Claim7 := { stood := { row := fnMirrorRow, standIns := [], harness := (true, "28e8410205ee7cab54cc1e212edb4945d8b2bc5c4ab34963da8e72ffdbb7177d"), looks := true }, kinds := [], alts := [], laidByText := true, laidKinds := [.handle], laidTests := true, laidLooks := .later }
def FnMirrorCardSaid : Prop := Claim7.holds Tryd.pinned (.plain (OpenSpec.ofChange fnMirrorSpec)) fnMirrorCard

/-- THE TIED CARD OF 'laws.FnPower'. -/
def fnPowerCard : Claim7 := { stood := { row := fnPowerRow, standIns := [], harness := (true, "28e8410205ee7cab54cc1e212edb4945d8b2bc5c4ab34963da8e72ffdbb7177d"), looks := true }, kinds := [], alts := [], laidByText := true, laidKinds := [.handle], laidTests := true, laidLooks := .later }
def FnPowerCardSaid : Prop := Claim7.holds Tryd.pinned (.plain (OpenSpec.ofChange fnPowerSpec)) fnPowerCard

/-- THE TIED CARD OF 'laws.FnCompare'. -/
def fnCompareCard : Claim7 := { stood := { row := fnCompareRow, standIns := [], harness := (true, "28e8410205ee7cab54cc1e212edb4945d8b2bc5c4ab34963da8e72ffdbb7177d"), looks := true }, kinds := [], alts := [], laidByText := true, laidKinds := [.handle], laidTests := true, laidLooks := .later }
def FnCompareCardSaid : Prop := Claim7.holds Tryd.pinned (.plain (OpenSpec.ofChange fnCompareSpec)) fnCompareCard

/-- THE TIED CARD OF 'laws.FnSingle'. -/
def fnSingleCard : Claim7 := { stood := { row := fnSingleRow, standIns := [], harness := (true, "28e8410205ee7cab54cc1e212edb4945d8b2bc5c4ab34963da8e72ffdbb7177d"), looks := true }, kinds := [], alts := [], laidByText := true, laidKinds := [.handle], laidTests := true, laidLooks := .later }
def FnSingleCardSaid : Prop := Claim7.holds Tryd.pinned (.plain (OpenSpec.ofChange fnSingleSpec)) fnSingleCard

/-- THE SECOND FORM's CARD OF 'laws.FnFrac'. -/
def fnFracUptoCard : Claim7 := { stood := { row := fnFracUptoRow, standIns := [], harness := (true, "28e8410205ee7cab54cc1e212edb4945d8b2bc5c4ab34963da8e72ffdbb7177d"), looks := true }, kinds := [], alts := [], laidByText := true, laidKinds := [.handle], laidTests := true, laidLooks := .later }
def FnFracUptoCardSaid : Prop := Claim7.holds Tryd.pinned (.plain (OpenSpec.upto fnFracSpec)) fnFracUptoCard

/-- THE SECOND FORM's CARD OF 'laws.FnMake'. -/
def fnMakeUptoCard : Claim7 := { stood := { row := fnMakeUptoRow, standIns := [], harness := (true, "28e8410205ee7cab54cc1e212edb4945d8b2bc5c4ab34963da8e72ffdbb7177d"), looks := true }, kinds := [], alts := [], laidByText := true, laidKinds := [.handle], laidTests := true, laidLooks := .later }
def FnMakeUptoCardSaid : Prop := Claim7.holds Tryd.pinned (.plain (OpenSpec.upto fnMakeSpec)) fnMakeUptoCard

/-- THE SECOND FORM's CARD OF 'laws.FnAdd'. -/
def fnAddUptoCard : Claim7 := { stood := { row := fnAddUptoRow, standIns := [], harness := (true, "28e8410205ee7cab54cc1e212edb4945d8b2bc5c4ab34963da8e72ffdbb7177d"), looks := true }, kinds := [], alts := [], laidByText := true, laidKinds := [.handle], laidTests := true, laidLooks := .later }
def FnAddUptoCardSaid : Prop := Claim7.holds Tryd.pinned (.plain (OpenSpec.upto fnAddSpec)) fnAddUptoCard

/-- THE SECOND FORM's CARD OF 'laws.FnLess'. -/
def fnLessUptoCard : Claim7 := { stood := { row := fnLessUptoRow, standIns := [], harness := (true, "28e8410205ee7cab54cc1e212edb4945d8b2bc5c4ab34963da8e72ffdbb7177d"), looks := true }, kinds := [], alts := [], laidByText := true, laidKinds := [.handle], laidTests := true, laidLooks := .later }
def FnLessUptoCardSaid : Prop := Claim7.holds Tryd.pinned (.plain (OpenSpec.upto fnLessSpec)) fnLessUptoCard

/-- THE SECOND FORM's CARD OF 'laws.FnTimes'. -/
def fnTimesUptoCard : Claim7 := { stood := { row := fnTimesUptoRow, standIns := [], harness := (true, "28e8410205ee7cab54cc1e212edb4945d8b2bc5c4ab34963da8e72ffdbb7177d"), looks := true }, kinds := [], alts := [], laidByText := true, laidKinds := [.handle], laidTests := true, laidLooks := .later }
def FnTimesUptoCardSaid : Prop := Claim7.holds Tryd.pinned (.plain (OpenSpec.upto fnTimesSpec)) fnTimesUptoCard

/-- THE SECOND FORM's CARD OF 'laws.FnOver'. -/
def fnOverUptoCard : Claim7 := { stood := { row := fnOverUptoRow, standIns := [], harness := (true, "28e8410205ee7cab54cc1e212edb4945d8b2bc5c4ab34963da8e72ffdbb7177d"), looks := true }, kinds := [], alts := [], laidByText := true, laidKinds := [.handle], laidTests := true, laidLooks := .later }
def FnOverUptoCardSaid : Prop := Claim7.holds Tryd.pinned (.plain (OpenSpec.upto fnOverSpec)) fnOverUptoCard

/-- THE SECOND FORM's CARD OF 'laws.FnMirror'. -/
def fnMirrorUptoCard : Claim7 := { stood := { row := fnMirrorUptoRow, standIns := [], harness := (true, "28e8410205ee7cab54cc1e212edb4945d8b2bc5c4ab34963da8e72ffdbb7177d"), looks := true }, kinds := [], alts := [], laidByText := true, laidKinds := [.handle], laidTests := true, laidLooks := .later }
def FnMirrorUptoCardSaid : Prop := Claim7.holds Tryd.pinned (.plain (OpenSpec.upto fnMirrorSpec)) fnMirrorUptoCard

/-- THE SECOND FORM's CARD OF 'laws.FnPower'. -/
def fnPowerUptoCard : Claim7 := { stood := { row := fnPowerUptoRow, standIns := [], harness := (true, "28e8410205ee7cab54cc1e212edb4945d8b2bc5c4ab34963da8e72ffdbb7177d"), looks := true }, kinds := [], alts := [], laidByText := true, laidKinds := [.handle], laidTests := true, laidLooks := .later }
def FnPowerUptoCardSaid : Prop := Claim7.holds Tryd.pinned (.plain (OpenSpec.upto fnPowerSpec)) fnPowerUptoCard

/-- THE SECOND FORM's CARD OF 'laws.FnCompare'. -/
def fnCompareUptoCard : Claim7 := { stood := { row := fnCompareUptoRow, standIns := [], harness := (true, "28e8410205ee7cab54cc1e212edb4945d8b2bc5c4ab34963da8e72ffdbb7177d"), looks := true }, kinds := [], alts := [], laidByText := true, laidKinds := [.handle], laidTests := true, laidLooks := .later }
def FnCompareUptoCardSaid : Prop := Claim7.holds Tryd.pinned (.plain (OpenSpec.upto fnCompareSpec)) fnCompareUptoCard

/-- THE SECOND FORM's CARD OF 'laws.FnSingle'. -/
def fnSingleUptoCard : Claim7 := { stood := { row := fnSingleUptoRow, standIns := [], harness := (true, "28e8410205ee7cab54cc1e212edb4945d8b2bc5c4ab34963da8e72ffdbb7177d"), looks := true }, kinds := [], alts := [], laidByText := true, laidKinds := [.handle], laidTests := true, laidLooks := .later }
def FnSingleUptoCardSaid : Prop := Claim7.holds Tryd.pinned (.plain (OpenSpec.upto fnSingleSpec)) fnSingleUptoCard
end Rows
end Go.Proofs.YtpbibfefcepeiaaDoor
