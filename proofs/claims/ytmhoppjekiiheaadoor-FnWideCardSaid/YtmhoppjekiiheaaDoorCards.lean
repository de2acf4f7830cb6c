/-
  DERIVED. GIVEN WITH THE SEED: THE CARDS: each row of YtmhoppjekiiheaaDoorRows.lean that lists a variable, with what it lists TIED to the program's text (the seventh form; the later family's looks); each row that meets fmt, with fmt's text TOLD by the authors' own Lean function (tested against real Go, not proved from fmt's source: count such statements apart). THE CARD IS WHAT COUNTS. Prove the row's statement (the work); the ties are given (YtmhoppjekiiheaaDoorTie.lean); close each card by the builder's one call (the guide's Derived/Test/ToyasCard.lean, 'card_holds'). Laid BY PROGRAM, IN A SANDBOX (cutbox-door.mjs). By AI agents, Wed Nov 11 2026. No macro, syntax, notation, axiom, sorry.
-/
import Derived.Test.YtmhoppjekiiheaaDoorRows
import GoSem.ClaimSeven
namespace Go.Proofs.YtmhoppjekiiheaaDoor
namespace Rows

/-- THE TIED CARD OF 'laws.FnWide'. -/
def fnWideCard : Claim7 := { stood := { row := fnWideRow, standIns := [], harness := (true, "436a93248086b9491b239784b15dbb576060676db4949601e344395bb0e4ff62"), looks := true }, kinds := [], alts := [], laidByText := true, laidKinds := [.handle], laidTests := true, laidLooks := .later }
def FnWideCardSaid : Prop := Claim7.holds Tryd.pinned (.plain (OpenSpec.ofChange fnWideSpec)) fnWideCard

/-- THE TIED CARD OF 'laws.FnExactFracValid'. -/
def fnExactFracValidCard : Claim7 := { stood := { row := fnExactFracValidRow, standIns := [], harness := (true, "436a93248086b9491b239784b15dbb576060676db4949601e344395bb0e4ff62"), looks := true }, kinds := [], alts := [], laidByText := true, laidKinds := [.handle], laidTests := true, laidLooks := .later }
def FnExactFracValidCardSaid : Prop := Claim7.holds Tryd.pinned (.plain (OpenSpec.ofChange fnExactFracValidSpec)) fnExactFracValidCard

/-- THE TIED CARD OF 'laws.FnExactFracMake'. -/
def fnExactFracMakeCard : Claim7 := { stood := { row := fnExactFracMakeRow, standIns := [], harness := (true, "436a93248086b9491b239784b15dbb576060676db4949601e344395bb0e4ff62"), looks := true }, kinds := [], alts := [], laidByText := true, laidKinds := [.handle], laidTests := true, laidLooks := .later }
def FnExactFracMakeCardSaid : Prop := Claim7.holds Tryd.pinned (.plain (OpenSpec.ofChange fnExactFracMakeSpec)) fnExactFracMakeCard

/-- THE TIED CARD OF 'laws.FnExactFracAdd'. -/
def fnExactFracAddCard : Claim7 := { stood := { row := fnExactFracAddRow, standIns := [], harness := (true, "436a93248086b9491b239784b15dbb576060676db4949601e344395bb0e4ff62"), looks := true }, kinds := [], alts := [], laidByText := true, laidKinds := [.handle], laidTests := true, laidLooks := .later }
def FnExactFracAddCardSaid : Prop := Claim7.holds Tryd.pinned (.plain (OpenSpec.ofChange fnExactFracAddSpec)) fnExactFracAddCard

/-- THE TIED CARD OF 'laws.FnExactFracLess'. -/
def fnExactFracLessCard : Claim7 := { stood := { row := fnExactFracLessRow, standIns := [], harness := (true, "436a93248086b9491b239784b15dbb576060676db4949601e344395bb0e4ff62"), looks := true }, kinds := [], alts := [], laidByText := true, laidKinds := [.handle], laidTests := true, laidLooks := .later }
def FnExactFracLessCardSaid : Prop := Claim7.holds Tryd.pinned (.plain (OpenSpec.ofChange fnExactFracLessSpec)) fnExactFracLessCard

/-- THE TIED CARD OF 'laws.FnExactFracTimes'. -/
def fnExactFracTimesCard : Claim7 := { stood := { row := fnExactFracTimesRow, standIns := [], harness := (true, "436a93248086b9491b239784b15dbb576060676db4949601e344395bb0e4ff62"), looks := true }, kinds := [], alts := [], laidByText := true, laidKinds := [.handle], laidTests := true, laidLooks := .later }
def FnExactFracTimesCardSaid : Prop := Claim7.holds Tryd.pinned (.plain (OpenSpec.ofChange fnExactFracTimesSpec)) fnExactFracTimesCard

/-- THE TIED CARD OF 'laws.FnExactFracOver'. -/
def fnExactFracOverCard : Claim7 := { stood := { row := fnExactFracOverRow, standIns := [], harness := (true, "436a93248086b9491b239784b15dbb576060676db4949601e344395bb0e4ff62"), looks := true }, kinds := [], alts := [], laidByText := true, laidKinds := [.handle], laidTests := true, laidLooks := .later }
def FnExactFracOverCardSaid : Prop := Claim7.holds Tryd.pinned (.plain (OpenSpec.ofChange fnExactFracOverSpec)) fnExactFracOverCard

/-- THE TIED CARD OF 'laws.FnExactFracMirror'. -/
def fnExactFracMirrorCard : Claim7 := { stood := { row := fnExactFracMirrorRow, standIns := [], harness := (true, "436a93248086b9491b239784b15dbb576060676db4949601e344395bb0e4ff62"), looks := true }, kinds := [], alts := [], laidByText := true, laidKinds := [.handle], laidTests := true, laidLooks := .later }
def FnExactFracMirrorCardSaid : Prop := Claim7.holds Tryd.pinned (.plain (OpenSpec.ofChange fnExactFracMirrorSpec)) fnExactFracMirrorCard

/-- THE TIED CARD OF 'laws.FnExactFracPower'. -/
def fnExactFracPowerCard : Claim7 := { stood := { row := fnExactFracPowerRow, standIns := [], harness := (true, "436a93248086b9491b239784b15dbb576060676db4949601e344395bb0e4ff62"), looks := true }, kinds := [], alts := [], laidByText := true, laidKinds := [.handle], laidTests := true, laidLooks := .later }
def FnExactFracPowerCardSaid : Prop := Claim7.holds Tryd.pinned (.plain (OpenSpec.ofChange fnExactFracPowerSpec)) fnExactFracPowerCard

/-- THE TIED CARD OF 'laws.FnExactFracCompare'. -/
def fnExactFracCompareCard : Claim7 := { stood := { row := fnExactFracCompareRow, standIns := [], harness := (true, "436a93248086b9491b239784b15dbb576060676db4949601e344395bb0e4ff62"), looks := true }, kinds := [], alts := [], laidByText := true, laidKinds := [.handle], laidTests := true, laidLooks := .later }
def FnExactFracCompareCardSaid : Prop := Claim7.holds Tryd.pinned (.plain (OpenSpec.ofChange fnExactFracCompareSpec)) fnExactFracCompareCard

/-- THE TIED CARD OF 'laws.FnExactFracWide'. -/
def fnExactFracWideCard : Claim7 := { stood := { row := fnExactFracWideRow, standIns := [], harness := (true, "436a93248086b9491b239784b15dbb576060676db4949601e344395bb0e4ff62"), looks := true }, kinds := [], alts := [], laidByText := true, laidKinds := [.handle], laidTests := true, laidLooks := .later }
def FnExactFracWideCardSaid : Prop := Claim7.holds Tryd.pinned (.plain (OpenSpec.ofChange fnExactFracWideSpec)) fnExactFracWideCard

/-- THE TIED CARD OF 'laws.FnExactFracSingle'. -/
def fnExactFracSingleCard : Claim7 := { stood := { row := fnExactFracSingleRow, standIns := [], harness := (true, "436a93248086b9491b239784b15dbb576060676db4949601e344395bb0e4ff62"), looks := true }, kinds := [], alts := [], laidByText := true, laidKinds := [.handle], laidTests := true, laidLooks := .later }
def FnExactFracSingleCardSaid : Prop := Claim7.holds Tryd.pinned (.plain (OpenSpec.ofChange fnExactFracSingleSpec)) fnExactFracSingleCard

/-- THE SECOND FORM's CARD OF 'laws.FnWide'. -/
def fnWideUptoCard : Claim7 := { stood := { row := fnWideUptoRow, standIns := [], harness := (true, "436a93248086b9491b239784b15dbb576060676db4949601e344395bb0e4ff62"), looks := true }, kinds := [], alts := [], laidByText := true, laidKinds := [.handle], laidTests := true, laidLooks := .later }
def FnWideUptoCardSaid : Prop := Claim7.holds Tryd.pinned (.plain (OpenSpec.upto fnWideSpec)) fnWideUptoCard

/-- THE SECOND FORM's CARD OF 'laws.FnExactFracValid'. -/
def fnExactFracValidUptoCard : Claim7 := { stood := { row := fnExactFracValidUptoRow, standIns := [], harness := (true, "436a93248086b9491b239784b15dbb576060676db4949601e344395bb0e4ff62"), looks := true }, kinds := [], alts := [], laidByText := true, laidKinds := [.handle], laidTests := true, laidLooks := .later }
def FnExactFracValidUptoCardSaid : Prop := Claim7.holds Tryd.pinned (.plain (OpenSpec.upto fnExactFracValidSpec)) fnExactFracValidUptoCard

/-- THE SECOND FORM's CARD OF 'laws.FnExactFracMake'. -/
def fnExactFracMakeUptoCard : Claim7 := { stood := { row := fnExactFracMakeUptoRow, standIns := [], harness := (true, "436a93248086b9491b239784b15dbb576060676db4949601e344395bb0e4ff62"), looks := true }, kinds := [], alts := [], laidByText := true, laidKinds := [.handle], laidTests := true, laidLooks := .later }
def FnExactFracMakeUptoCardSaid : Prop := Claim7.holds Tryd.pinned (.plain (OpenSpec.upto fnExactFracMakeSpec)) fnExactFracMakeUptoCard

/-- THE SECOND FORM's CARD OF 'laws.FnExactFracAdd'. -/
def fnExactFracAddUptoCard : Claim7 := { stood := { row := fnExactFracAddUptoRow, standIns := [], harness := (true, "436a93248086b9491b239784b15dbb576060676db4949601e344395bb0e4ff62"), looks := true }, kinds := [], alts := [], laidByText := true, laidKinds := [.handle], laidTests := true, laidLooks := .later }
def FnExactFracAddUptoCardSaid : Prop := Claim7.holds Tryd.pinned (.plain (OpenSpec.upto fnExactFracAddSpec)) fnExactFracAddUptoCard

/-- THE SECOND FORM's CARD OF 'laws.FnExactFracLess'. -/
def fnExactFracLessUptoCard : Claim7 := { stood := { row := fnExactFracLessUptoRow, standIns := [], harness := (true, "436a93248086b9491b239784b15dbb576060676db4949601e344395bb0e4ff62"), looks := true }, kinds := [], alts := [], laidByText := true, laidKinds := [.handle], laidTests := true, laidLooks := .later }
def FnExactFracLessUptoCardSaid : Prop := Claim7.holds Tryd.pinned (.plain (OpenSpec.upto fnExactFracLessSpec)) fnExactFracLessUptoCard

/-- THE SECOND FORM's CARD OF 'laws.FnExactFracTimes'. -/
def fnExactFracTimesUptoCard : Claim7 := { stood := { row := fnExactFracTimesUptoRow, standIns := [], harness := (true, "436a93248086b9491b239784b15dbb576060676db4949601e344395bb0e4ff62"), looks := true }, kinds := [], alts := [], laidByText := true, laidKinds := [.handle], laidTests := true, laidLooks := .later }
def FnExactFracTimesUptoCardSaid : Prop := Claim7.holds Tryd.pinned (.plain (OpenSpec.upto fnExactFracTimesSpec)) fnExactFracTimesUptoCard

/-- THE SECOND FORM's CARD OF 'laws.FnExactFracOver'. -/
def fnExactFracOverUptoCard : Claim7 := { stood := { row := fnExactFracOverUptoRow, standIns := [], harness := (true, "436a93248086b9491b239784b15dbb576060676db4949601e344395bb0e4ff62"), looks := true }, kinds := [], alts := [], laidByText := true, laidKinds := [.handle], laidTests := true, laidLooks := .later }
def FnExactFracOverUptoCardSaid : Prop := Claim7.holds Tryd.pinned (.plain (OpenSpec.upto fnExactFracOverSpec)) fnExactFracOverUptoCard

/-- THE SECOND FORM's CARD OF 'laws.FnExactFracMirror'. -/
def fnExactFracMirrorUptoCard : Claim7 := { stood := { row := fnExactFracMirrorUptoRow, standIns := [], harness := (true, "436a93248086b9491b239784b15dbb576060676db4949601e344395bb0e4ff62"), looks := true }, kinds := [], alts := [], laidByText := true, laidKinds := [.handle], laidTests := true, laidLooks := .later }
def FnExactFracMirrorUptoCardSaid : Prop := Claim7.holds Tryd.pinned (.plain (OpenSpec.upto fnExactFracMirrorSpec)) fnExactFracMirrorUptoCard

/-- THE SECOND FORM's CARD OF 'laws.FnExactFracPower'. -/
def fnExactFracPowerUptoCard : Claim7 := { stood := { row := fnExactFracPowerUptoRow, standIns := [], harness := (true, "436a93248086b9491b239784b15dbb576060676db4949601e344395bb0e4ff62"), looks := true }, kinds := [], alts := [], laidByText := true, laidKinds := [.handle], laidTests := true, laidLooks := .later }
def FnExactFracPowerUptoCardSaid : Prop := Claim7.holds Tryd.pinned (.plain (OpenSpec.upto fnExactFracPowerSpec)) fnExactFracPowerUptoCard

/-- THE SECOND FORM's CARD OF 'laws.FnExactFracCompare'. -/
def fnExactFracCompareUptoCard : Claim7 := { stood := { row := fnExactFracCompareUptoRow, standIns := [], harness := (true, "436a93248086b9491b239784b15dbb576060676db4949601e344395bb0e4ff62"), looks := true }, kinds := [], alts := [], laidByText := true, laidKinds := [.handle], laidTests := true, laidLooks := .later }
def FnExactFracCompareUptoCardSaid : Prop := Claim7.holds Tryd.pinned (.plain (OpenSpec.upto fnExactFracCompareSpec)) fnExactFracCompareUptoCard

/-- THE SECOND FORM's CARD OF 'laws.FnExactFracWide'. -/
def fnExactFracWideUptoCard : Claim7 := { stood := { row := fnExactFracWideUptoRow, standIns := [], harness := (true, "436a93248086b9491b239784b15dbb576060676db4949601e344395bb0e4ff62"), looks := true }, kinds := [], alts := [], laidByText := true, laidKinds := [.handle], laidTests := true, laidLooks := .later }
def FnExactFracWideUptoCardSaid : Prop := Claim7.holds Tryd.pinned (.plain (OpenSpec.upto fnExactFracWideSpec)) fnExactFracWideUptoCard

/-- THE SECOND FORM's CARD OF 'laws.FnExactFracSingle'. -/
def fnExactFracSingleUptoCard : Claim7 := { stood := { row := fnExactFracSingleUptoRow, standIns := [], harness := (true, "436a93248086b9491b239784b15dbb576060676db4949601e344395bb0e4ff62"), looks := true }, kinds := [], alts := [], laidByText := true, laidKinds := [.handle], laidTests := true, laidLooks := .later }
def FnExactFracSingleUptoCardSaid : Prop := Claim7.holds Tryd.pinned (.plain (OpenSpec.upto fnExactFracSingleSpec)) fnExactFracSingleUptoCard
end Rows
end Go.Proofs.YtmhoppjekiiheaaDoor
