/-
  NARROWER THAN 'FOR EVERY INPUT', by the rows' own cells (each row's printed sentence says how): FnWide: laid · FnExactFracValid: laid · FnExactFracMake: laid · FnExactFracAdd: laid · FnExactFracLess: laid · FnExactFracTimes: laid · FnExactFracOver: laid · FnExactFracMirror: laid · FnExactFracPower: laid · FnExactFracCompare: laid · FnExactFracWide: laid · FnExactFracSingle: laid.
  DERIVED. THE GIVEN ROWS OF THIS SEAT. 12 by the template 'for every input the law returns true; each argument reads behind the call as it read before'; 0 by the template 'total and deterministic' (their statements: YtmhoppjekiiheaaDoorTotals.lean).
  GIVEN WITH THE SEED: the statements are not yours to turn. If you find one false, say at which input.
  Laid BY PROGRAM, IN A SANDBOX (cutbox-rows.mjs): the forced cells as the released guide's own fill.sh prints them over the translation 0a5e3f592002c630… (all of the seat's roots in one cut). By AI agents, Wed Nov 11 2026. No macro, syntax, notation, axiom, sorry.
-/
import Derived.Test.YtmhoppjekiiheaaDoorChecked
import GoSem.Claim
import GoSem.ClaimJoined
import GoSem.ClaimMapViews
import Derived.JoinedTies
import Derived.KernelRfl
namespace Go.Proofs.YtmhoppjekiiheaaDoor
/- THE CELL 'sum', in the pinned program and in every row, IS THE sha256 OF THE DUMP (.gsa) THAT YtmhoppjekiiheaaDoorProg.lean LOADS. Nothing in Lean hashes anything: it is a label: what it is worth is what the hold of that sum in a sandbox is worth. -/
noncomputable def Tryd.pinned : Pinned := { name := "ytmhoppjekiiheaadoor", sum := "0a5e3f592002c630e2c1df9abcc6997fc392870674a7b933988c5c0a53e36c69", checked := Tryd.checked }
namespace Rows
def none {H : Type} : Left H := { results := [], args := [] }

/- WHAT THE LISTED PACKAGE-LEVEL VARIABLES READ AS WHEN THE CALL BEGINS. Each datum BY PROGRAM (the guide's laid-datum.mjs) off the statement by which the dump's own 'gosem.cut.vars' lays the variable. In a bare row this is a premise. The card (YtmhoppjekiiheaaDoorCards.lean) ties it to the program's text. -/
def laid_errors_errorType {H : Type} : DataW H := .iface "internal/reflectlite.rtype" (.agg [.ptr (.lit (.string [101, 114, 114, 111, 114]))])

/-- 'laws.FnWide': WHATEVER THE INPUT: true; the input reads as it did. -/
def fnWideSpec : ChangeSpec := { name := "fnWide", fn := fun _ => fun
  | [d] => { results := [.lit (.bool true)], args := [d] }
  | _ => none }
def fnWideRow : OpenClaim := { program := "ytmhoppjekiiheaadoor", sum := "0a5e3f592002c630e2c1df9abcc6997fc392870674a7b933988c5c0a53e36c69", func := "loop.example/polarisedlight/laws.FnWide", spec := "fnWide", inPlace := ["internal/reflectlite.ValueOf", "(internal/reflectlite.Value).Type", "(internal/reflectlite.Value).IsNil", "internal/reflectlite.TypeOf", "(internal/reflectlite.Value).Elem", "(internal/reflectlite.Value).Set"], unfollowed := true, recurses := true, named := ["errors.errorType"], apart := false, laid := [("errors.errorType", laid_errors_errorType)] }
def FnWideSaid : Prop := fnWideRow.holds Tryd.pinned (OpenSpec.ofChange fnWideSpec)

/-- ITS FALSE NEIGHBOUR: 'it returns false'. Refute it at one input. -/
def fnWideWrong : ChangeSpec := { name := "fnWide", fn := fun _ => fun
  | [d] => { results := [.lit (.bool false)], args := [d] }
  | _ => none }
def FnWideWrongFalsely : Prop := fnWideRow.holds Tryd.pinned (OpenSpec.ofChange fnWideWrong)

/-- 'laws.FnExactFracValid': WHATEVER THE INPUT: true; the input reads as it did. -/
def fnExactFracValidSpec : ChangeSpec := { name := "fnExactFracValid", fn := fun _ => fun
  | [d] => { results := [.lit (.bool true)], args := [d] }
  | _ => none }
def fnExactFracValidRow : OpenClaim := { program := "ytmhoppjekiiheaadoor", sum := "0a5e3f592002c630e2c1df9abcc6997fc392870674a7b933988c5c0a53e36c69", func := "loop.example/polarisedlight/laws.FnExactFracValid", spec := "fnExactFracValid", inPlace := ["internal/reflectlite.ValueOf", "(internal/reflectlite.Value).Type", "(internal/reflectlite.Value).IsNil", "internal/reflectlite.TypeOf", "(internal/reflectlite.Value).Elem", "(internal/reflectlite.Value).Set"], unfollowed := true, recurses := true, named := ["errors.errorType"], apart := false, laid := [("errors.errorType", laid_errors_errorType)] }
def FnExactFracValidSaid : Prop := fnExactFracValidRow.holds Tryd.pinned (OpenSpec.ofChange fnExactFracValidSpec)

/-- ITS FALSE NEIGHBOUR: 'it returns false'. Refute it at one input. -/
def fnExactFracValidWrong : ChangeSpec := { name := "fnExactFracValid", fn := fun _ => fun
  | [d] => { results := [.lit (.bool false)], args := [d] }
  | _ => none }
def FnExactFracValidWrongFalsely : Prop := fnExactFracValidRow.holds Tryd.pinned (OpenSpec.ofChange fnExactFracValidWrong)

/-- 'laws.FnExactFracMake': WHATEVER THE INPUT: true; the input reads as it did. -/
def fnExactFracMakeSpec : ChangeSpec := { name := "fnExactFracMake", fn := fun _ => fun
  | [d1, d2, d3] => { results := [.lit (.bool true)], args := [d1, d2, d3] }
  | _ => none }
def fnExactFracMakeRow : OpenClaim := { program := "ytmhoppjekiiheaadoor", sum := "0a5e3f592002c630e2c1df9abcc6997fc392870674a7b933988c5c0a53e36c69", func := "loop.example/polarisedlight/laws.FnExactFracMake", spec := "fnExactFracMake", inPlace := ["internal/reflectlite.ValueOf", "(internal/reflectlite.Value).Type", "(internal/reflectlite.Value).IsNil", "internal/reflectlite.TypeOf", "(internal/reflectlite.Value).Elem", "(internal/reflectlite.Value).Set"], unfollowed := true, recurses := true, named := ["errors.errorType"], apart := false, laid := [("errors.errorType", laid_errors_errorType)] }
def FnExactFracMakeSaid : Prop := fnExactFracMakeRow.holds Tryd.pinned (OpenSpec.ofChange fnExactFracMakeSpec)

/-- ITS FALSE NEIGHBOUR: 'it returns false'. Refute it at one input. -/
def fnExactFracMakeWrong : ChangeSpec := { name := "fnExactFracMake", fn := fun _ => fun
  | [d1, d2, d3] => { results := [.lit (.bool false)], args := [d1, d2, d3] }
  | _ => none }
def FnExactFracMakeWrongFalsely : Prop := fnExactFracMakeRow.holds Tryd.pinned (OpenSpec.ofChange fnExactFracMakeWrong)

/-- 'laws.FnExactFracAdd': WHATEVER THE INPUT: true; the input reads as it did. -/
def fnExactFracAddSpec : ChangeSpec := { name := "fnExactFracAdd", fn := fun _ => fun
  | [d1, d2] => { results := [.lit (.bool true)], args := [d1, d2] }
  | _ => none }
def fnExactFracAddRow : OpenClaim := { program := "ytmhoppjekiiheaadoor", sum := "0a5e3f592002c630e2c1df9abcc6997fc392870674a7b933988c5c0a53e36c69", func := "loop.example/polarisedlight/laws.FnExactFracAdd", spec := "fnExactFracAdd", inPlace := ["internal/reflectlite.ValueOf", "(internal/reflectlite.Value).Type", "(internal/reflectlite.Value).IsNil", "internal/reflectlite.TypeOf", "(internal/reflectlite.Value).Elem", "(internal/reflectlite.Value).Set"], unfollowed := true, recurses := true, named := ["errors.errorType"], apart := false, laid := [("errors.errorType", laid_errors_errorType)] }
def FnExactFracAddSaid : Prop := fnExactFracAddRow.holds Tryd.pinned (OpenSpec.ofChange fnExactFracAddSpec)

/-- ITS FALSE NEIGHBOUR: 'it returns false'. Refute it at one input. -/
def fnExactFracAddWrong : ChangeSpec := { name := "fnExactFracAdd", fn := fun _ => fun
  | [d1, d2] => { results := [.lit (.bool false)], args := [d1, d2] }
  | _ => none }
def FnExactFracAddWrongFalsely : Prop := fnExactFracAddRow.holds Tryd.pinned (OpenSpec.ofChange fnExactFracAddWrong)

/-- 'laws.FnExactFracLess': WHATEVER THE INPUT: true; the input reads as it did. -/
def fnExactFracLessSpec : ChangeSpec := { name := "fnExactFracLess", fn := fun _ => fun
  | [d1, d2] => { results := [.lit (.bool true)], args := [d1, d2] }
  | _ => none }
def fnExactFracLessRow : OpenClaim := { program := "ytmhoppjekiiheaadoor", sum := "0a5e3f592002c630e2c1df9abcc6997fc392870674a7b933988c5c0a53e36c69", func := "loop.example/polarisedlight/laws.FnExactFracLess", spec := "fnExactFracLess", inPlace := ["internal/reflectlite.ValueOf", "(internal/reflectlite.Value).Type", "(internal/reflectlite.Value).IsNil", "internal/reflectlite.TypeOf", "(internal/reflectlite.Value).Elem", "(internal/reflectlite.Value).Set"], unfollowed := true, recurses := true, named := ["errors.errorType"], apart := false, laid := [("errors.errorType", laid_errors_errorType)] }
def FnExactFracLessSaid : Prop := fnExactFracLessRow.holds Tryd.pinned (OpenSpec.ofChange fnExactFracLessSpec)

/-- ITS FALSE NEIGHBOUR: 'it returns false'. Refute it at one input. -/
def fnExactFracLessWrong : ChangeSpec := { name := "fnExactFracLess", fn := fun _ => fun
  | [d1, d2] => { results := [.lit (.bool false)], args := [d1, d2] }
  | _ => none }
def FnExactFracLessWrongFalsely : Prop := fnExactFracLessRow.holds Tryd.pinned (OpenSpec.ofChange fnExactFracLessWrong)

/-- 'laws.FnExactFracTimes': WHATEVER THE INPUT: true; the input reads as it did. -/
def fnExactFracTimesSpec : ChangeSpec := { name := "fnExactFracTimes", fn := fun _ => fun
  | [d1, d2] => { results := [.lit (.bool true)], args := [d1, d2] }
  | _ => none }
def fnExactFracTimesRow : OpenClaim := { program := "ytmhoppjekiiheaadoor", sum := "0a5e3f592002c630e2c1df9abcc6997fc392870674a7b933988c5c0a53e36c69", func := "loop.example/polarisedlight/laws.FnExactFracTimes", spec := "fnExactFracTimes", inPlace := ["internal/reflectlite.ValueOf", "(internal/reflectlite.Value).Type", "(internal/reflectlite.Value).IsNil", "internal/reflectlite.TypeOf", "(internal/reflectlite.Value).Elem", "(internal/reflectlite.Value).Set"], unfollowed := true, recurses := true, named := ["errors.errorType"], apart := false, laid := [("errors.errorType", laid_errors_errorType)] }
def FnExactFracTimesSaid : Prop := fnExactFracTimesRow.holds Tryd.pinned (OpenSpec.ofChange fnExactFracTimesSpec)

/-- ITS FALSE NEIGHBOUR: 'it returns false'. Refute it at one input. -/
def fnExactFracTimesWrong : ChangeSpec := { name := "fnExactFracTimes", fn := fun _ => fun
  | [d1, d2] => { results := [.lit (.bool false)], args := [d1, d2] }
  | _ => none }
def FnExactFracTimesWrongFalsely : Prop := fnExactFracTimesRow.holds Tryd.pinned (OpenSpec.ofChange fnExactFracTimesWrong)

/-- 'laws.FnExactFracOver': WHATEVER THE INPUT: true; the input reads as it did. -/
def fnExactFracOverSpec : ChangeSpec := { name := "fnExactFracOver", fn := fun _ => fun
  | [d1, d2] => { results := [.lit (.bool true)], args := [d1, d2] }
  | _ => none }
def fnExactFracOverRow : OpenClaim := { program := "ytmhoppjekiiheaadoor", sum := "0a5e3f592002c630e2c1df9abcc6997fc392870674a7b933988c5c0a53e36c69", func := "loop.example/polarisedlight/laws.FnExactFracOver", spec := "fnExactFracOver", inPlace := ["internal/reflectlite.ValueOf", "(internal/reflectlite.Value).Type", "(internal/reflectlite.Value).IsNil", "internal/reflectlite.TypeOf", "(internal/reflectlite.Value).Elem", "(internal/reflectlite.Value).Set"], unfollowed := true, recurses := true, named := ["errors.errorType"], apart := false, laid := [("errors.errorType", laid_errors_errorType)] }
def FnExactFracOverSaid : Prop := fnExactFracOverRow.holds Tryd.pinned (OpenSpec.ofChange fnExactFracOverSpec)

/-- ITS FALSE NEIGHBOUR: 'it returns false'. Refute it at one input. -/
def fnExactFracOverWrong : ChangeSpec := { name := "fnExactFracOver", fn := fun _ => fun
  | [d1, d2] => { results := [.lit (.bool false)], args := [d1, d2] }
  | _ => none }
def FnExactFracOverWrongFalsely : Prop := fnExactFracOverRow.holds Tryd.pinned (OpenSpec.ofChange fnExactFracOverWrong)

/-- 'laws.FnExactFracMirror': WHATEVER THE INPUT: true; the input reads as it did. -/
def fnExactFracMirrorSpec : ChangeSpec := { name := "fnExactFracMirror", fn := fun _ => fun
  | [d] => { results := [.lit (.bool true)], args := [d] }
  | _ => none }
def fnExactFracMirrorRow : OpenClaim := { program := "ytmhoppjekiiheaadoor", sum := "0a5e3f592002c630e2c1df9abcc6997fc392870674a7b933988c5c0a53e36c69", func := "loop.example/polarisedlight/laws.FnExactFracMirror", spec := "fnExactFracMirror", inPlace := ["internal/reflectlite.ValueOf", "(internal/reflectlite.Value).Type", "(internal/reflectlite.Value).IsNil", "internal/reflectlite.TypeOf", "(internal/reflectlite.Value).Elem", "(internal/reflectlite.Value).Set"], unfollowed := true, recurses := true, named := ["errors.errorType"], apart := false, laid := [("errors.errorType", laid_errors_errorType)] }
def FnExactFracMirrorSaid : Prop := fnExactFracMirrorRow.holds Tryd.pinned (OpenSpec.ofChange fnExactFracMirrorSpec)

/-- ITS FALSE NEIGHBOUR: 'it returns false'. Refute it at one input. -/
def fnExactFracMirrorWrong : ChangeSpec := { name := "fnExactFracMirror", fn := fun _ => fun
  | [d] => { results := [.lit (.bool false)], args := [d] }
  | _ => none }
def FnExactFracMirrorWrongFalsely : Prop := fnExactFracMirrorRow.holds Tryd.pinned (OpenSpec.ofChange fnExactFracMirrorWrong)

/-- 'laws.FnExactFracPower': WHATEVER THE INPUT: true; the input reads as it did. -/
def fnExactFracPowerSpec : ChangeSpec := { name := "fnExactFracPower", fn := fun _ => fun
  | [d] => { results := [.lit (.bool true)], args := [d] }
  | _ => none }
def fnExactFracPowerRow : OpenClaim := { program := "ytmhoppjekiiheaadoor", sum := "0a5e3f592002c630e2c1df9abcc6997fc392870674a7b933988c5c0a53e36c69", func := "loop.example/polarisedlight/laws.FnExactFracPower", spec := "fnExactFracPower", inPlace := ["internal/reflectlite.ValueOf", "(internal/reflectlite.Value).Type", "(internal/reflectlite.Value).IsNil", "internal/reflectlite.TypeOf", "(internal/reflectlite.Value).Elem", "(internal/reflectlite.Value).Set"], unfollowed := true, recurses := true, named := ["errors.errorType"], apart := false, laid := [("errors.errorType", laid_errors_errorType)] }
def FnExactFracPowerSaid : Prop := fnExactFracPowerRow.holds Tryd.pinned (OpenSpec.ofChange fnExactFracPowerSpec)

/-- ITS FALSE NEIGHBOUR: 'it returns false'. Refute it at one input. -/
def fnExactFracPowerWrong : ChangeSpec := { name := "fnExactFracPower", fn := fun _ => fun
  | [d] => { results := [.lit (.bool false)], args := [d] }
  | _ => none }
def FnExactFracPowerWrongFalsely : Prop := fnExactFracPowerRow.holds Tryd.pinned (OpenSpec.ofChange fnExactFracPowerWrong)

/-- 'laws.FnExactFracCompare': WHATEVER THE INPUT: true; the input reads as it did. -/
def fnExactFracCompareSpec : ChangeSpec := { name := "fnExactFracCompare", fn := fun _ => fun
  | [d1, d2] => { results := [.lit (.bool true)], args := [d1, d2] }
  | _ => none }
def fnExactFracCompareRow : OpenClaim := { program := "ytmhoppjekiiheaadoor", sum := "0a5e3f592002c630e2c1df9abcc6997fc392870674a7b933988c5c0a53e36c69", func := "loop.example/polarisedlight/laws.FnExactFracCompare", spec := "fnExactFracCompare", inPlace := ["internal/reflectlite.ValueOf", "(internal/reflectlite.Value).Type", "(internal/reflectlite.Value).IsNil", "internal/reflectlite.TypeOf", "(internal/reflectlite.Value).Elem", "(internal/reflectlite.Value).Set"], unfollowed := true, recurses := true, named := ["errors.errorType"], apart := false, laid := [("errors.errorType", laid_errors_errorType)] }
def FnExactFracCompareSaid : Prop := fnExactFracCompareRow.holds Tryd.pinned (OpenSpec.ofChange fnExactFracCompareSpec)

/-- ITS FALSE NEIGHBOUR: 'it returns false'. Refute it at one input. -/
def fnExactFracCompareWrong : ChangeSpec := { name := "fnExactFracCompare", fn := fun _ => fun
  | [d1, d2] => { results := [.lit (.bool false)], args := [d1, d2] }
  | _ => none }
def FnExactFracCompareWrongFalsely : Prop := fnExactFracCompareRow.holds Tryd.pinned (OpenSpec.ofChange fnExactFracCompareWrong)

/-- 'laws.FnExactFracWide': WHATEVER THE INPUT: true; the input reads as it did. -/
def fnExactFracWideSpec : ChangeSpec := { name := "fnExactFracWide", fn := fun _ => fun
  | [d] => { results := [.lit (.bool true)], args := [d] }
  | _ => none }
def fnExactFracWideRow : OpenClaim := { program := "ytmhoppjekiiheaadoor", sum := "0a5e3f592002c630e2c1df9abcc6997fc392870674a7b933988c5c0a53e36c69", func := "loop.example/polarisedlight/laws.FnExactFracWide", spec := "fnExactFracWide", inPlace := ["internal/reflectlite.ValueOf", "(internal/reflectlite.Value).Type", "(internal/reflectlite.Value).IsNil", "internal/reflectlite.TypeOf", "(internal/reflectlite.Value).Elem", "(internal/reflectlite.Value).Set"], unfollowed := true, recurses := true, named := ["errors.errorType"], apart := false, laid := [("errors.errorType", laid_errors_errorType)] }
def FnExactFracWideSaid : Prop := fnExactFracWideRow.holds Tryd.pinned (OpenSpec.ofChange fnExactFracWideSpec)

/-- ITS FALSE NEIGHBOUR: 'it returns false'. Refute it at one input. -/
def fnExactFracWideWrong : ChangeSpec := { name := "fnExactFracWide", fn := fun _ => fun
  | [d] => { results := [.lit (.bool false)], args := [d] }
  | _ => none }
def FnExactFracWideWrongFalsely : Prop := fnExactFracWideRow.holds Tryd.pinned (OpenSpec.ofChange fnExactFracWideWrong)

/-- 'laws.FnExactFracSingle': WHATEVER THE INPUT: true; the input reads as it did. -/
def fnExactFracSingleSpec : ChangeSpec := { name := "fnExactFracSingle", fn := fun _ => fun
  | [d] => { results := [.lit (.bool true)], args := [d] }
  | _ => none }
def fnExactFracSingleRow : OpenClaim := { program := "ytmhoppjekiiheaadoor", sum := "0a5e3f592002c630e2c1df9abcc6997fc392870674a7b933988c5c0a53e36c69", func := "loop.example/polarisedlight/laws.FnExactFracSingle", spec := "fnExactFracSingle", inPlace := ["internal/reflectlite.ValueOf", "(internal/reflectlite.Value).Type", "(internal/reflectlite.Value).IsNil", "internal/reflectlite.TypeOf", "(internal/reflectlite.Value).Elem", "(internal/reflectlite.Value).Set"], unfollowed := true, recurses := true, named := ["errors.errorType"], apart := false, laid := [("errors.errorType", laid_errors_errorType)] }
def FnExactFracSingleSaid : Prop := fnExactFracSingleRow.holds Tryd.pinned (OpenSpec.ofChange fnExactFracSingleSpec)

/-- ITS FALSE NEIGHBOUR: 'it returns false'. Refute it at one input. -/
def fnExactFracSingleWrong : ChangeSpec := { name := "fnExactFracSingle", fn := fun _ => fun
  | [d] => { results := [.lit (.bool false)], args := [d] }
  | _ => none }
def FnExactFracSingleWrongFalsely : Prop := fnExactFracSingleRow.holds Tryd.pinned (OpenSpec.ofChange fnExactFracSingleWrong)

/- THE SECOND FORM. 'bulk': how many values and letters a reading holds, each counted each time it is reached (what is shared counts as often as it is met; a slice's spare places count too). A statement '..UptoSaid' is the law's where the arguments, and the package variables that the reading takes, are together of bulk at most 1048576: NARROWER than '..Said'. Prove '..Said' where nothing that the law and all that it calls make is longer than what came in: it says more and counts as full. Else prove '..UptoSaid'. A law counts once. -/
mutual
def uptoBulk {H : Type} : DataW H → Nat
  | .lit (.string bytes) => bytes.length + 1
  | .lit _ => 1
  | .nil => 1
  | .ptr d => uptoBulk d + 1
  | .slice elems spare => uptoBulkAll elems + uptoBulkAll spare + 1
  | .agg parts => uptoBulkAll parts + 1
  | .iface _ d => uptoBulk d + 1
  | .map entries => uptoBulkEntries entries + 1
  | .held _ => 1
def uptoBulkAll {H : Type} : List (DataW H) → Nat
  | [] => 0
  | d :: r => uptoBulk d + uptoBulkAll r
def uptoBulkEntries {H : Type} : List (Lit × DataW H) → Nat
  | [] => 0
  | x :: r => uptoBulkEntry x + uptoBulkEntries r
def uptoBulkEntry {H : Type} : Lit × DataW H → Nat
  | (.string bytes, d) => bytes.length + uptoBulk d + 1
  | (_, d) => uptoBulk d + 1
 end
def uptoSmall : (H : Type) → List (DataW H) → Bool := fun _ ds => decide (uptoBulkAll ds ≤ 1048576)
def OpenSpec.upto (s : _root_.Go.ChangeSpec) : _root_.Go.OpenSpec := { _root_.Go.OpenSpec.ofChange s with cond := some uptoSmall }

/-- 'laws.FnWide', WHERE WHAT IT READS IS OF BULK AT MOST 1048576: true; the input reads as it did. -/
def fnWideUptoRow : OpenClaim := { program := "ytmhoppjekiiheaadoor", sum := "0a5e3f592002c630e2c1df9abcc6997fc392870674a7b933988c5c0a53e36c69", func := "loop.example/polarisedlight/laws.FnWide", spec := "fnWide", inPlace := ["internal/reflectlite.ValueOf", "(internal/reflectlite.Value).Type", "(internal/reflectlite.Value).IsNil", "internal/reflectlite.TypeOf", "(internal/reflectlite.Value).Elem", "(internal/reflectlite.Value).Set"], unfollowed := true, recurses := true, named := ["errors.errorType"], apart := false, laid := [("errors.errorType", laid_errors_errorType)], narrowed := true }
def FnWideUptoSaid : Prop := fnWideUptoRow.holds Tryd.pinned (OpenSpec.upto fnWideSpec)

/-- 'laws.FnExactFracValid', WHERE WHAT IT READS IS OF BULK AT MOST 1048576: true; the input reads as it did. -/
def fnExactFracValidUptoRow : OpenClaim := { program := "ytmhoppjekiiheaadoor", sum := "0a5e3f592002c630e2c1df9abcc6997fc392870674a7b933988c5c0a53e36c69", func := "loop.example/polarisedlight/laws.FnExactFracValid", spec := "fnExactFracValid", inPlace := ["internal/reflectlite.ValueOf", "(internal/reflectlite.Value).Type", "(internal/reflectlite.Value).IsNil", "internal/reflectlite.TypeOf", "(internal/reflectlite.Value).Elem", "(internal/reflectlite.Value).Set"], unfollowed := true, recurses := true, named := ["errors.errorType"], apart := false, laid := [("errors.errorType", laid_errors_errorType)], narrowed := true }
def FnExactFracValidUptoSaid : Prop := fnExactFracValidUptoRow.holds Tryd.pinned (OpenSpec.upto fnExactFracValidSpec)

/-- 'laws.FnExactFracMake', WHERE WHAT IT READS IS OF BULK AT MOST 1048576: true; the input reads as it did. -/
def fnExactFracMakeUptoRow : OpenClaim := { program := "ytmhoppjekiiheaadoor", sum := "0a5e3f592002c630e2c1df9abcc6997fc392870674a7b933988c5c0a53e36c69", func := "loop.example/polarisedlight/laws.FnExactFracMake", spec := "fnExactFracMake", inPlace := ["internal/reflectlite.ValueOf", "(internal/reflectlite.Value).Type", "(internal/reflectlite.Value).IsNil", "internal/reflectlite.TypeOf", "(internal/reflectlite.Value).Elem", "(internal/reflectlite.Value).Set"], unfollowed := true, recurses := true, named := ["errors.errorType"], apart := false, laid := [("errors.errorType", laid_errors_errorType)], narrowed := true }
def FnExactFracMakeUptoSaid : Prop := fnExactFracMakeUptoRow.holds Tryd.pinned (OpenSpec.upto fnExactFracMakeSpec)

/-- 'laws.FnExactFracAdd', WHERE WHAT IT READS IS OF BULK AT MOST 1048576: true; the input reads as it did. -/
def fnExactFracAddUptoRow : OpenClaim := { program := "ytmhoppjekiiheaadoor", sum := "0a5e3f592002c630e2c1df9abcc6997fc392870674a7b933988c5c0a53e36c69", func := "loop.example/polarisedlight/laws.FnExactFracAdd", spec := "fnExactFracAdd", inPlace := ["internal/reflectlite.ValueOf", "(internal/reflectlite.Value).Type", "(internal/reflectlite.Value).IsNil", "internal/reflectlite.TypeOf", "(internal/reflectlite.Value).Elem", "(internal/reflectlite.Value).Set"], unfollowed := true, recurses := true, named := ["errors.errorType"], apart := false, laid := [("errors.errorType", laid_errors_errorType)], narrowed := true }
def FnExactFracAddUptoSaid : Prop := fnExactFracAddUptoRow.holds Tryd.pinned (OpenSpec.upto fnExactFracAddSpec)

/-- 'laws.FnExactFracLess', WHERE WHAT IT READS IS OF BULK AT MOST 1048576: true; the input reads as it did. -/
def fnExactFracLessUptoRow : OpenClaim := { program := "ytmhoppjekiiheaadoor", sum := "0a5e3f592002c630e2c1df9abcc6997fc392870674a7b933988c5c0a53e36c69", func := "loop.example/polarisedlight/laws.FnExactFracLess", spec := "fnExactFracLess", inPlace := ["internal/reflectlite.ValueOf", "(internal/reflectlite.Value).Type", "(internal/reflectlite.Value).IsNil", "internal/reflectlite.TypeOf", "(internal/reflectlite.Value).Elem", "(internal/reflectlite.Value).Set"], unfollowed := true, recurses := true, named := ["errors.errorType"], apart := false, laid := [("errors.errorType", laid_errors_errorType)], narrowed := true }
def FnExactFracLessUptoSaid : Prop := fnExactFracLessUptoRow.holds Tryd.pinned (OpenSpec.upto fnExactFracLessSpec)

/-- 'laws.FnExactFracTimes', WHERE WHAT IT READS IS OF BULK AT MOST 1048576: true; the input reads as it did. -/
def fnExactFracTimesUptoRow : OpenClaim := { program := "ytmhoppjekiiheaadoor", sum := "0a5e3f592002c630e2c1df9abcc6997fc392870674a7b933988c5c0a53e36c69", func := "loop.example/polarisedlight/laws.FnExactFracTimes", spec := "fnExactFracTimes", inPlace := ["internal/reflectlite.ValueOf", "(internal/reflectlite.Value).Type", "(internal/reflectlite.Value).IsNil", "internal/reflectlite.TypeOf", "(internal/reflectlite.Value).Elem", "(internal/reflectlite.Value).Set"], unfollowed := true, recurses := true, named := ["errors.errorType"], apart := false, laid := [("errors.errorType", laid_errors_errorType)], narrowed := true }
def FnExactFracTimesUptoSaid : Prop := fnExactFracTimesUptoRow.holds Tryd.pinned (OpenSpec.upto fnExactFracTimesSpec)

/-- 'laws.FnExactFracOver', WHERE WHAT IT READS IS OF BULK AT MOST 1048576: true; the input reads as it did. -/
def fnExactFracOverUptoRow : OpenClaim := { program := "ytmhoppjekiiheaadoor", sum := "0a5e3f592002c630e2c1df9abcc6997fc392870674a7b933988c5c0a53e36c69", func := "loop.example/polarisedlight/laws.FnExactFracOver", spec := "fnExactFracOver", inPlace := ["internal/reflectlite.ValueOf", "(internal/reflectlite.Value).Type", "(internal/reflectlite.Value).IsNil", "internal/reflectlite.TypeOf", "(internal/reflectlite.Value).Elem", "(internal/reflectlite.Value).Set"], unfollowed := true, recurses := true, named := ["errors.errorType"], apart := false, laid := [("errors.errorType", laid_errors_errorType)], narrowed := true }
def FnExactFracOverUptoSaid : Prop := fnExactFracOverUptoRow.holds Tryd.pinned (OpenSpec.upto fnExactFracOverSpec)

/-- 'laws.FnExactFracMirror', WHERE WHAT IT READS IS OF BULK AT MOST 1048576: true; the input reads as it did. -/
def fnExactFracMirrorUptoRow : OpenClaim := { program := "ytmhoppjekiiheaadoor", sum := "0a5e3f592002c630e2c1df9abcc6997fc392870674a7b933988c5c0a53e36c69", func := "loop.example/polarisedlight/laws.FnExactFracMirror", spec := "fnExactFracMirror", inPlace := ["internal/reflectlite.ValueOf", "(internal/reflectlite.Value).Type", "(internal/reflectlite.Value).IsNil", "internal/reflectlite.TypeOf", "(internal/reflectlite.Value).Elem", "(internal/reflectlite.Value).Set"], unfollowed := true, recurses := true, named := ["errors.errorType"], apart := false, laid := [("errors.errorType", laid_errors_errorType)], narrowed := true }
def FnExactFracMirrorUptoSaid : Prop := fnExactFracMirrorUptoRow.holds Tryd.pinned (OpenSpec.upto fnExactFracMirrorSpec)

/-- 'laws.FnExactFracPower', WHERE WHAT IT READS IS OF BULK AT MOST 1048576: true; the input reads as it did. -/
def fnExactFracPowerUptoRow : OpenClaim := { program := "ytmhoppjekiiheaadoor", sum := "0a5e3f592002c630e2c1df9abcc6997fc392870674a7b933988c5c0a53e36c69", func := "loop.example/polarisedlight/laws.FnExactFracPower", spec := "fnExactFracPower", inPlace := ["internal/reflectlite.ValueOf", "(internal/reflectlite.Value).Type", "(internal/reflectlite.Value).IsNil", "internal/reflectlite.TypeOf", "(internal/reflectlite.Value).Elem", "(internal/reflectlite.Value).Set"], unfollowed := true, recurses := true, named := ["errors.errorType"], apart := false, laid := [("errors.errorType", laid_errors_errorType)], narrowed := true }
def FnExactFracPowerUptoSaid : Prop := fnExactFracPowerUptoRow.holds Tryd.pinned (OpenSpec.upto fnExactFracPowerSpec)

/-- 'laws.FnExactFracCompare', WHERE WHAT IT READS IS OF BULK AT MOST 1048576: true; the input reads as it did. -/
def fnExactFracCompareUptoRow : OpenClaim := { program := "ytmhoppjekiiheaadoor", sum := "0a5e3f592002c630e2c1df9abcc6997fc392870674a7b933988c5c0a53e36c69", func := "loop.example/polarisedlight/laws.FnExactFracCompare", spec := "fnExactFracCompare", inPlace := ["internal/reflectlite.ValueOf", "(internal/reflectlite.Value).Type", "(internal/reflectlite.Value).IsNil", "internal/reflectlite.TypeOf", "(internal/reflectlite.Value).Elem", "(internal/reflectlite.Value).Set"], unfollowed := true, recurses := true, named := ["errors.errorType"], apart := false, laid := [("errors.errorType", laid_errors_errorType)], narrowed := true }
def FnExactFracCompareUptoSaid : Prop := fnExactFracCompareUptoRow.holds Tryd.pinned (OpenSpec.upto fnExactFracCompareSpec)

/-- 'laws.FnExactFracWide', WHERE WHAT IT READS IS OF BULK AT MOST 1048576: true; the input reads as it did. -/
def fnExactFracWideUptoRow : OpenClaim := { program := "ytmhoppjekiiheaadoor", sum := "0a5e3f592002c630e2c1df9abcc6997fc392870674a7b933988c5c0a53e36c69", func := "loop.example/polarisedlight/laws.FnExactFracWide", spec := "fnExactFracWide", inPlace := ["internal/reflectlite.ValueOf", "(internal/reflectlite.Value).Type", "(internal/reflectlite.Value).IsNil", "internal/reflectlite.TypeOf", "(internal/reflectlite.Value).Elem", "(internal/reflectlite.Value).Set"], unfollowed := true, recurses := true, named := ["errors.errorType"], apart := false, laid := [("errors.errorType", laid_errors_errorType)], narrowed := true }
def FnExactFracWideUptoSaid : Prop := fnExactFracWideUptoRow.holds Tryd.pinned (OpenSpec.upto fnExactFracWideSpec)

/-- 'laws.FnExactFracSingle', WHERE WHAT IT READS IS OF BULK AT MOST 1048576: true; the input reads as it did. -/
def fnExactFracSingleUptoRow : OpenClaim := { program := "ytmhoppjekiiheaadoor", sum := "0a5e3f592002c630e2c1df9abcc6997fc392870674a7b933988c5c0a53e36c69", func := "loop.example/polarisedlight/laws.FnExactFracSingle", spec := "fnExactFracSingle", inPlace := ["internal/reflectlite.ValueOf", "(internal/reflectlite.Value).Type", "(internal/reflectlite.Value).IsNil", "internal/reflectlite.TypeOf", "(internal/reflectlite.Value).Elem", "(internal/reflectlite.Value).Set"], unfollowed := true, recurses := true, named := ["errors.errorType"], apart := false, laid := [("errors.errorType", laid_errors_errorType)], narrowed := true }
def FnExactFracSingleUptoSaid : Prop := fnExactFracSingleUptoRow.holds Tryd.pinned (OpenSpec.upto fnExactFracSingleSpec)

end Rows
end Go.Proofs.YtmhoppjekiiheaaDoor
