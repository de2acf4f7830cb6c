/-
  NARROWER THAN 'FOR EVERY INPUT', by the rows' own cells (each row's printed sentence says how): FnExactMatValid: laid · FnExactMatTimes: laid · FnExactMatAdjoint: laid · FnExactMatApply: laid · FnExactMatDet: laid · FnExactMatLossless: laid · FnExactMatAlike: laid · FnExactMatRotator: laid · FnExactMatPlate: laid · FnExactMatFilter: laid · FnExactMatScale: laid · FnMat: laid.
  DERIVED. THE GIVEN ROWS OF THIS SEAT. 12 by the template 'for every input the law returns true; each argument reads behind the call as it read before'; 0 by the template 'total and deterministic' (their statements: YtnfbopaafciiiaaDoorTotals.lean).
  GIVEN WITH THE SEED: the statements are not yours to turn. If you find one false, say at which input.
  Laid BY PROGRAM, IN A SANDBOX (cutbox-rows.mjs): the forced cells as the released guide's own fill.sh prints them over the translation b9f2062e246b6dc7… (all of the seat's roots in one cut). By AI agents, Wed Nov 11 2026. No macro, syntax, notation, axiom, sorry.
-/
import Derived.Test.YtnfbopaafciiiaaDoorChecked
import GoSem.Claim
import GoSem.ClaimJoined
import GoSem.ClaimMapViews
import Derived.JoinedTies
import Derived.KernelRfl
namespace Go.Proofs.YtnfbopaafciiiaaDoor
/- THE CELL 'sum', in the pinned program and in every row, IS THE sha256 OF THE DUMP (.gsa) THAT YtnfbopaafciiiaaDoorProg.lean LOADS. Nothing in Lean hashes anything: it is a label: what it is worth is what the hold of that sum in a sandbox is worth. -/
noncomputable def Tryd.pinned : Pinned := { name := "ytnfbopaafciiiaadoor", sum := "b9f2062e246b6dc76cb27ba44af0fa0e262d2b9c5bbe8dce9d0b84f0f7ef8442", checked := Tryd.checked }
namespace Rows
def none {H : Type} : Left H := { results := [], args := [] }

/- WHAT THE LISTED PACKAGE-LEVEL VARIABLES READ AS WHEN THE CALL BEGINS. Each datum BY PROGRAM (the guide's laid-datum.mjs) off the statement by which the dump's own 'gosem.cut.vars' lays the variable. In a bare row this is a premise. The card (YtnfbopaafciiiaaDoorCards.lean) ties it to the program's text. -/
def laid_errors_errorType {H : Type} : DataW H := .iface "internal/reflectlite.rtype" (.agg [.ptr (.lit (.string [101, 114, 114, 111, 114]))])

/-- 'laws.FnExactMatValid': WHATEVER THE INPUT: true; the input reads as it did. -/
def fnExactMatValidSpec : ChangeSpec := { name := "fnExactMatValid", fn := fun _ => fun
  | [d] => { results := [.lit (.bool true)], args := [d] }
  | _ => none }
def fnExactMatValidRow : OpenClaim := { program := "ytnfbopaafciiiaadoor", sum := "b9f2062e246b6dc76cb27ba44af0fa0e262d2b9c5bbe8dce9d0b84f0f7ef8442", func := "loop.example/polarisedlight/laws.FnExactMatValid", spec := "fnExactMatValid", inPlace := ["internal/reflectlite.ValueOf", "(internal/reflectlite.Value).Type", "(internal/reflectlite.Value).IsNil", "internal/reflectlite.TypeOf", "(internal/reflectlite.Value).Elem", "(internal/reflectlite.Value).Set"], unfollowed := true, recurses := true, named := ["errors.errorType"], apart := false, laid := [("errors.errorType", laid_errors_errorType)] }
def FnExactMatValidSaid : Prop := fnExactMatValidRow.holds Tryd.pinned (OpenSpec.ofChange fnExactMatValidSpec)

/-- ITS FALSE NEIGHBOUR: 'it returns false'. Refute it at one input. -/
def fnExactMatValidWrong : ChangeSpec := { name := "fnExactMatValid", fn := fun _ => fun
  | [d] => { results := [.lit (.bool false)], args := [d] }
  | _ => none }
def FnExactMatValidWrongFalsely : Prop := fnExactMatValidRow.holds Tryd.pinned (OpenSpec.ofChange fnExactMatValidWrong)

/-- 'laws.FnExactMatTimes': WHATEVER THE INPUT: true; the input reads as it did. -/
def fnExactMatTimesSpec : ChangeSpec := { name := "fnExactMatTimes", fn := fun _ => fun
  | [d1, d2] => { results := [.lit (.bool true)], args := [d1, d2] }
  | _ => none }
def fnExactMatTimesRow : OpenClaim := { program := "ytnfbopaafciiiaadoor", sum := "b9f2062e246b6dc76cb27ba44af0fa0e262d2b9c5bbe8dce9d0b84f0f7ef8442", func := "loop.example/polarisedlight/laws.FnExactMatTimes", spec := "fnExactMatTimes", inPlace := ["internal/reflectlite.ValueOf", "(internal/reflectlite.Value).Type", "(internal/reflectlite.Value).IsNil", "internal/reflectlite.TypeOf", "(internal/reflectlite.Value).Elem", "(internal/reflectlite.Value).Set"], unfollowed := true, recurses := true, named := ["errors.errorType"], apart := false, laid := [("errors.errorType", laid_errors_errorType)] }
def FnExactMatTimesSaid : Prop := fnExactMatTimesRow.holds Tryd.pinned (OpenSpec.ofChange fnExactMatTimesSpec)

/-- ITS FALSE NEIGHBOUR: 'it returns false'. Refute it at one input. -/
def fnExactMatTimesWrong : ChangeSpec := { name := "fnExactMatTimes", fn := fun _ => fun
  | [d1, d2] => { results := [.lit (.bool false)], args := [d1, d2] }
  | _ => none }
def FnExactMatTimesWrongFalsely : Prop := fnExactMatTimesRow.holds Tryd.pinned (OpenSpec.ofChange fnExactMatTimesWrong)

/-- 'laws.FnExactMatAdjoint': WHATEVER THE INPUT: true; the input reads as it did. -/
def fnExactMatAdjointSpec : ChangeSpec := { name := "fnExactMatAdjoint", fn := fun _ => fun
  | [d] => { results := [.lit (.bool true)], args := [d] }
  | _ => none }
def fnExactMatAdjointRow : OpenClaim := { program := "ytnfbopaafciiiaadoor", sum := "b9f2062e246b6dc76cb27ba44af0fa0e262d2b9c5bbe8dce9d0b84f0f7ef8442", func := "loop.example/polarisedlight/laws.FnExactMatAdjoint", spec := "fnExactMatAdjoint", inPlace := ["internal/reflectlite.ValueOf", "(internal/reflectlite.Value).Type", "(internal/reflectlite.Value).IsNil", "internal/reflectlite.TypeOf", "(internal/reflectlite.Value).Elem", "(internal/reflectlite.Value).Set"], unfollowed := true, recurses := true, named := ["errors.errorType"], apart := false, laid := [("errors.errorType", laid_errors_errorType)] }
def FnExactMatAdjointSaid : Prop := fnExactMatAdjointRow.holds Tryd.pinned (OpenSpec.ofChange fnExactMatAdjointSpec)

/-- ITS FALSE NEIGHBOUR: 'it returns false'. Refute it at one input. -/
def fnExactMatAdjointWrong : ChangeSpec := { name := "fnExactMatAdjoint", fn := fun _ => fun
  | [d] => { results := [.lit (.bool false)], args := [d] }
  | _ => none }
def FnExactMatAdjointWrongFalsely : Prop := fnExactMatAdjointRow.holds Tryd.pinned (OpenSpec.ofChange fnExactMatAdjointWrong)

/-- 'laws.FnExactMatApply': WHATEVER THE INPUT: true; the input reads as it did. -/
def fnExactMatApplySpec : ChangeSpec := { name := "fnExactMatApply", fn := fun _ => fun
  | [d1, d2] => { results := [.lit (.bool true)], args := [d1, d2] }
  | _ => none }
def fnExactMatApplyRow : OpenClaim := { program := "ytnfbopaafciiiaadoor", sum := "b9f2062e246b6dc76cb27ba44af0fa0e262d2b9c5bbe8dce9d0b84f0f7ef8442", func := "loop.example/polarisedlight/laws.FnExactMatApply", spec := "fnExactMatApply", inPlace := ["internal/reflectlite.ValueOf", "(internal/reflectlite.Value).Type", "(internal/reflectlite.Value).IsNil", "internal/reflectlite.TypeOf", "(internal/reflectlite.Value).Elem", "(internal/reflectlite.Value).Set"], unfollowed := true, recurses := true, named := ["errors.errorType"], apart := false, laid := [("errors.errorType", laid_errors_errorType)] }
def FnExactMatApplySaid : Prop := fnExactMatApplyRow.holds Tryd.pinned (OpenSpec.ofChange fnExactMatApplySpec)

/-- ITS FALSE NEIGHBOUR: 'it returns false'. Refute it at one input. -/
def fnExactMatApplyWrong : ChangeSpec := { name := "fnExactMatApply", fn := fun _ => fun
  | [d1, d2] => { results := [.lit (.bool false)], args := [d1, d2] }
  | _ => none }
def FnExactMatApplyWrongFalsely : Prop := fnExactMatApplyRow.holds Tryd.pinned (OpenSpec.ofChange fnExactMatApplyWrong)

/-- 'laws.FnExactMatDet': WHATEVER THE INPUT: true; the input reads as it did. -/
def fnExactMatDetSpec : ChangeSpec := { name := "fnExactMatDet", fn := fun _ => fun
  | [d] => { results := [.lit (.bool true)], args := [d] }
  | _ => none }
def fnExactMatDetRow : OpenClaim := { program := "ytnfbopaafciiiaadoor", sum := "b9f2062e246b6dc76cb27ba44af0fa0e262d2b9c5bbe8dce9d0b84f0f7ef8442", func := "loop.example/polarisedlight/laws.FnExactMatDet", spec := "fnExactMatDet", inPlace := ["internal/reflectlite.ValueOf", "(internal/reflectlite.Value).Type", "(internal/reflectlite.Value).IsNil", "internal/reflectlite.TypeOf", "(internal/reflectlite.Value).Elem", "(internal/reflectlite.Value).Set"], unfollowed := true, recurses := true, named := ["errors.errorType"], apart := false, laid := [("errors.errorType", laid_errors_errorType)] }
def FnExactMatDetSaid : Prop := fnExactMatDetRow.holds Tryd.pinned (OpenSpec.ofChange fnExactMatDetSpec)

/-- ITS FALSE NEIGHBOUR: 'it returns false'. Refute it at one input. -/
def fnExactMatDetWrong : ChangeSpec := { name := "fnExactMatDet", fn := fun _ => fun
  | [d] => { results := [.lit (.bool false)], args := [d] }
  | _ => none }
def FnExactMatDetWrongFalsely : Prop := fnExactMatDetRow.holds Tryd.pinned (OpenSpec.ofChange fnExactMatDetWrong)

/-- 'laws.FnExactMatLossless': WHATEVER THE INPUT: true; the input reads as it did. -/
def fnExactMatLosslessSpec : ChangeSpec := { name := "fnExactMatLossless", fn := fun _ => fun
  | [d] => { results := [.lit (.bool true)], args := [d] }
  | _ => none }
def fnExactMatLosslessRow : OpenClaim := { program := "ytnfbopaafciiiaadoor", sum := "b9f2062e246b6dc76cb27ba44af0fa0e262d2b9c5bbe8dce9d0b84f0f7ef8442", func := "loop.example/polarisedlight/laws.FnExactMatLossless", spec := "fnExactMatLossless", inPlace := ["internal/reflectlite.ValueOf", "(internal/reflectlite.Value).Type", "(internal/reflectlite.Value).IsNil", "internal/reflectlite.TypeOf", "(internal/reflectlite.Value).Elem", "(internal/reflectlite.Value).Set"], unfollowed := true, recurses := true, named := ["errors.errorType"], apart := false, laid := [("errors.errorType", laid_errors_errorType)] }
def FnExactMatLosslessSaid : Prop := fnExactMatLosslessRow.holds Tryd.pinned (OpenSpec.ofChange fnExactMatLosslessSpec)

/-- ITS FALSE NEIGHBOUR: 'it returns false'. Refute it at one input. -/
def fnExactMatLosslessWrong : ChangeSpec := { name := "fnExactMatLossless", fn := fun _ => fun
  | [d] => { results := [.lit (.bool false)], args := [d] }
  | _ => none }
def FnExactMatLosslessWrongFalsely : Prop := fnExactMatLosslessRow.holds Tryd.pinned (OpenSpec.ofChange fnExactMatLosslessWrong)

/-- 'laws.FnExactMatAlike': WHATEVER THE INPUT: true; the input reads as it did. -/
def fnExactMatAlikeSpec : ChangeSpec := { name := "fnExactMatAlike", fn := fun _ => fun
  | [d1, d2] => { results := [.lit (.bool true)], args := [d1, d2] }
  | _ => none }
def fnExactMatAlikeRow : OpenClaim := { program := "ytnfbopaafciiiaadoor", sum := "b9f2062e246b6dc76cb27ba44af0fa0e262d2b9c5bbe8dce9d0b84f0f7ef8442", func := "loop.example/polarisedlight/laws.FnExactMatAlike", spec := "fnExactMatAlike", inPlace := ["internal/reflectlite.ValueOf", "(internal/reflectlite.Value).Type", "(internal/reflectlite.Value).IsNil", "internal/reflectlite.TypeOf", "(internal/reflectlite.Value).Elem", "(internal/reflectlite.Value).Set"], unfollowed := true, recurses := true, named := ["errors.errorType"], apart := false, laid := [("errors.errorType", laid_errors_errorType)] }
def FnExactMatAlikeSaid : Prop := fnExactMatAlikeRow.holds Tryd.pinned (OpenSpec.ofChange fnExactMatAlikeSpec)

/-- ITS FALSE NEIGHBOUR: 'it returns false'. Refute it at one input. -/
def fnExactMatAlikeWrong : ChangeSpec := { name := "fnExactMatAlike", fn := fun _ => fun
  | [d1, d2] => { results := [.lit (.bool false)], args := [d1, d2] }
  | _ => none }
def FnExactMatAlikeWrongFalsely : Prop := fnExactMatAlikeRow.holds Tryd.pinned (OpenSpec.ofChange fnExactMatAlikeWrong)

/-- 'laws.FnExactMatRotator': WHATEVER THE INPUT: true; the input reads as it did. -/
def fnExactMatRotatorSpec : ChangeSpec := { name := "fnExactMatRotator", fn := fun _ => fun
  | [d1, d2] => { results := [.lit (.bool true)], args := [d1, d2] }
  | _ => none }
def fnExactMatRotatorRow : OpenClaim := { program := "ytnfbopaafciiiaadoor", sum := "b9f2062e246b6dc76cb27ba44af0fa0e262d2b9c5bbe8dce9d0b84f0f7ef8442", func := "loop.example/polarisedlight/laws.FnExactMatRotator", spec := "fnExactMatRotator", inPlace := ["internal/reflectlite.ValueOf", "(internal/reflectlite.Value).Type", "(internal/reflectlite.Value).IsNil", "internal/reflectlite.TypeOf", "(internal/reflectlite.Value).Elem", "(internal/reflectlite.Value).Set"], unfollowed := true, recurses := true, named := ["errors.errorType"], apart := false, laid := [("errors.errorType", laid_errors_errorType)] }
def FnExactMatRotatorSaid : Prop := fnExactMatRotatorRow.holds Tryd.pinned (OpenSpec.ofChange fnExactMatRotatorSpec)

/-- ITS FALSE NEIGHBOUR: 'it returns false'. Refute it at one input. -/
def fnExactMatRotatorWrong : ChangeSpec := { name := "fnExactMatRotator", fn := fun _ => fun
  | [d1, d2] => { results := [.lit (.bool false)], args := [d1, d2] }
  | _ => none }
def FnExactMatRotatorWrongFalsely : Prop := fnExactMatRotatorRow.holds Tryd.pinned (OpenSpec.ofChange fnExactMatRotatorWrong)

/-- 'laws.FnExactMatPlate': WHATEVER THE INPUT: true; the input reads as it did. -/
def fnExactMatPlateSpec : ChangeSpec := { name := "fnExactMatPlate", fn := fun _ => fun
  | [d1, d2, d3] => { results := [.lit (.bool true)], args := [d1, d2, d3] }
  | _ => none }
def fnExactMatPlateRow : OpenClaim := { program := "ytnfbopaafciiiaadoor", sum := "b9f2062e246b6dc76cb27ba44af0fa0e262d2b9c5bbe8dce9d0b84f0f7ef8442", func := "loop.example/polarisedlight/laws.FnExactMatPlate", spec := "fnExactMatPlate", inPlace := ["internal/reflectlite.ValueOf", "(internal/reflectlite.Value).Type", "(internal/reflectlite.Value).IsNil", "internal/reflectlite.TypeOf", "(internal/reflectlite.Value).Elem", "(internal/reflectlite.Value).Set"], unfollowed := true, recurses := true, named := ["errors.errorType"], apart := false, laid := [("errors.errorType", laid_errors_errorType)] }
def FnExactMatPlateSaid : Prop := fnExactMatPlateRow.holds Tryd.pinned (OpenSpec.ofChange fnExactMatPlateSpec)

/-- ITS FALSE NEIGHBOUR: 'it returns false'. Refute it at one input. -/
def fnExactMatPlateWrong : ChangeSpec := { name := "fnExactMatPlate", fn := fun _ => fun
  | [d1, d2, d3] => { results := [.lit (.bool false)], args := [d1, d2, d3] }
  | _ => none }
def FnExactMatPlateWrongFalsely : Prop := fnExactMatPlateRow.holds Tryd.pinned (OpenSpec.ofChange fnExactMatPlateWrong)

/-- 'laws.FnExactMatFilter': WHATEVER THE INPUT: true; the input reads as it did. -/
def fnExactMatFilterSpec : ChangeSpec := { name := "fnExactMatFilter", fn := fun _ => fun
  | [d1, d2] => { results := [.lit (.bool true)], args := [d1, d2] }
  | _ => none }
def fnExactMatFilterRow : OpenClaim := { program := "ytnfbopaafciiiaadoor", sum := "b9f2062e246b6dc76cb27ba44af0fa0e262d2b9c5bbe8dce9d0b84f0f7ef8442", func := "loop.example/polarisedlight/laws.FnExactMatFilter", spec := "fnExactMatFilter", inPlace := ["internal/reflectlite.ValueOf", "(internal/reflectlite.Value).Type", "(internal/reflectlite.Value).IsNil", "internal/reflectlite.TypeOf", "(internal/reflectlite.Value).Elem", "(internal/reflectlite.Value).Set"], unfollowed := true, recurses := true, named := ["errors.errorType"], apart := false, laid := [("errors.errorType", laid_errors_errorType)] }
def FnExactMatFilterSaid : Prop := fnExactMatFilterRow.holds Tryd.pinned (OpenSpec.ofChange fnExactMatFilterSpec)

/-- ITS FALSE NEIGHBOUR: 'it returns false'. Refute it at one input. -/
def fnExactMatFilterWrong : ChangeSpec := { name := "fnExactMatFilter", fn := fun _ => fun
  | [d1, d2] => { results := [.lit (.bool false)], args := [d1, d2] }
  | _ => none }
def FnExactMatFilterWrongFalsely : Prop := fnExactMatFilterRow.holds Tryd.pinned (OpenSpec.ofChange fnExactMatFilterWrong)

/-- 'laws.FnExactMatScale': WHATEVER THE INPUT: true; the input reads as it did. -/
def fnExactMatScaleSpec : ChangeSpec := { name := "fnExactMatScale", fn := fun _ => fun
  | [d1, d2] => { results := [.lit (.bool true)], args := [d1, d2] }
  | _ => none }
def fnExactMatScaleRow : OpenClaim := { program := "ytnfbopaafciiiaadoor", sum := "b9f2062e246b6dc76cb27ba44af0fa0e262d2b9c5bbe8dce9d0b84f0f7ef8442", func := "loop.example/polarisedlight/laws.FnExactMatScale", spec := "fnExactMatScale", inPlace := ["internal/reflectlite.ValueOf", "(internal/reflectlite.Value).Type", "(internal/reflectlite.Value).IsNil", "internal/reflectlite.TypeOf", "(internal/reflectlite.Value).Elem", "(internal/reflectlite.Value).Set"], unfollowed := true, recurses := true, named := ["errors.errorType"], apart := false, laid := [("errors.errorType", laid_errors_errorType)] }
def FnExactMatScaleSaid : Prop := fnExactMatScaleRow.holds Tryd.pinned (OpenSpec.ofChange fnExactMatScaleSpec)

/-- ITS FALSE NEIGHBOUR: 'it returns false'. Refute it at one input. -/
def fnExactMatScaleWrong : ChangeSpec := { name := "fnExactMatScale", fn := fun _ => fun
  | [d1, d2] => { results := [.lit (.bool false)], args := [d1, d2] }
  | _ => none }
def FnExactMatScaleWrongFalsely : Prop := fnExactMatScaleRow.holds Tryd.pinned (OpenSpec.ofChange fnExactMatScaleWrong)

/-- 'laws.FnMat': WHATEVER THE INPUT: true; the input reads as it did. -/
def fnMatSpec : ChangeSpec := { name := "fnMat", fn := fun _ => fun
  | [d] => { results := [.lit (.bool true)], args := [d] }
  | _ => none }
def fnMatRow : OpenClaim := { program := "ytnfbopaafciiiaadoor", sum := "b9f2062e246b6dc76cb27ba44af0fa0e262d2b9c5bbe8dce9d0b84f0f7ef8442", func := "loop.example/polarisedlight/laws.FnMat", spec := "fnMat", inPlace := ["internal/reflectlite.ValueOf", "(internal/reflectlite.Value).Type", "(internal/reflectlite.Value).IsNil", "internal/reflectlite.TypeOf", "(internal/reflectlite.Value).Elem", "(internal/reflectlite.Value).Set"], unfollowed := true, recurses := true, named := ["errors.errorType"], apart := false, laid := [("errors.errorType", laid_errors_errorType)] }
def FnMatSaid : Prop := fnMatRow.holds Tryd.pinned (OpenSpec.ofChange fnMatSpec)

/-- ITS FALSE NEIGHBOUR: 'it returns false'. Refute it at one input. -/
def fnMatWrong : ChangeSpec := { name := "fnMat", fn := fun _ => fun
  | [d] => { results := [.lit (.bool false)], args := [d] }
  | _ => none }
def FnMatWrongFalsely : Prop := fnMatRow.holds Tryd.pinned (OpenSpec.ofChange fnMatWrong)

/- THE SECOND FORM. 'bulk': how many values and letters a reading holds, each counted each time it is reached (what is shared counts as often as it is met; a slice's spare places count too). A statement '..UptoSaid' is the law's where the arguments, and the package variables that the reading takes, are together of bulk at most 1048576: NARROWER than '..Said'. Prove '..Said' where nothing that the law and all that it calls make is longer than what came in: it says more and counts as full. Else prove '..UptoSaid'. A law counts once. -/
mutual
def uptoBulk {H : Type} : DataW H → Nat
  | .lit (.string bytes) => bytes.length + 1
  | .lit _ => 1
  | .nil => 1
  | .ptr d => uptoBulk d + 1
  | .slice elems spare => uptoBulkAll elems + uptoBulkAll spare + 1
  | .agg parts => uptoBulkAll parts + 1
  | .iface _ d => uptoBulk d + 1
  | .map entries => uptoBulkEntries entries + 1
  | .held _ => 1
def uptoBulkAll {H : Type} : List (DataW H) → Nat
  | [] => 0
  | d :: r => uptoBulk d + uptoBulkAll r
def uptoBulkEntries {H : Type} : List (Lit × DataW H) → Nat
  | [] => 0
  | x :: r => uptoBulkEntry x + uptoBulkEntries r
def uptoBulkEntry {H : Type} : Lit × DataW H → Nat
  | (.string bytes, d) => bytes.length + uptoBulk d + 1
  | (_, d) => uptoBulk d + 1
 end
def uptoSmall : (H : Type) → List (DataW H) → Bool := fun _ ds => decide (uptoBulkAll ds ≤ 1048576)
def OpenSpec.upto (s : _root_.Go.ChangeSpec) : _root_.Go.OpenSpec := { _root_.Go.OpenSpec.ofChange s with cond := some uptoSmall }

/-- 'laws.FnExactMatValid', WHERE WHAT IT READS IS OF BULK AT MOST 1048576: true; the input reads as it did. -/
def fnExactMatValidUptoRow : OpenClaim := { program := "ytnfbopaafciiiaadoor", sum := "b9f2062e246b6dc76cb27ba44af0fa0e262d2b9c5bbe8dce9d0b84f0f7ef8442", func := "loop.example/polarisedlight/laws.FnExactMatValid", spec := "fnExactMatValid", inPlace := ["internal/reflectlite.ValueOf", "(internal/reflectlite.Value).Type", "(internal/reflectlite.Value).IsNil", "internal/reflectlite.TypeOf", "(internal/reflectlite.Value).Elem", "(internal/reflectlite.Value).Set"], unfollowed := true, recurses := true, named := ["errors.errorType"], apart := false, laid := [("errors.errorType", laid_errors_errorType)], narrowed := true }
def FnExactMatValidUptoSaid : Prop := fnExactMatValidUptoRow.holds Tryd.pinned (OpenSpec.upto fnExactMatValidSpec)

/-- 'laws.FnExactMatTimes', WHERE WHAT IT READS IS OF BULK AT MOST 1048576: true; the input reads as it did. -/
def fnExactMatTimesUptoRow : OpenClaim := { program := "ytnfbopaafciiiaadoor", sum := "b9f2062e246b6dc76cb27ba44af0fa0e262d2b9c5bbe8dce9d0b84f0f7ef8442", func := "loop.example/polarisedlight/laws.FnExactMatTimes", spec := "fnExactMatTimes", inPlace := ["internal/reflectlite.ValueOf", "(internal/reflectlite.Value).Type", "(internal/reflectlite.Value).IsNil", "internal/reflectlite.TypeOf", "(internal/reflectlite.Value).Elem", "(internal/reflectlite.Value).Set"], unfollowed := true, recurses := true, named := ["errors.errorType"], apart := false, laid := [("errors.errorType", laid_errors_errorType)], narrowed := true }
def FnExactMatTimesUptoSaid : Prop := fnExactMatTimesUptoRow.holds Tryd.pinned (OpenSpec.upto fnExactMatTimesSpec)

/-- 'laws.FnExactMatAdjoint', WHERE WHAT IT READS IS OF BULK AT MOST 1048576: true; the input reads as it did. -/
def fnExactMatAdjointUptoRow : OpenClaim := { program := "ytnfbopaafciiiaadoor", sum := "b9f2062e246b6dc76cb27ba44af0fa0e262d2b9c5bbe8dce9d0b84f0f7ef8442", func := "loop.example/polarisedlight/laws.FnExactMatAdjoint", spec := "fnExactMatAdjoint", inPlace := ["internal/reflectlite.ValueOf", "(internal/reflectlite.Value).Type", "(internal/reflectlite.Value).IsNil", "internal/reflectlite.TypeOf", "(internal/reflectlite.Value).Elem", "(internal/reflectlite.Value).Set"], unfollowed := true, recurses := true, named := ["errors.errorType"], apart := false, laid := [("errors.errorType", laid_errors_errorType)], narrowed := true }
def FnExactMatAdjointUptoSaid : Prop := fnExactMatAdjointUptoRow.holds Tryd.pinned (OpenSpec.upto fnExactMatAdjointSpec)

/-- 'laws.FnExactMatApply', WHERE WHAT IT READS IS OF BULK AT MOST 1048576: true; the input reads as it did. -/
def fnExactMatApplyUptoRow : OpenClaim := { program := "ytnfbopaafciiiaadoor", sum := "b9f2062e246b6dc76cb27ba44af0fa0e262d2b9c5bbe8dce9d0b84f0f7ef8442", func := "loop.example/polarisedlight/laws.FnExactMatApply", spec := "fnExactMatApply", inPlace := ["internal/reflectlite.ValueOf", "(internal/reflectlite.Value).Type", "(internal/reflectlite.Value).IsNil", "internal/reflectlite.TypeOf", "(internal/reflectlite.Value).Elem", "(internal/reflectlite.Value).Set"], unfollowed := true, recurses := true, named := ["errors.errorType"], apart := false, laid := [("errors.errorType", laid_errors_errorType)], narrowed := true }
def FnExactMatApplyUptoSaid : Prop := fnExactMatApplyUptoRow.holds Tryd.pinned (OpenSpec.upto fnExactMatApplySpec)

/-- 'laws.FnExactMatDet', WHERE WHAT IT READS IS OF BULK AT MOST 1048576: true; the input reads as it did. -/
def fnExactMatDetUptoRow : OpenClaim := { program := "ytnfbopaafciiiaadoor", sum := "b9f2062e246b6dc76cb27ba44af0fa0e262d2b9c5bbe8dce9d0b84f0f7ef8442", func := "loop.example/polarisedlight/laws.FnExactMatDet", spec := "fnExactMatDet", inPlace := ["internal/reflectlite.ValueOf", "(internal/reflectlite.Value).Type", "(internal/reflectlite.Value).IsNil", "internal/reflectlite.TypeOf", "(internal/reflectlite.Value).Elem", "(internal/reflectlite.Value).Set"], unfollowed := true, recurses := true, named := ["errors.errorType"], apart := false, laid := [("errors.errorType", laid_errors_errorType)], narrowed := true }
def FnExactMatDetUptoSaid : Prop := fnExactMatDetUptoRow.holds Tryd.pinned (OpenSpec.upto fnExactMatDetSpec)

/-- 'laws.FnExactMatLossless', WHERE WHAT IT READS IS OF BULK AT MOST 1048576: true; the input reads as it did. -/
def fnExactMatLosslessUptoRow : OpenClaim := { program := "ytnfbopaafciiiaadoor", sum := "b9f2062e246b6dc76cb27ba44af0fa0e262d2b9c5bbe8dce9d0b84f0f7ef8442", func := "loop.example/polarisedlight/laws.FnExactMatLossless", spec := "fnExactMatLossless", inPlace := ["internal/reflectlite.ValueOf", "(internal/reflectlite.Value).Type", "(internal/reflectlite.Value).IsNil", "internal/reflectlite.TypeOf", "(internal/reflectlite.Value).Elem", "(internal/reflectlite.Value).Set"], unfollowed := true, recurses := true, named := ["errors.errorType"], apart := false, laid := [("errors.errorType", laid_errors_errorType)], narrowed := true }
def FnExactMatLosslessUptoSaid : Prop := fnExactMatLosslessUptoRow.holds Tryd.pinned (OpenSpec.upto fnExactMatLosslessSpec)

/-- 'laws.FnExactMatAlike', WHERE WHAT IT READS IS OF BULK AT MOST 1048576: true; the input reads as it did. -/
def fnExactMatAlikeUptoRow : OpenClaim := { program := "ytnfbopaafciiiaadoor", sum := "b9f2062e246b6dc76cb27ba44af0fa0e262d2b9c5bbe8dce9d0b84f0f7ef8442", func := "loop.example/polarisedlight/laws.FnExactMatAlike", spec := "fnExactMatAlike", inPlace := ["internal/reflectlite.ValueOf", "(internal/reflectlite.Value).Type", "(internal/reflectlite.Value).IsNil", "internal/reflectlite.TypeOf", "(internal/reflectlite.Value).Elem", "(internal/reflectlite.Value).Set"], unfollowed := true, recurses := true, named := ["errors.errorType"], apart := false, laid := [("errors.errorType", laid_errors_errorType)], narrowed := true }
def FnExactMatAlikeUptoSaid : Prop := fnExactMatAlikeUptoRow.holds Tryd.pinned (OpenSpec.upto fnExactMatAlikeSpec)

/-- 'laws.FnExactMatRotator', WHERE WHAT IT READS IS OF BULK AT MOST 1048576: true; the input reads as it did. -/
def fnExactMatRotatorUptoRow : OpenClaim := { program := "ytnfbopaafciiiaadoor", sum := "b9f2062e246b6dc76cb27ba44af0fa0e262d2b9c5bbe8dce9d0b84f0f7ef8442", func := "loop.example/polarisedlight/laws.FnExactMatRotator", spec := "fnExactMatRotator", inPlace := ["internal/reflectlite.ValueOf", "(internal/reflectlite.Value).Type", "(internal/reflectlite.Value).IsNil", "internal/reflectlite.TypeOf", "(internal/reflectlite.Value).Elem", "(internal/reflectlite.Value).Set"], unfollowed := true, recurses := true, named := ["errors.errorType"], apart := false, laid := [("errors.errorType", laid_errors_errorType)], narrowed := true }
def FnExactMatRotatorUptoSaid : Prop := fnExactMatRotatorUptoRow.holds Tryd.pinned (OpenSpec.upto fnExactMatRotatorSpec)

/-- 'laws.FnExactMatPlate', WHERE WHAT IT READS IS OF BULK AT MOST 1048576: true; the input reads as it did. -/
def fnExactMatPlateUptoRow : OpenClaim := { program := "ytnfbopaafciiiaadoor", sum := "b9f2062e246b6dc76cb27ba44af0fa0e262d2b9c5bbe8dce9d0b84f0f7ef8442", func := "loop.example/polarisedlight/laws.FnExactMatPlate", spec := "fnExactMatPlate", inPlace := ["internal/reflectlite.ValueOf", "(internal/reflectlite.Value).Type", "(internal/reflectlite.Value).IsNil", "internal/reflectlite.TypeOf", "(internal/reflectlite.Value).Elem", "(internal/reflectlite.Value).Set"], unfollowed := true, recurses := true, named := ["errors.errorType"], apart := false, laid := [("errors.errorType", laid_errors_errorType)], narrowed := true }
def FnExactMatPlateUptoSaid : Prop := fnExactMatPlateUptoRow.holds Tryd.pinned (OpenSpec.upto fnExactMatPlateSpec)

/-- 'laws.FnExactMatFilter', WHERE WHAT IT READS IS OF BULK AT MOST 1048576: true; the input reads as it did. -/
def fnExactMatFilterUptoRow : OpenClaim := { program := "ytnfbopaafciiiaadoor", sum := "b9f2062e246b6dc76cb27ba44af0fa0e262d2b9c5bbe8dce9d0b84f0f7ef8442", func := "loop.example/polarisedlight/laws.FnExactMatFilter", spec := "fnExactMatFilter", inPlace := ["internal/reflectlite.ValueOf", "(internal/reflectlite.Value).Type", "(internal/reflectlite.Value).IsNil", "internal/reflectlite.TypeOf", "(internal/reflectlite.Value).Elem", "(internal/reflectlite.Value).Set"], unfollowed := true, recurses := true, named := ["errors.errorType"], apart := false, laid := [("errors.errorType", laid_errors_errorType)], narrowed := true }
def FnExactMatFilterUptoSaid : Prop := fnExactMatFilterUptoRow.holds Tryd.pinned (OpenSpec.upto fnExactMatFilterSpec)

/-- 'laws.FnExactMatScale', WHERE WHAT IT READS IS OF BULK AT MOST 1048576: true; the input reads as it did. -/
def fnExactMatScaleUptoRow : OpenClaim := { program := "ytnfbopaafciiiaadoor", sum := "b9f2062e246b6dc76cb27ba44af0fa0e262d2b9c5bbe8dce9d0b84f0f7ef8442", func := "loop.example/polarisedlight/laws.FnExactMatScale", spec := "fnExactMatScale", inPlace := ["internal/reflectlite.ValueOf", "(internal/reflectlite.Value).Type", "(internal/reflectlite.Value).IsNil", "internal/reflectlite.TypeOf", "(internal/reflectlite.Value).Elem", "(internal/reflectlite.Value).Set"], unfollowed := true, recurses := true, named := ["errors.errorType"], apart := false, laid := [("errors.errorType", laid_errors_errorType)], narrowed := true }
def FnExactMatScaleUptoSaid : Prop := fnExactMatScaleUptoRow.holds Tryd.pinned (OpenSpec.upto fnExactMatScaleSpec)

/-- 'laws.FnMat', WHERE WHAT IT READS IS OF BULK AT MOST 1048576: true; the input reads as it did. -/
def fnMatUptoRow : OpenClaim := { program := "ytnfbopaafciiiaadoor", sum := "b9f2062e246b6dc76cb27ba44af0fa0e262d2b9c5bbe8dce9d0b84f0f7ef8442", func := "loop.example/polarisedlight/laws.FnMat", spec := "fnMat", inPlace := ["internal/reflectlite.ValueOf", "(internal/reflectlite.Value).Type", "(internal/reflectlite.Value).IsNil", "internal/reflectlite.TypeOf", "(internal/reflectlite.Value).Elem", "(internal/reflectlite.Value).Set"], unfollowed := true, recurses := true, named := ["errors.errorType"], apart := false, laid := [("errors.errorType", laid_errors_errorType)], narrowed := true }
def FnMatUptoSaid : Prop := fnMatUptoRow.holds Tryd.pinned (OpenSpec.upto fnMatSpec)

end Rows
end Go.Proofs.YtnfbopaafciiiaaDoor
