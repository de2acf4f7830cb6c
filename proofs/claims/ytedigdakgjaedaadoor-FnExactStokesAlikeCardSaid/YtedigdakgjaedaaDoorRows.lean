/-
  NARROWER THAN 'FOR EVERY INPUT', by the rows' own cells (each row's printed sentence says how): FnExactStokesValid: laid · FnExactStokesSquares: laid · FnExactStokesLight: laid · FnExactStokesPure: laid · FnExactStokesOf: laid · FnExactStokesAdd: laid · FnExactStokesTimes: laid · FnExactStokesVector: laid · FnExactStokesAlike: laid · FnExactStokesMirror: laid · FnExactJonesPower: laid · FnExactJonesAlike: laid.
  DERIVED. THE GIVEN ROWS OF THIS SEAT. 12 by the template 'for every input the law returns true; each argument reads behind the call as it read before'; 0 by the template 'total and deterministic' (their statements: YtedigdakgjaedaaDoorTotals.lean).
  GIVEN WITH THE SEED: the statements are not yours to turn. If you find one false, say at which input.
  Laid BY PROGRAM, IN A SANDBOX (cutbox-rows.mjs): the forced cells as the released guide's own fill.sh prints them over the translation f9f870b48d5dc0c3… (all of the seat's roots in one cut). By AI agents, Wed Nov 11 2026. No macro, syntax, notation, axiom, sorry.
-/
import Derived.Test.YtedigdakgjaedaaDoorChecked
import GoSem.Claim
import GoSem.ClaimJoined
import GoSem.ClaimMapViews
import Derived.JoinedTies
import Derived.KernelRfl
namespace Go.Proofs.YtedigdakgjaedaaDoor
/- THE CELL 'sum', in the pinned program and in every row, IS THE sha256 OF THE DUMP (.gsa) THAT YtedigdakgjaedaaDoorProg.lean LOADS. Nothing in Lean hashes anything: it is a label: what it is worth is what the hold of that sum in a sandbox is worth. -/
noncomputable def Tryd.pinned : Pinned := { name := "ytedigdakgjaedaadoor", sum := "f9f870b48d5dc0c352393e23e62a8b033c8d58923dfc73b07f1eb798917c74e1", checked := Tryd.checked }
namespace Rows
def none {H : Type} : Left H := { results := [], args := [] }

/- WHAT THE LISTED PACKAGE-LEVEL VARIABLES READ AS WHEN THE CALL BEGINS. Each datum BY PROGRAM (the guide's laid-datum.mjs) off the statement by which the dump's own 'gosem.cut.vars' lays the variable. In a bare row this is a premise. The card (YtedigdakgjaedaaDoorCards.lean) ties it to the program's text. -/
def laid_errors_errorType {H : Type} : DataW H := .iface "internal/reflectlite.rtype" (.agg [.ptr (.lit (.string [101, 114, 114, 111, 114]))])

/-- 'laws.FnExactStokesValid': WHATEVER THE INPUT: true; the input reads as it did. -/
def fnExactStokesValidSpec : ChangeSpec := { name := "fnExactStokesValid", fn := fun _ => fun
  | [d] => { results := [.lit (.bool true)], args := [d] }
  | _ => none }
def fnExactStokesValidRow : OpenClaim := { program := "ytedigdakgjaedaadoor", sum := "f9f870b48d5dc0c352393e23e62a8b033c8d58923dfc73b07f1eb798917c74e1", func := "loop.example/polarisedlight/laws.FnExactStokesValid", spec := "fnExactStokesValid", inPlace := ["internal/reflectlite.ValueOf", "(internal/reflectlite.Value).Type", "(internal/reflectlite.Value).IsNil", "internal/reflectlite.TypeOf", "(internal/reflectlite.Value).Elem", "(internal/reflectlite.Value).Set"], unfollowed := true, recurses := true, named := ["errors.errorType"], apart := false, laid := [("errors.errorType", laid_errors_errorType)] }
def FnExactStokesValidSaid : Prop := fnExactStokesValidRow.holds Tryd.pinned (OpenSpec.ofChange fnExactStokesValidSpec)

/-- ITS FALSE NEIGHBOUR: 'it returns false'. Refute it at one input. -/
def fnExactStokesValidWrong : ChangeSpec := { name := "fnExactStokesValid", fn := fun _ => fun
  | [d] => { results := [.lit (.bool false)], args := [d] }
  | _ => none }
def FnExactStokesValidWrongFalsely : Prop := fnExactStokesValidRow.holds Tryd.pinned (OpenSpec.ofChange fnExactStokesValidWrong)

/-- 'laws.FnExactStokesSquares': WHATEVER THE INPUT: true; the input reads as it did. -/
def fnExactStokesSquaresSpec : ChangeSpec := { name := "fnExactStokesSquares", fn := fun _ => fun
  | [d] => { results := [.lit (.bool true)], args := [d] }
  | _ => none }
def fnExactStokesSquaresRow : OpenClaim := { program := "ytedigdakgjaedaadoor", sum := "f9f870b48d5dc0c352393e23e62a8b033c8d58923dfc73b07f1eb798917c74e1", func := "loop.example/polarisedlight/laws.FnExactStokesSquares", spec := "fnExactStokesSquares", inPlace := ["internal/reflectlite.ValueOf", "(internal/reflectlite.Value).Type", "(internal/reflectlite.Value).IsNil", "internal/reflectlite.TypeOf", "(internal/reflectlite.Value).Elem", "(internal/reflectlite.Value).Set"], unfollowed := true, recurses := true, named := ["errors.errorType"], apart := false, laid := [("errors.errorType", laid_errors_errorType)] }
def FnExactStokesSquaresSaid : Prop := fnExactStokesSquaresRow.holds Tryd.pinned (OpenSpec.ofChange fnExactStokesSquaresSpec)

/-- ITS FALSE NEIGHBOUR: 'it returns false'. Refute it at one input. -/
def fnExactStokesSquaresWrong : ChangeSpec := { name := "fnExactStokesSquares", fn := fun _ => fun
  | [d] => { results := [.lit (.bool false)], args := [d] }
  | _ => none }
def FnExactStokesSquaresWrongFalsely : Prop := fnExactStokesSquaresRow.holds Tryd.pinned (OpenSpec.ofChange fnExactStokesSquaresWrong)

/-- 'laws.FnExactStokesLight': WHATEVER THE INPUT: true; the input reads as it did. -/
def fnExactStokesLightSpec : ChangeSpec := { name := "fnExactStokesLight", fn := fun _ => fun
  | [d] => { results := [.lit (.bool true)], args := [d] }
  | _ => none }
def fnExactStokesLightRow : OpenClaim := { program := "ytedigdakgjaedaadoor", sum := "f9f870b48d5dc0c352393e23e62a8b033c8d58923dfc73b07f1eb798917c74e1", func := "loop.example/polarisedlight/laws.FnExactStokesLight", spec := "fnExactStokesLight", inPlace := ["internal/reflectlite.ValueOf", "(internal/reflectlite.Value).Type", "(internal/reflectlite.Value).IsNil", "internal/reflectlite.TypeOf", "(internal/reflectlite.Value).Elem", "(internal/reflectlite.Value).Set"], unfollowed := true, recurses := true, named := ["errors.errorType"], apart := false, laid := [("errors.errorType", laid_errors_errorType)] }
def FnExactStokesLightSaid : Prop := fnExactStokesLightRow.holds Tryd.pinned (OpenSpec.ofChange fnExactStokesLightSpec)

/-- ITS FALSE NEIGHBOUR: 'it returns false'. Refute it at one input. -/
def fnExactStokesLightWrong : ChangeSpec := { name := "fnExactStokesLight", fn := fun _ => fun
  | [d] => { results := [.lit (.bool false)], args := [d] }
  | _ => none }
def FnExactStokesLightWrongFalsely : Prop := fnExactStokesLightRow.holds Tryd.pinned (OpenSpec.ofChange fnExactStokesLightWrong)

/-- 'laws.FnExactStokesPure': WHATEVER THE INPUT: true; the input reads as it did. -/
def fnExactStokesPureSpec : ChangeSpec := { name := "fnExactStokesPure", fn := fun _ => fun
  | [d] => { results := [.lit (.bool true)], args := [d] }
  | _ => none }
def fnExactStokesPureRow : OpenClaim := { program := "ytedigdakgjaedaadoor", sum := "f9f870b48d5dc0c352393e23e62a8b033c8d58923dfc73b07f1eb798917c74e1", func := "loop.example/polarisedlight/laws.FnExactStokesPure", spec := "fnExactStokesPure", inPlace := ["internal/reflectlite.ValueOf", "(internal/reflectlite.Value).Type", "(internal/reflectlite.Value).IsNil", "internal/reflectlite.TypeOf", "(internal/reflectlite.Value).Elem", "(internal/reflectlite.Value).Set"], unfollowed := true, recurses := true, named := ["errors.errorType"], apart := false, laid := [("errors.errorType", laid_errors_errorType)] }
def FnExactStokesPureSaid : Prop := fnExactStokesPureRow.holds Tryd.pinned (OpenSpec.ofChange fnExactStokesPureSpec)

/-- ITS FALSE NEIGHBOUR: 'it returns false'. Refute it at one input. -/
def fnExactStokesPureWrong : ChangeSpec := { name := "fnExactStokesPure", fn := fun _ => fun
  | [d] => { results := [.lit (.bool false)], args := [d] }
  | _ => none }
def FnExactStokesPureWrongFalsely : Prop := fnExactStokesPureRow.holds Tryd.pinned (OpenSpec.ofChange fnExactStokesPureWrong)

/-- 'laws.FnExactStokesOf': WHATEVER THE INPUT: true; the input reads as it did. -/
def fnExactStokesOfSpec : ChangeSpec := { name := "fnExactStokesOf", fn := fun _ => fun
  | [d] => { results := [.lit (.bool true)], args := [d] }
  | _ => none }
def fnExactStokesOfRow : OpenClaim := { program := "ytedigdakgjaedaadoor", sum := "f9f870b48d5dc0c352393e23e62a8b033c8d58923dfc73b07f1eb798917c74e1", func := "loop.example/polarisedlight/laws.FnExactStokesOf", spec := "fnExactStokesOf", inPlace := ["internal/reflectlite.ValueOf", "(internal/reflectlite.Value).Type", "(internal/reflectlite.Value).IsNil", "internal/reflectlite.TypeOf", "(internal/reflectlite.Value).Elem", "(internal/reflectlite.Value).Set"], unfollowed := true, recurses := true, named := ["errors.errorType"], apart := false, laid := [("errors.errorType", laid_errors_errorType)] }
def FnExactStokesOfSaid : Prop := fnExactStokesOfRow.holds Tryd.pinned (OpenSpec.ofChange fnExactStokesOfSpec)

/-- ITS FALSE NEIGHBOUR: 'it returns false'. Refute it at one input. -/
def fnExactStokesOfWrong : ChangeSpec := { name := "fnExactStokesOf", fn := fun _ => fun
  | [d] => { results := [.lit (.bool false)], args := [d] }
  | _ => none }
def FnExactStokesOfWrongFalsely : Prop := fnExactStokesOfRow.holds Tryd.pinned (OpenSpec.ofChange fnExactStokesOfWrong)

/-- 'laws.FnExactStokesAdd': WHATEVER THE INPUT: true; the input reads as it did. -/
def fnExactStokesAddSpec : ChangeSpec := { name := "fnExactStokesAdd", fn := fun _ => fun
  | [d1, d2] => { results := [.lit (.bool true)], args := [d1, d2] }
  | _ => none }
def fnExactStokesAddRow : OpenClaim := { program := "ytedigdakgjaedaadoor", sum := "f9f870b48d5dc0c352393e23e62a8b033c8d58923dfc73b07f1eb798917c74e1", func := "loop.example/polarisedlight/laws.FnExactStokesAdd", spec := "fnExactStokesAdd", inPlace := ["internal/reflectlite.ValueOf", "(internal/reflectlite.Value).Type", "(internal/reflectlite.Value).IsNil", "internal/reflectlite.TypeOf", "(internal/reflectlite.Value).Elem", "(internal/reflectlite.Value).Set"], unfollowed := true, recurses := true, named := ["errors.errorType"], apart := false, laid := [("errors.errorType", laid_errors_errorType)] }
def FnExactStokesAddSaid : Prop := fnExactStokesAddRow.holds Tryd.pinned (OpenSpec.ofChange fnExactStokesAddSpec)

/-- ITS FALSE NEIGHBOUR: 'it returns false'. Refute it at one input. -/
def fnExactStokesAddWrong : ChangeSpec := { name := "fnExactStokesAdd", fn := fun _ => fun
  | [d1, d2] => { results := [.lit (.bool false)], args := [d1, d2] }
  | _ => none }
def FnExactStokesAddWrongFalsely : Prop := fnExactStokesAddRow.holds Tryd.pinned (OpenSpec.ofChange fnExactStokesAddWrong)

/-- 'laws.FnExactStokesTimes': WHATEVER THE INPUT: true; the input reads as it did. -/
def fnExactStokesTimesSpec : ChangeSpec := { name := "fnExactStokesTimes", fn := fun _ => fun
  | [d1, d2] => { results := [.lit (.bool true)], args := [d1, d2] }
  | _ => none }
def fnExactStokesTimesRow : OpenClaim := { program := "ytedigdakgjaedaadoor", sum := "f9f870b48d5dc0c352393e23e62a8b033c8d58923dfc73b07f1eb798917c74e1", func := "loop.example/polarisedlight/laws.FnExactStokesTimes", spec := "fnExactStokesTimes", inPlace := ["internal/reflectlite.ValueOf", "(internal/reflectlite.Value).Type", "(internal/reflectlite.Value).IsNil", "internal/reflectlite.TypeOf", "(internal/reflectlite.Value).Elem", "(internal/reflectlite.Value).Set"], unfollowed := true, recurses := true, named := ["errors.errorType"], apart := false, laid := [("errors.errorType", laid_errors_errorType)] }
def FnExactStokesTimesSaid : Prop := fnExactStokesTimesRow.holds Tryd.pinned (OpenSpec.ofChange fnExactStokesTimesSpec)

/-- ITS FALSE NEIGHBOUR: 'it returns false'. Refute it at one input. -/
def fnExactStokesTimesWrong : ChangeSpec := { name := "fnExactStokesTimes", fn := fun _ => fun
  | [d1, d2] => { results := [.lit (.bool false)], args := [d1, d2] }
  | _ => none }
def FnExactStokesTimesWrongFalsely : Prop := fnExactStokesTimesRow.holds Tryd.pinned (OpenSpec.ofChange fnExactStokesTimesWrong)

/-- 'laws.FnExactStokesVector': WHATEVER THE INPUT: true; the input reads as it did. -/
def fnExactStokesVectorSpec : ChangeSpec := { name := "fnExactStokesVector", fn := fun _ => fun
  | [d] => { results := [.lit (.bool true)], args := [d] }
  | _ => none }
def fnExactStokesVectorRow : OpenClaim := { program := "ytedigdakgjaedaadoor", sum := "f9f870b48d5dc0c352393e23e62a8b033c8d58923dfc73b07f1eb798917c74e1", func := "loop.example/polarisedlight/laws.FnExactStokesVector", spec := "fnExactStokesVector", inPlace := ["internal/reflectlite.ValueOf", "(internal/reflectlite.Value).Type", "(internal/reflectlite.Value).IsNil", "internal/reflectlite.TypeOf", "(internal/reflectlite.Value).Elem", "(internal/reflectlite.Value).Set"], unfollowed := true, recurses := true, named := ["errors.errorType"], apart := false, laid := [("errors.errorType", laid_errors_errorType)] }
def FnExactStokesVectorSaid : Prop := fnExactStokesVectorRow.holds Tryd.pinned (OpenSpec.ofChange fnExactStokesVectorSpec)

/-- ITS FALSE NEIGHBOUR: 'it returns false'. Refute it at one input. -/
def fnExactStokesVectorWrong : ChangeSpec := { name := "fnExactStokesVector", fn := fun _ => fun
  | [d] => { results := [.lit (.bool false)], args := [d] }
  | _ => none }
def FnExactStokesVectorWrongFalsely : Prop := fnExactStokesVectorRow.holds Tryd.pinned (OpenSpec.ofChange fnExactStokesVectorWrong)

/-- 'laws.FnExactStokesAlike': WHATEVER THE INPUT: true; the input reads as it did. -/
def fnExactStokesAlikeSpec : ChangeSpec := { name := "fnExactStokesAlike", fn := fun _ => fun
  | [d1, d2] => { results := [.lit (.bool true)], args := [d1, d2] }
  | _ => none }
def fnExactStokesAlikeRow : OpenClaim := { program := "ytedigdakgjaedaadoor", sum := "f9f870b48d5dc0c352393e23e62a8b033c8d58923dfc73b07f1eb798917c74e1", func := "loop.example/polarisedlight/laws.FnExactStokesAlike", spec := "fnExactStokesAlike", inPlace := ["internal/reflectlite.ValueOf", "(internal/reflectlite.Value).Type", "(internal/reflectlite.Value).IsNil", "internal/reflectlite.TypeOf", "(internal/reflectlite.Value).Elem", "(internal/reflectlite.Value).Set"], unfollowed := true, recurses := true, named := ["errors.errorType"], apart := false, laid := [("errors.errorType", laid_errors_errorType)] }
def FnExactStokesAlikeSaid : Prop := fnExactStokesAlikeRow.holds Tryd.pinned (OpenSpec.ofChange fnExactStokesAlikeSpec)

/-- ITS FALSE NEIGHBOUR: 'it returns false'. Refute it at one input. -/
def fnExactStokesAlikeWrong : ChangeSpec := { name := "fnExactStokesAlike", fn := fun _ => fun
  | [d1, d2] => { results := [.lit (.bool false)], args := [d1, d2] }
  | _ => none }
def FnExactStokesAlikeWrongFalsely : Prop := fnExactStokesAlikeRow.holds Tryd.pinned (OpenSpec.ofChange fnExactStokesAlikeWrong)

/-- 'laws.FnExactStokesMirror': WHATEVER THE INPUT: true; the input reads as it did. -/
def fnExactStokesMirrorSpec : ChangeSpec := { name := "fnExactStokesMirror", fn := fun _ => fun
  | [d] => { results := [.lit (.bool true)], args := [d] }
  | _ => none }
def fnExactStokesMirrorRow : OpenClaim := { program := "ytedigdakgjaedaadoor", sum := "f9f870b48d5dc0c352393e23e62a8b033c8d58923dfc73b07f1eb798917c74e1", func := "loop.example/polarisedlight/laws.FnExactStokesMirror", spec := "fnExactStokesMirror", inPlace := ["internal/reflectlite.ValueOf", "(internal/reflectlite.Value).Type", "(internal/reflectlite.Value).IsNil", "internal/reflectlite.TypeOf", "(internal/reflectlite.Value).Elem", "(internal/reflectlite.Value).Set"], unfollowed := true, recurses := true, named := ["errors.errorType"], apart := false, laid := [("errors.errorType", laid_errors_errorType)] }
def FnExactStokesMirrorSaid : Prop := fnExactStokesMirrorRow.holds Tryd.pinned (OpenSpec.ofChange fnExactStokesMirrorSpec)

/-- ITS FALSE NEIGHBOUR: 'it returns false'. Refute it at one input. -/
def fnExactStokesMirrorWrong : ChangeSpec := { name := "fnExactStokesMirror", fn := fun _ => fun
  | [d] => { results := [.lit (.bool false)], args := [d] }
  | _ => none }
def FnExactStokesMirrorWrongFalsely : Prop := fnExactStokesMirrorRow.holds Tryd.pinned (OpenSpec.ofChange fnExactStokesMirrorWrong)

/-- 'laws.FnExactJonesPower': WHATEVER THE INPUT: true; the input reads as it did. -/
def fnExactJonesPowerSpec : ChangeSpec := { name := "fnExactJonesPower", fn := fun _ => fun
  | [d] => { results := [.lit (.bool true)], args := [d] }
  | _ => none }
def fnExactJonesPowerRow : OpenClaim := { program := "ytedigdakgjaedaadoor", sum := "f9f870b48d5dc0c352393e23e62a8b033c8d58923dfc73b07f1eb798917c74e1", func := "loop.example/polarisedlight/laws.FnExactJonesPower", spec := "fnExactJonesPower", inPlace := ["internal/reflectlite.ValueOf", "(internal/reflectlite.Value).Type", "(internal/reflectlite.Value).IsNil", "internal/reflectlite.TypeOf", "(internal/reflectlite.Value).Elem", "(internal/reflectlite.Value).Set"], unfollowed := true, recurses := true, named := ["errors.errorType"], apart := false, laid := [("errors.errorType", laid_errors_errorType)] }
def FnExactJonesPowerSaid : Prop := fnExactJonesPowerRow.holds Tryd.pinned (OpenSpec.ofChange fnExactJonesPowerSpec)

/-- ITS FALSE NEIGHBOUR: 'it returns false'. Refute it at one input. -/
def fnExactJonesPowerWrong : ChangeSpec := { name := "fnExactJonesPower", fn := fun _ => fun
  | [d] => { results := [.lit (.bool false)], args := [d] }
  | _ => none }
def FnExactJonesPowerWrongFalsely : Prop := fnExactJonesPowerRow.holds Tryd.pinned (OpenSpec.ofChange fnExactJonesPowerWrong)

/-- 'laws.FnExactJonesAlike': WHATEVER THE INPUT: true; the input reads as it did. -/
def fnExactJonesAlikeSpec : ChangeSpec := { name := "fnExactJonesAlike", fn := fun _ => fun
  | [d1, d2] => { results := [.lit (.bool true)], args := [d1, d2] }
  | _ => none }
def fnExactJonesAlikeRow : OpenClaim := { program := "ytedigdakgjaedaadoor", sum := "f9f870b48d5dc0c352393e23e62a8b033c8d58923dfc73b07f1eb798917c74e1", func := "loop.example/polarisedlight/laws.FnExactJonesAlike", spec := "fnExactJonesAlike", inPlace := ["internal/reflectlite.ValueOf", "(internal/reflectlite.Value).Type", "(internal/reflectlite.Value).IsNil", "internal/reflectlite.TypeOf", "(internal/reflectlite.Value).Elem", "(internal/reflectlite.Value).Set"], unfollowed := true, recurses := true, named := ["errors.errorType"], apart := false, laid := [("errors.errorType", laid_errors_errorType)] }
def FnExactJonesAlikeSaid : Prop := fnExactJonesAlikeRow.holds Tryd.pinned (OpenSpec.ofChange fnExactJonesAlikeSpec)

/-- ITS FALSE NEIGHBOUR: 'it returns false'. Refute it at one input. -/
def fnExactJonesAlikeWrong : ChangeSpec := { name := "fnExactJonesAlike", fn := fun _ => fun
  | [d1, d2] => { results := [.lit (.bool false)], args := [d1, d2] }
  | _ => none }
def FnExactJonesAlikeWrongFalsely : Prop := fnExactJonesAlikeRow.holds Tryd.pinned (OpenSpec.ofChange fnExactJonesAlikeWrong)

/- THE SECOND FORM. 'bulk': how many values and letters a reading holds, each counted each time it is reached (what is shared counts as often as it is met; a slice's spare places count too). A statement '..UptoSaid' is the law's where the arguments, and the package variables that the reading takes, are together of bulk at most 1048576: NARROWER than '..Said'. Prove '..Said' where nothing that the law and all that it calls make is longer than what came in: it says more and counts as full. Else prove '..UptoSaid'. A law counts once. -/
mutual
def uptoBulk {H : Type} : DataW H → Nat
  | .lit (.string bytes) => bytes.length + 1
  | .lit _ => 1
  | .nil => 1
  | .ptr d => uptoBulk d + 1
  | .slice elems spare => uptoBulkAll elems + uptoBulkAll spare + 1
  | .agg parts => uptoBulkAll parts + 1
  | .iface _ d => uptoBulk d + 1
  | .map entries => uptoBulkEntries entries + 1
  | .held _ => 1
def uptoBulkAll {H : Type} : List (DataW H) → Nat
  | [] => 0
  | d :: r => uptoBulk d + uptoBulkAll r
def uptoBulkEntries {H : Type} : List (Lit × DataW H) → Nat
  | [] => 0
  | x :: r => uptoBulkEntry x + uptoBulkEntries r
def uptoBulkEntry {H : Type} : Lit × DataW H → Nat
  | (.string bytes, d) => bytes.length + uptoBulk d + 1
  | (_, d) => uptoBulk d + 1
 end
def uptoSmall : (H : Type) → List (DataW H) → Bool := fun _ ds => decide (uptoBulkAll ds ≤ 1048576)
def OpenSpec.upto (s : _root_.Go.ChangeSpec) : _root_.Go.OpenSpec := { _root_.Go.OpenSpec.ofChange s with cond := some uptoSmall }

/-- 'laws.FnExactStokesValid', WHERE WHAT IT READS IS OF BULK AT MOST 1048576: true; the input reads as it did. -/
def fnExactStokesValidUptoRow : OpenClaim := { program := "ytedigdakgjaedaadoor", sum := "f9f870b48d5dc0c352393e23e62a8b033c8d58923dfc73b07f1eb798917c74e1", func := "loop.example/polarisedlight/laws.FnExactStokesValid", spec := "fnExactStokesValid", inPlace := ["internal/reflectlite.ValueOf", "(internal/reflectlite.Value).Type", "(internal/reflectlite.Value).IsNil", "internal/reflectlite.TypeOf", "(internal/reflectlite.Value).Elem", "(internal/reflectlite.Value).Set"], unfollowed := true, recurses := true, named := ["errors.errorType"], apart := false, laid := [("errors.errorType", laid_errors_errorType)], narrowed := true }
def FnExactStokesValidUptoSaid : Prop := fnExactStokesValidUptoRow.holds Tryd.pinned (OpenSpec.upto fnExactStokesValidSpec)

/-- 'laws.FnExactStokesSquares', WHERE WHAT IT READS IS OF BULK AT MOST 1048576: true; the input reads as it did. -/
def fnExactStokesSquaresUptoRow : OpenClaim := { program := "ytedigdakgjaedaadoor", sum := "f9f870b48d5dc0c352393e23e62a8b033c8d58923dfc73b07f1eb798917c74e1", func := "loop.example/polarisedlight/laws.FnExactStokesSquares", spec := "fnExactStokesSquares", inPlace := ["internal/reflectlite.ValueOf", "(internal/reflectlite.Value).Type", "(internal/reflectlite.Value).IsNil", "internal/reflectlite.TypeOf", "(internal/reflectlite.Value).Elem", "(internal/reflectlite.Value).Set"], unfollowed := true, recurses := true, named := ["errors.errorType"], apart := false, laid := [("errors.errorType", laid_errors_errorType)], narrowed := true }
def FnExactStokesSquaresUptoSaid : Prop := fnExactStokesSquaresUptoRow.holds Tryd.pinned (OpenSpec.upto fnExactStokesSquaresSpec)

/-- 'laws.FnExactStokesLight', WHERE WHAT IT READS IS OF BULK AT MOST 1048576: true; the input reads as it did. -/
def fnExactStokesLightUptoRow : OpenClaim := { program := "ytedigdakgjaedaadoor", sum := "f9f870b48d5dc0c352393e23e62a8b033c8d58923dfc73b07f1eb798917c74e1", func := "loop.example/polarisedlight/laws.FnExactStokesLight", spec := "fnExactStokesLight", inPlace := ["internal/reflectlite.ValueOf", "(internal/reflectlite.Value).Type", "(internal/reflectlite.Value).IsNil", "internal/reflectlite.TypeOf", "(internal/reflectlite.Value).Elem", "(internal/reflectlite.Value).Set"], unfollowed := true, recurses := true, named := ["errors.errorType"], apart := false, laid := [("errors.errorType", laid_errors_errorType)], narrowed := true }
def FnExactStokesLightUptoSaid : Prop := fnExactStokesLightUptoRow.holds Tryd.pinned (OpenSpec.upto fnExactStokesLightSpec)

/-- 'laws.FnExactStokesPure', WHERE WHAT IT READS IS OF BULK AT MOST 1048576: true; the input reads as it did. -/
def fnExactStokesPureUptoRow : OpenClaim := { program := "ytedigdakgjaedaadoor", sum := "f9f870b48d5dc0c352393e23e62a8b033c8d58923dfc73b07f1eb798917c74e1", func := "loop.example/polarisedlight/laws.FnExactStokesPure", spec := "fnExactStokesPure", inPlace := ["internal/reflectlite.ValueOf", "(internal/reflectlite.Value).Type", "(internal/reflectlite.Value).IsNil", "internal/reflectlite.TypeOf", "(internal/reflectlite.Value).Elem", "(internal/reflectlite.Value).Set"], unfollowed := true, recurses := true, named := ["errors.errorType"], apart := false, laid := [("errors.errorType", laid_errors_errorType)], narrowed := true }
def FnExactStokesPureUptoSaid : Prop := fnExactStokesPureUptoRow.holds Tryd.pinned (OpenSpec.upto fnExactStokesPureSpec)

/-- 'laws.FnExactStokesOf', WHERE WHAT IT READS IS OF BULK AT MOST 1048576: true; the input reads as it did. -/
def fnExactStokesOfUptoRow : OpenClaim := { program := "ytedigdakgjaedaadoor", sum := "f9f870b48d5dc0c352393e23e62a8b033c8d58923dfc73b07f1eb798917c74e1", func := "loop.example/polarisedlight/laws.FnExactStokesOf", spec := "fnExactStokesOf", inPlace := ["internal/reflectlite.ValueOf", "(internal/reflectlite.Value).Type", "(internal/reflectlite.Value).IsNil", "internal/reflectlite.TypeOf", "(internal/reflectlite.Value).Elem", "(internal/reflectlite.Value).Set"], unfollowed := true, recurses := true, named := ["errors.errorType"], apart := false, laid := [("errors.errorType", laid_errors_errorType)], narrowed := true }
def FnExactStokesOfUptoSaid : Prop := fnExactStokesOfUptoRow.holds Tryd.pinned (OpenSpec.upto fnExactStokesOfSpec)

/-- 'laws.FnExactStokesAdd', WHERE WHAT IT READS IS OF BULK AT MOST 1048576: true; the input reads as it did. -/
def fnExactStokesAddUptoRow : OpenClaim := { program := "ytedigdakgjaedaadoor", sum := "f9f870b48d5dc0c352393e23e62a8b033c8d58923dfc73b07f1eb798917c74e1", func := "loop.example/polarisedlight/laws.FnExactStokesAdd", spec := "fnExactStokesAdd", inPlace := ["internal/reflectlite.ValueOf", "(internal/reflectlite.Value).Type", "(internal/reflectlite.Value).IsNil", "internal/reflectlite.TypeOf", "(internal/reflectlite.Value).Elem", "(internal/reflectlite.Value).Set"], unfollowed := true, recurses := true, named := ["errors.errorType"], apart := false, laid := [("errors.errorType", laid_errors_errorType)], narrowed := true }
def FnExactStokesAddUptoSaid : Prop := fnExactStokesAddUptoRow.holds Tryd.pinned (OpenSpec.upto fnExactStokesAddSpec)

/-- 'laws.FnExactStokesTimes', WHERE WHAT IT READS IS OF BULK AT MOST 1048576: true; the input reads as it did. -/
def fnExactStokesTimesUptoRow : OpenClaim := { program := "ytedigdakgjaedaadoor", sum := "f9f870b48d5dc0c352393e23e62a8b033c8d58923dfc73b07f1eb798917c74e1", func := "loop.example/polarisedlight/laws.FnExactStokesTimes", spec := "fnExactStokesTimes", inPlace := ["internal/reflectlite.ValueOf", "(internal/reflectlite.Value).Type", "(internal/reflectlite.Value).IsNil", "internal/reflectlite.TypeOf", "(internal/reflectlite.Value).Elem", "(internal/reflectlite.Value).Set"], unfollowed := true, recurses := true, named := ["errors.errorType"], apart := false, laid := [("errors.errorType", laid_errors_errorType)], narrowed := true }
def FnExactStokesTimesUptoSaid : Prop := fnExactStokesTimesUptoRow.holds Tryd.pinned (OpenSpec.upto fnExactStokesTimesSpec)

/-- 'laws.FnExactStokesVector', WHERE WHAT IT READS IS OF BULK AT MOST 1048576: true; the input reads as it did. -/
def fnExactStokesVectorUptoRow : OpenClaim := { program := "ytedigdakgjaedaadoor", sum := "f9f870b48d5dc0c352393e23e62a8b033c8d58923dfc73b07f1eb798917c74e1", func := "loop.example/polarisedlight/laws.FnExactStokesVector", spec := "fnExactStokesVector", inPlace := ["internal/reflectlite.ValueOf", "(internal/reflectlite.Value).Type", "(internal/reflectlite.Value).IsNil", "internal/reflectlite.TypeOf", "(internal/reflectlite.Value).Elem", "(internal/reflectlite.Value).Set"], unfollowed := true, recurses := true, named := ["errors.errorType"], apart := false, laid := [("errors.errorType", laid_errors_errorType)], narrowed := true }
def FnExactStokesVectorUptoSaid : Prop := fnExactStokesVectorUptoRow.holds Tryd.pinned (OpenSpec.upto fnExactStokesVectorSpec)

/-- 'laws.FnExactStokesAlike', WHERE WHAT IT READS IS OF BULK AT MOST 1048576: true; the input reads as it did. -/
def fnExactStokesAlikeUptoRow : OpenClaim := { program := "ytedigdakgjaedaadoor", sum := "f9f870b48d5dc0c352393e23e62a8b033c8d58923dfc73b07f1eb798917c74e1", func := "loop.example/polarisedlight/laws.FnExactStokesAlike", spec := "fnExactStokesAlike", inPlace := ["internal/reflectlite.ValueOf", "(internal/reflectlite.Value).Type", "(internal/reflectlite.Value).IsNil", "internal/reflectlite.TypeOf", "(internal/reflectlite.Value).Elem", "(internal/reflectlite.Value).Set"], unfollowed := true, recurses := true, named := ["errors.errorType"], apart := false, laid := [("errors.errorType", laid_errors_errorType)], narrowed := true }
def FnExactStokesAlikeUptoSaid : Prop := fnExactStokesAlikeUptoRow.holds Tryd.pinned (OpenSpec.upto fnExactStokesAlikeSpec)

/-- 'laws.FnExactStokesMirror', WHERE WHAT IT READS IS OF BULK AT MOST 1048576: true; the input reads as it did. -/
def fnExactStokesMirrorUptoRow : OpenClaim := { program := "ytedigdakgjaedaadoor", sum := "f9f870b48d5dc0c352393e23e62a8b033c8d58923dfc73b07f1eb798917c74e1", func := "loop.example/polarisedlight/laws.FnExactStokesMirror", spec := "fnExactStokesMirror", inPlace := ["internal/reflectlite.ValueOf", "(internal/reflectlite.Value).Type", "(internal/reflectlite.Value).IsNil", "internal/reflectlite.TypeOf", "(internal/reflectlite.Value).Elem", "(internal/reflectlite.Value).Set"], unfollowed := true, recurses := true, named := ["errors.errorType"], apart := false, laid := [("errors.errorType", laid_errors_errorType)], narrowed := true }
def FnExactStokesMirrorUptoSaid : Prop := fnExactStokesMirrorUptoRow.holds Tryd.pinned (OpenSpec.upto fnExactStokesMirrorSpec)

/-- 'laws.FnExactJonesPower', WHERE WHAT IT READS IS OF BULK AT MOST 1048576: true; the input reads as it did. -/
def fnExactJonesPowerUptoRow : OpenClaim := { program := "ytedigdakgjaedaadoor", sum := "f9f870b48d5dc0c352393e23e62a8b033c8d58923dfc73b07f1eb798917c74e1", func := "loop.example/polarisedlight/laws.FnExactJonesPower", spec := "fnExactJonesPower", inPlace := ["internal/reflectlite.ValueOf", "(internal/reflectlite.Value).Type", "(internal/reflectlite.Value).IsNil", "internal/reflectlite.TypeOf", "(internal/reflectlite.Value).Elem", "(internal/reflectlite.Value).Set"], unfollowed := true, recurses := true, named := ["errors.errorType"], apart := false, laid := [("errors.errorType", laid_errors_errorType)], narrowed := true }
def FnExactJonesPowerUptoSaid : Prop := fnExactJonesPowerUptoRow.holds Tryd.pinned (OpenSpec.upto fnExactJonesPowerSpec)

/-- 'laws.FnExactJonesAlike', WHERE WHAT IT READS IS OF BULK AT MOST 1048576: true; the input reads as it did. -/
def fnExactJonesAlikeUptoRow : OpenClaim := { program := "ytedigdakgjaedaadoor", sum := "f9f870b48d5dc0c352393e23e62a8b033c8d58923dfc73b07f1eb798917c74e1", func := "loop.example/polarisedlight/laws.FnExactJonesAlike", spec := "fnExactJonesAlike", inPlace := ["internal/reflectlite.ValueOf", "(internal/reflectlite.Value).Type", "(internal/reflectlite.Value).IsNil", "internal/reflectlite.TypeOf", "(internal/reflectlite.Value).Elem", "(internal/reflectlite.Value).Set"], unfollowed := true, recurses := true, named := ["errors.errorType"], apart := false, laid := [("errors.errorType", laid_errors_errorType)], narrowed := true }
def FnExactJonesAlikeUptoSaid : Prop := fnExactJonesAlikeUptoRow.holds Tryd.pinned (OpenSpec.upto fnExactJonesAlikeSpec)

end Rows
end Go.Proofs.YtedigdakgjaedaaDoor
