/-
  NARROWER THAN 'FOR EVERY INPUT', by the rows' own cells (each row's printed sentence says how): FnJonesAlike: laid · FnJonesMirror: laid · FnStokes: laid · FnLight: laid · FnStokesOf: laid · FnStokesAdd: laid · FnStokesTimes: laid · FnSquares: laid · FnVector: laid · FnStokesAlike: laid · FnStokesMirror: laid.
  DERIVED. THE GIVEN ROWS OF THIS SEAT. 11 by the template 'for every input the law returns true; each argument reads behind the call as it read before'; 0 by the template 'total and deterministic' (their statements: YtedigdakgjaedabDoorTotals.lean).
  GIVEN WITH THE SEED: the statements are not yours to turn. If you find one false, say at which input.
  Laid BY PROGRAM, IN A SANDBOX (cutbox-rows.mjs): the forced cells as the released guide's own fill.sh prints them over the translation 9ff2ea8e7371a33c… (all of the seat's roots in one cut). By AI agents, Wed Nov 11 2026. No macro, syntax, notation, axiom, sorry.
-/
import Derived.Test.YtedigdakgjaedabDoorChecked
import GoSem.Claim
import GoSem.ClaimJoined
import GoSem.ClaimMapViews
import Derived.JoinedTies
import Derived.KernelRfl
namespace Go.Proofs.YtedigdakgjaedabDoor
/- THE CELL 'sum', in the pinned program and in every row, IS THE sha256 OF THE DUMP (.gsa) THAT YtedigdakgjaedabDoorProg.lean LOADS. Nothing in Lean hashes anything: it is a label: what it is worth is what the hold of that sum in a sandbox is worth. -/
noncomputable def Tryd.pinned : Pinned := { name := "ytedigdakgjaedabdoor", sum := "9ff2ea8e7371a33c608c4e4a84090dd6125d74e6ed30ba49e2bb468e13f028a8", checked := Tryd.checked }
namespace Rows
def none {H : Type} : Left H := { results := [], args := [] }

/- WHAT THE LISTED PACKAGE-LEVEL VARIABLES READ AS WHEN THE CALL BEGINS. Each datum BY PROGRAM (the guide's laid-datum.mjs) off the statement by which the dump's own 'gosem.cut.vars' lays the variable. In a bare row this is a premise. The card (YtedigdakgjaedabDoorCards.lean) ties it to the program's text. -/
def laid_errors_errorType {H : Type} : DataW H := .iface "internal/reflectlite.rtype" (.agg [.ptr (.lit (.string [101, 114, 114, 111, 114]))])

/-- 'laws.FnJonesAlike': WHATEVER THE INPUT: true; the input reads as it did. -/
def fnJonesAlikeSpec : ChangeSpec := { name := "fnJonesAlike", fn := fun _ => fun
  | [d] => { results := [.lit (.bool true)], args := [d] }
  | _ => none }
def fnJonesAlikeRow : OpenClaim := { program := "ytedigdakgjaedabdoor", sum := "9ff2ea8e7371a33c608c4e4a84090dd6125d74e6ed30ba49e2bb468e13f028a8", func := "loop.example/polarisedlight/laws.FnJonesAlike", spec := "fnJonesAlike", inPlace := ["internal/reflectlite.ValueOf", "(internal/reflectlite.Value).Type", "(internal/reflectlite.Value).IsNil", "internal/reflectlite.TypeOf", "(internal/reflectlite.Value).Elem", "(internal/reflectlite.Value).Set"], unfollowed := true, recurses := true, named := ["errors.errorType"], apart := false, laid := [("errors.errorType", laid_errors_errorType)] }
def FnJonesAlikeSaid : Prop := fnJonesAlikeRow.holds Tryd.pinned (OpenSpec.ofChange fnJonesAlikeSpec)

/-- ITS FALSE NEIGHBOUR: 'it returns false'. Refute it at one input. -/
def fnJonesAlikeWrong : ChangeSpec := { name := "fnJonesAlike", fn := fun _ => fun
  | [d] => { results := [.lit (.bool false)], args := [d] }
  | _ => none }
def FnJonesAlikeWrongFalsely : Prop := fnJonesAlikeRow.holds Tryd.pinned (OpenSpec.ofChange fnJonesAlikeWrong)

/-- 'laws.FnJonesMirror': WHATEVER THE INPUT: true; the input reads as it did. -/
def fnJonesMirrorSpec : ChangeSpec := { name := "fnJonesMirror", fn := fun _ => fun
  | [d] => { results := [.lit (.bool true)], args := [d] }
  | _ => none }
def fnJonesMirrorRow : OpenClaim := { program := "ytedigdakgjaedabdoor", sum := "9ff2ea8e7371a33c608c4e4a84090dd6125d74e6ed30ba49e2bb468e13f028a8", func := "loop.example/polarisedlight/laws.FnJonesMirror", spec := "fnJonesMirror", inPlace := ["internal/reflectlite.ValueOf", "(internal/reflectlite.Value).Type", "(internal/reflectlite.Value).IsNil", "internal/reflectlite.TypeOf", "(internal/reflectlite.Value).Elem", "(internal/reflectlite.Value).Set"], unfollowed := true, recurses := true, named := ["errors.errorType"], apart := false, laid := [("errors.errorType", laid_errors_errorType)] }
def FnJonesMirrorSaid : Prop := fnJonesMirrorRow.holds Tryd.pinned (OpenSpec.ofChange fnJonesMirrorSpec)

/-- ITS FALSE NEIGHBOUR: 'it returns false'. Refute it at one input. -/
def fnJonesMirrorWrong : ChangeSpec := { name := "fnJonesMirror", fn := fun _ => fun
  | [d] => { results := [.lit (.bool false)], args := [d] }
  | _ => none }
def FnJonesMirrorWrongFalsely : Prop := fnJonesMirrorRow.holds Tryd.pinned (OpenSpec.ofChange fnJonesMirrorWrong)

/-- 'laws.FnStokes': WHATEVER THE INPUT: true; the input reads as it did. -/
def fnStokesSpec : ChangeSpec := { name := "fnStokes", fn := fun _ => fun
  | [d] => { results := [.lit (.bool true)], args := [d] }
  | _ => none }
def fnStokesRow : OpenClaim := { program := "ytedigdakgjaedabdoor", sum := "9ff2ea8e7371a33c608c4e4a84090dd6125d74e6ed30ba49e2bb468e13f028a8", func := "loop.example/polarisedlight/laws.FnStokes", spec := "fnStokes", inPlace := ["internal/reflectlite.ValueOf", "(internal/reflectlite.Value).Type", "(internal/reflectlite.Value).IsNil", "internal/reflectlite.TypeOf", "(internal/reflectlite.Value).Elem", "(internal/reflectlite.Value).Set"], unfollowed := true, recurses := true, named := ["errors.errorType"], apart := false, laid := [("errors.errorType", laid_errors_errorType)] }
def FnStokesSaid : Prop := fnStokesRow.holds Tryd.pinned (OpenSpec.ofChange fnStokesSpec)

/-- ITS FALSE NEIGHBOUR: 'it returns false'. Refute it at one input. -/
def fnStokesWrong : ChangeSpec := { name := "fnStokes", fn := fun _ => fun
  | [d] => { results := [.lit (.bool false)], args := [d] }
  | _ => none }
def FnStokesWrongFalsely : Prop := fnStokesRow.holds Tryd.pinned (OpenSpec.ofChange fnStokesWrong)

/-- 'laws.FnLight': WHATEVER THE INPUT: true; the input reads as it did. -/
def fnLightSpec : ChangeSpec := { name := "fnLight", fn := fun _ => fun
  | [d] => { results := [.lit (.bool true)], args := [d] }
  | _ => none }
def fnLightRow : OpenClaim := { program := "ytedigdakgjaedabdoor", sum := "9ff2ea8e7371a33c608c4e4a84090dd6125d74e6ed30ba49e2bb468e13f028a8", func := "loop.example/polarisedlight/laws.FnLight", spec := "fnLight", inPlace := ["internal/reflectlite.ValueOf", "(internal/reflectlite.Value).Type", "(internal/reflectlite.Value).IsNil", "internal/reflectlite.TypeOf", "(internal/reflectlite.Value).Elem", "(internal/reflectlite.Value).Set"], unfollowed := true, recurses := true, named := ["errors.errorType"], apart := false, laid := [("errors.errorType", laid_errors_errorType)] }
def FnLightSaid : Prop := fnLightRow.holds Tryd.pinned (OpenSpec.ofChange fnLightSpec)

/-- ITS FALSE NEIGHBOUR: 'it returns false'. Refute it at one input. -/
def fnLightWrong : ChangeSpec := { name := "fnLight", fn := fun _ => fun
  | [d] => { results := [.lit (.bool false)], args := [d] }
  | _ => none }
def FnLightWrongFalsely : Prop := fnLightRow.holds Tryd.pinned (OpenSpec.ofChange fnLightWrong)

/-- 'laws.FnStokesOf': WHATEVER THE INPUT: true; the input reads as it did. -/
def fnStokesOfSpec : ChangeSpec := { name := "fnStokesOf", fn := fun _ => fun
  | [d] => { results := [.lit (.bool true)], args := [d] }
  | _ => none }
def fnStokesOfRow : OpenClaim := { program := "ytedigdakgjaedabdoor", sum := "9ff2ea8e7371a33c608c4e4a84090dd6125d74e6ed30ba49e2bb468e13f028a8", func := "loop.example/polarisedlight/laws.FnStokesOf", spec := "fnStokesOf", inPlace := ["internal/reflectlite.ValueOf", "(internal/reflectlite.Value).Type", "(internal/reflectlite.Value).IsNil", "internal/reflectlite.TypeOf", "(internal/reflectlite.Value).Elem", "(internal/reflectlite.Value).Set"], unfollowed := true, recurses := true, named := ["errors.errorType"], apart := false, laid := [("errors.errorType", laid_errors_errorType)] }
def FnStokesOfSaid : Prop := fnStokesOfRow.holds Tryd.pinned (OpenSpec.ofChange fnStokesOfSpec)

/-- ITS FALSE NEIGHBOUR: 'it returns false'. Refute it at one input. -/
def fnStokesOfWrong : ChangeSpec := { name := "fnStokesOf", fn := fun _ => fun
  | [d] => { results := [.lit (.bool false)], args := [d] }
  | _ => none }
def FnStokesOfWrongFalsely : Prop := fnStokesOfRow.holds Tryd.pinned (OpenSpec.ofChange fnStokesOfWrong)

/-- 'laws.FnStokesAdd': WHATEVER THE INPUT: true; the input reads as it did. -/
def fnStokesAddSpec : ChangeSpec := { name := "fnStokesAdd", fn := fun _ => fun
  | [d] => { results := [.lit (.bool true)], args := [d] }
  | _ => none }
def fnStokesAddRow : OpenClaim := { program := "ytedigdakgjaedabdoor", sum := "9ff2ea8e7371a33c608c4e4a84090dd6125d74e6ed30ba49e2bb468e13f028a8", func := "loop.example/polarisedlight/laws.FnStokesAdd", spec := "fnStokesAdd", inPlace := ["internal/reflectlite.ValueOf", "(internal/reflectlite.Value).Type", "(internal/reflectlite.Value).IsNil", "internal/reflectlite.TypeOf", "(internal/reflectlite.Value).Elem", "(internal/reflectlite.Value).Set"], unfollowed := true, recurses := true, named := ["errors.errorType"], apart := false, laid := [("errors.errorType", laid_errors_errorType)] }
def FnStokesAddSaid : Prop := fnStokesAddRow.holds Tryd.pinned (OpenSpec.ofChange fnStokesAddSpec)

/-- ITS FALSE NEIGHBOUR: 'it returns false'. Refute it at one input. -/
def fnStokesAddWrong : ChangeSpec := { name := "fnStokesAdd", fn := fun _ => fun
  | [d] => { results := [.lit (.bool false)], args := [d] }
  | _ => none }
def FnStokesAddWrongFalsely : Prop := fnStokesAddRow.holds Tryd.pinned (OpenSpec.ofChange fnStokesAddWrong)

/-- 'laws.FnStokesTimes': WHATEVER THE INPUT: true; the input reads as it did. -/
def fnStokesTimesSpec : ChangeSpec := { name := "fnStokesTimes", fn := fun _ => fun
  | [d] => { results := [.lit (.bool true)], args := [d] }
  | _ => none }
def fnStokesTimesRow : OpenClaim := { program := "ytedigdakgjaedabdoor", sum := "9ff2ea8e7371a33c608c4e4a84090dd6125d74e6ed30ba49e2bb468e13f028a8", func := "loop.example/polarisedlight/laws.FnStokesTimes", spec := "fnStokesTimes", inPlace := ["internal/reflectlite.ValueOf", "(internal/reflectlite.Value).Type", "(internal/reflectlite.Value).IsNil", "internal/reflectlite.TypeOf", "(internal/reflectlite.Value).Elem", "(internal/reflectlite.Value).Set"], unfollowed := true, recurses := true, named := ["errors.errorType"], apart := false, laid := [("errors.errorType", laid_errors_errorType)] }
def FnStokesTimesSaid : Prop := fnStokesTimesRow.holds Tryd.pinned (OpenSpec.ofChange fnStokesTimesSpec)

/-- ITS FALSE NEIGHBOUR: 'it returns false'. Refute it at one input. -/
def fnStokesTimesWrong : ChangeSpec := { name := "fnStokesTimes", fn := fun _ => fun
  | [d] => { results := [.lit (.bool false)], args := [d] }
  | _ => none }
def FnStokesTimesWrongFalsely : Prop := fnStokesTimesRow.holds Tryd.pinned (OpenSpec.ofChange fnStokesTimesWrong)

/-- 'laws.FnSquares': WHATEVER THE INPUT: true; the input reads as it did. -/
def fnSquaresSpec : ChangeSpec := { name := "fnSquares", fn := fun _ => fun
  | [d] => { results := [.lit (.bool true)], args := [d] }
  | _ => none }
def fnSquaresRow : OpenClaim := { program := "ytedigdakgjaedabdoor", sum := "9ff2ea8e7371a33c608c4e4a84090dd6125d74e6ed30ba49e2bb468e13f028a8", func := "loop.example/polarisedlight/laws.FnSquares", spec := "fnSquares", inPlace := ["internal/reflectlite.ValueOf", "(internal/reflectlite.Value).Type", "(internal/reflectlite.Value).IsNil", "internal/reflectlite.TypeOf", "(internal/reflectlite.Value).Elem", "(internal/reflectlite.Value).Set"], unfollowed := true, recurses := true, named := ["errors.errorType"], apart := false, laid := [("errors.errorType", laid_errors_errorType)] }
def FnSquaresSaid : Prop := fnSquaresRow.holds Tryd.pinned (OpenSpec.ofChange fnSquaresSpec)

/-- ITS FALSE NEIGHBOUR: 'it returns false'. Refute it at one input. -/
def fnSquaresWrong : ChangeSpec := { name := "fnSquares", fn := fun _ => fun
  | [d] => { results := [.lit (.bool false)], args := [d] }
  | _ => none }
def FnSquaresWrongFalsely : Prop := fnSquaresRow.holds Tryd.pinned (OpenSpec.ofChange fnSquaresWrong)

/-- 'laws.FnVector': WHATEVER THE INPUT: true; the input reads as it did. -/
def fnVectorSpec : ChangeSpec := { name := "fnVector", fn := fun _ => fun
  | [d] => { results := [.lit (.bool true)], args := [d] }
  | _ => none }
def fnVectorRow : OpenClaim := { program := "ytedigdakgjaedabdoor", sum := "9ff2ea8e7371a33c608c4e4a84090dd6125d74e6ed30ba49e2bb468e13f028a8", func := "loop.example/polarisedlight/laws.FnVector", spec := "fnVector", inPlace := ["internal/reflectlite.ValueOf", "(internal/reflectlite.Value).Type", "(internal/reflectlite.Value).IsNil", "internal/reflectlite.TypeOf", "(internal/reflectlite.Value).Elem", "(internal/reflectlite.Value).Set"], unfollowed := true, recurses := true, named := ["errors.errorType"], apart := false, laid := [("errors.errorType", laid_errors_errorType)] }
def FnVectorSaid : Prop := fnVectorRow.holds Tryd.pinned (OpenSpec.ofChange fnVectorSpec)

/-- ITS FALSE NEIGHBOUR: 'it returns false'. Refute it at one input. -/
def fnVectorWrong : ChangeSpec := { name := "fnVector", fn := fun _ => fun
  | [d] => { results := [.lit (.bool false)], args := [d] }
  | _ => none }
def FnVectorWrongFalsely : Prop := fnVectorRow.holds Tryd.pinned (OpenSpec.ofChange fnVectorWrong)

/-- 'laws.FnStokesAlike': WHATEVER THE INPUT: true; the input reads as it did. -/
def fnStokesAlikeSpec : ChangeSpec := { name := "fnStokesAlike", fn := fun _ => fun
  | [d] => { results := [.lit (.bool true)], args := [d] }
  | _ => none }
def fnStokesAlikeRow : OpenClaim := { program := "ytedigdakgjaedabdoor", sum := "9ff2ea8e7371a33c608c4e4a84090dd6125d74e6ed30ba49e2bb468e13f028a8", func := "loop.example/polarisedlight/laws.FnStokesAlike", spec := "fnStokesAlike", inPlace := ["internal/reflectlite.ValueOf", "(internal/reflectlite.Value).Type", "(internal/reflectlite.Value).IsNil", "internal/reflectlite.TypeOf", "(internal/reflectlite.Value).Elem", "(internal/reflectlite.Value).Set"], unfollowed := true, recurses := true, named := ["errors.errorType"], apart := false, laid := [("errors.errorType", laid_errors_errorType)] }
def FnStokesAlikeSaid : Prop := fnStokesAlikeRow.holds Tryd.pinned (OpenSpec.ofChange fnStokesAlikeSpec)

/-- ITS FALSE NEIGHBOUR: 'it returns false'. Refute it at one input. -/
def fnStokesAlikeWrong : ChangeSpec := { name := "fnStokesAlike", fn := fun _ => fun
  | [d] => { results := [.lit (.bool false)], args := [d] }
  | _ => none }
def FnStokesAlikeWrongFalsely : Prop := fnStokesAlikeRow.holds Tryd.pinned (OpenSpec.ofChange fnStokesAlikeWrong)

/-- 'laws.FnStokesMirror': WHATEVER THE INPUT: true; the input reads as it did. -/
def fnStokesMirrorSpec : ChangeSpec := { name := "fnStokesMirror", fn := fun _ => fun
  | [d] => { results := [.lit (.bool true)], args := [d] }
  | _ => none }
def fnStokesMirrorRow : OpenClaim := { program := "ytedigdakgjaedabdoor", sum := "9ff2ea8e7371a33c608c4e4a84090dd6125d74e6ed30ba49e2bb468e13f028a8", func := "loop.example/polarisedlight/laws.FnStokesMirror", spec := "fnStokesMirror", inPlace := ["internal/reflectlite.ValueOf", "(internal/reflectlite.Value).Type", "(internal/reflectlite.Value).IsNil", "internal/reflectlite.TypeOf", "(internal/reflectlite.Value).Elem", "(internal/reflectlite.Value).Set"], unfollowed := true, recurses := true, named := ["errors.errorType"], apart := false, laid := [("errors.errorType", laid_errors_errorType)] }
def FnStokesMirrorSaid : Prop := fnStokesMirrorRow.holds Tryd.pinned (OpenSpec.ofChange fnStokesMirrorSpec)

/-- ITS FALSE NEIGHBOUR: 'it returns false'. Refute it at one input. -/
def fnStokesMirrorWrong : ChangeSpec := { name := "fnStokesMirror", fn := fun _ => fun
  | [d] => { results := [.lit (.bool false)], args := [d] }
  | _ => none }
def FnStokesMirrorWrongFalsely : Prop := fnStokesMirrorRow.holds Tryd.pinned (OpenSpec.ofChange fnStokesMirrorWrong)

/- THE SECOND FORM. 'bulk': how many values and letters a reading holds, each counted each time it is reached (what is shared counts as often as it is met; a slice's spare places count too). A statement '..UptoSaid' is the law's where the arguments, and the package variables that the reading takes, are together of bulk at most 1048576: NARROWER than '..Said'. Prove '..Said' where nothing that the law and all that it calls make is longer than what came in: it says more and counts as full. Else prove '..UptoSaid'. A law counts once. -/
mutual
def uptoBulk {H : Type} : DataW H → Nat
  | .lit (.string bytes) => bytes.length + 1
  | .lit _ => 1
  | .nil => 1
  | .ptr d => uptoBulk d + 1
  | .slice elems spare => uptoBulkAll elems + uptoBulkAll spare + 1
  | .agg parts => uptoBulkAll parts + 1
  | .iface _ d => uptoBulk d + 1
  | .map entries => uptoBulkEntries entries + 1
  | .held _ => 1
def uptoBulkAll {H : Type} : List (DataW H) → Nat
  | [] => 0
  | d :: r => uptoBulk d + uptoBulkAll r
def uptoBulkEntries {H : Type} : List (Lit × DataW H) → Nat
  | [] => 0
  | x :: r => uptoBulkEntry x + uptoBulkEntries r
def uptoBulkEntry {H : Type} : Lit × DataW H → Nat
  | (.string bytes, d) => bytes.length + uptoBulk d + 1
  | (_, d) => uptoBulk d + 1
 end
def uptoSmall : (H : Type) → List (DataW H) → Bool := fun _ ds => decide (uptoBulkAll ds ≤ 1048576)
def OpenSpec.upto (s : _root_.Go.ChangeSpec) : _root_.Go.OpenSpec := { _root_.Go.OpenSpec.ofChange s with cond := some uptoSmall }

/-- 'laws.FnJonesAlike', WHERE WHAT IT READS IS OF BULK AT MOST 1048576: true; the input reads as it did. -/
def fnJonesAlikeUptoRow : OpenClaim := { program := "ytedigdakgjaedabdoor", sum := "9ff2ea8e7371a33c608c4e4a84090dd6125d74e6ed30ba49e2bb468e13f028a8", func := "loop.example/polarisedlight/laws.FnJonesAlike", spec := "fnJonesAlike", inPlace := ["internal/reflectlite.ValueOf", "(internal/reflectlite.Value).Type", "(internal/reflectlite.Value).IsNil", "internal/reflectlite.TypeOf", "(internal/reflectlite.Value).Elem", "(internal/reflectlite.Value).Set"], unfollowed := true, recurses := true, named := ["errors.errorType"], apart := false, laid := [("errors.errorType", laid_errors_errorType)], narrowed := true }
def FnJonesAlikeUptoSaid : Prop := fnJonesAlikeUptoRow.holds Tryd.pinned (OpenSpec.upto fnJonesAlikeSpec)

/-- 'laws.FnJonesMirror', WHERE WHAT IT READS IS OF BULK AT MOST 1048576: true; the input reads as it did. -/
def fnJonesMirrorUptoRow : OpenClaim := { program := "ytedigdakgjaedabdoor", sum := "9ff2ea8e7371a33c608c4e4a84090dd6125d74e6ed30ba49e2bb468e13f028a8", func := "loop.example/polarisedlight/laws.FnJonesMirror", spec := "fnJonesMirror", inPlace := ["internal/reflectlite.ValueOf", "(internal/reflectlite.Value).Type", "(internal/reflectlite.Value).IsNil", "internal/reflectlite.TypeOf", "(internal/reflectlite.Value).Elem", "(internal/reflectlite.Value).Set"], unfollowed := true, recurses := true, named := ["errors.errorType"], apart := false, laid := [("errors.errorType", laid_errors_errorType)], narrowed := true }
def FnJonesMirrorUptoSaid : Prop := fnJonesMirrorUptoRow.holds Tryd.pinned (OpenSpec.upto fnJonesMirrorSpec)

/-- 'laws.FnStokes', WHERE WHAT IT READS IS OF BULK AT MOST 1048576: true; the input reads as it did. -/
def fnStokesUptoRow : OpenClaim := { program := "ytedigdakgjaedabdoor", sum := "9ff2ea8e7371a33c608c4e4a84090dd6125d74e6ed30ba49e2bb468e13f028a8", func := "loop.example/polarisedlight/laws.FnStokes", spec := "fnStokes", inPlace := ["internal/reflectlite.ValueOf", "(internal/reflectlite.Value).Type", "(internal/reflectlite.Value).IsNil", "internal/reflectlite.TypeOf", "(internal/reflectlite.Value).Elem", "(internal/reflectlite.Value).Set"], unfollowed := true, recurses := true, named := ["errors.errorType"], apart := false, laid := [("errors.errorType", laid_errors_errorType)], narrowed := true }
def FnStokesUptoSaid : Prop := fnStokesUptoRow.holds Tryd.pinned (OpenSpec.upto fnStokesSpec)

/-- 'laws.FnLight', WHERE WHAT IT READS IS OF BULK AT MOST 1048576: true; the input reads as it did. -/
def fnLightUptoRow : OpenClaim := { program := "ytedigdakgjaedabdoor", sum := "9ff2ea8e7371a33c608c4e4a84090dd6125d74e6ed30ba49e2bb468e13f028a8", func := "loop.example/polarisedlight/laws.FnLight", spec := "fnLight", inPlace := ["internal/reflectlite.ValueOf", "(internal/reflectlite.Value).Type", "(internal/reflectlite.Value).IsNil", "internal/reflectlite.TypeOf", "(internal/reflectlite.Value).Elem", "(internal/reflectlite.Value).Set"], unfollowed := true, recurses := true, named := ["errors.errorType"], apart := false, laid := [("errors.errorType", laid_errors_errorType)], narrowed := true }
def FnLightUptoSaid : Prop := fnLightUptoRow.holds Tryd.pinned (OpenSpec.upto fnLightSpec)

/-- 'laws.FnStokesOf', WHERE WHAT IT READS IS OF BULK AT MOST 1048576: true; the input reads as it did. -/
def fnStokesOfUptoRow : OpenClaim := { program := "ytedigdakgjaedabdoor", sum := "9ff2ea8e7371a33c608c4e4a84090dd6125d74e6ed30ba49e2bb468e13f028a8", func := "loop.example/polarisedlight/laws.FnStokesOf", spec := "fnStokesOf", inPlace := ["internal/reflectlite.ValueOf", "(internal/reflectlite.Value).Type", "(internal/reflectlite.Value).IsNil", "internal/reflectlite.TypeOf", "(internal/reflectlite.Value).Elem", "(internal/reflectlite.Value).Set"], unfollowed := true, recurses := true, named := ["errors.errorType"], apart := false, laid := [("errors.errorType", laid_errors_errorType)], narrowed := true }
def FnStokesOfUptoSaid : Prop := fnStokesOfUptoRow.holds Tryd.pinned (OpenSpec.upto fnStokesOfSpec)

/-- 'laws.FnStokesAdd', WHERE WHAT IT READS IS OF BULK AT MOST 1048576: true; the input reads as it did. -/
def fnStokesAddUptoRow : OpenClaim := { program := "ytedigdakgjaedabdoor", sum := "9ff2ea8e7371a33c608c4e4a84090dd6125d74e6ed30ba49e2bb468e13f028a8", func := "loop.example/polarisedlight/laws.FnStokesAdd", spec := "fnStokesAdd", inPlace := ["internal/reflectlite.ValueOf", "(internal/reflectlite.Value).Type", "(internal/reflectlite.Value).IsNil", "internal/reflectlite.TypeOf", "(internal/reflectlite.Value).Elem", "(internal/reflectlite.Value).Set"], unfollowed := true, recurses := true, named := ["errors.errorType"], apart := false, laid := [("errors.errorType", laid_errors_errorType)], narrowed := true }
def FnStokesAddUptoSaid : Prop := fnStokesAddUptoRow.holds Tryd.pinned (OpenSpec.upto fnStokesAddSpec)

/-- 'laws.FnStokesTimes', WHERE WHAT IT READS IS OF BULK AT MOST 1048576: true; the input reads as it did. -/
def fnStokesTimesUptoRow : OpenClaim := { program := "ytedigdakgjaedabdoor", sum := "9ff2ea8e7371a33c608c4e4a84090dd6125d74e6ed30ba49e2bb468e13f028a8", func := "loop.example/polarisedlight/laws.FnStokesTimes", spec := "fnStokesTimes", inPlace := ["internal/reflectlite.ValueOf", "(internal/reflectlite.Value).Type", "(internal/reflectlite.Value).IsNil", "internal/reflectlite.TypeOf", "(internal/reflectlite.Value).Elem", "(internal/reflectlite.Value).Set"], unfollowed := true, recurses := true, named := ["errors.errorType"], apart := false, laid := [("errors.errorType", laid_errors_errorType)], narrowed := true }
def FnStokesTimesUptoSaid : Prop := fnStokesTimesUptoRow.holds Tryd.pinned (OpenSpec.upto fnStokesTimesSpec)

/-- 'laws.FnSquares', WHERE WHAT IT READS IS OF BULK AT MOST 1048576: true; the input reads as it did. -/
def fnSquaresUptoRow : OpenClaim := { program := "ytedigdakgjaedabdoor", sum := "9ff2ea8e7371a33c608c4e4a84090dd6125d74e6ed30ba49e2bb468e13f028a8", func := "loop.example/polarisedlight/laws.FnSquares", spec := "fnSquares", inPlace := ["internal/reflectlite.ValueOf", "(internal/reflectlite.Value).Type", "(internal/reflectlite.Value).IsNil", "internal/reflectlite.TypeOf", "(internal/reflectlite.Value).Elem", "(internal/reflectlite.Value).Set"], unfollowed := true, recurses := true, named := ["errors.errorType"], apart := false, laid := [("errors.errorType", laid_errors_errorType)], narrowed := true }
def FnSquaresUptoSaid : Prop := fnSquaresUptoRow.holds Tryd.pinned (OpenSpec.upto fnSquaresSpec)

/-- 'laws.FnVector', WHERE WHAT IT READS IS OF BULK AT MOST 1048576: true; the input reads as it did. -/
def fnVectorUptoRow : OpenClaim := { program := "ytedigdakgjaedabdoor", sum := "9ff2ea8e7371a33c608c4e4a84090dd6125d74e6ed30ba49e2bb468e13f028a8", func := "loop.example/polarisedlight/laws.FnVector", spec := "fnVector", inPlace := ["internal/reflectlite.ValueOf", "(internal/reflectlite.Value).Type", "(internal/reflectlite.Value).IsNil", "internal/reflectlite.TypeOf", "(internal/reflectlite.Value).Elem", "(internal/reflectlite.Value).Set"], unfollowed := true, recurses := true, named := ["errors.errorType"], apart := false, laid := [("errors.errorType", laid_errors_errorType)], narrowed := true }
def FnVectorUptoSaid : Prop := fnVectorUptoRow.holds Tryd.pinned (OpenSpec.upto fnVectorSpec)

/-- 'laws.FnStokesAlike', WHERE WHAT IT READS IS OF BULK AT MOST 1048576: true; the input reads as it did. -/
def fnStokesAlikeUptoRow : OpenClaim := { program := "ytedigdakgjaedabdoor", sum := "9ff2ea8e7371a33c608c4e4a84090dd6125d74e6ed30ba49e2bb468e13f028a8", func := "loop.example/polarisedlight/laws.FnStokesAlike", spec := "fnStokesAlike", inPlace := ["internal/reflectlite.ValueOf", "(internal/reflectlite.Value).Type", "(internal/reflectlite.Value).IsNil", "internal/reflectlite.TypeOf", "(internal/reflectlite.Value).Elem", "(internal/reflectlite.Value).Set"], unfollowed := true, recurses := true, named := ["errors.errorType"], apart := false, laid := [("errors.errorType", laid_errors_errorType)], narrowed := true }
def FnStokesAlikeUptoSaid : Prop := fnStokesAlikeUptoRow.holds Tryd.pinned (OpenSpec.upto fnStokesAlikeSpec)

/-- 'laws.FnStokesMirror', WHERE WHAT IT READS IS OF BULK AT MOST 1048576: true; the input reads as it did. -/
def fnStokesMirrorUptoRow : OpenClaim := { program := "ytedigdakgjaedabdoor", sum := "9ff2ea8e7371a33c608c4e4a84090dd6125d74e6ed30ba49e2bb468e13f028a8", func := "loop.example/polarisedlight/laws.FnStokesMirror", spec := "fnStokesMirror", inPlace := ["internal/reflectlite.ValueOf", "(internal/reflectlite.Value).Type", "(internal/reflectlite.Value).IsNil", "internal/reflectlite.TypeOf", "(internal/reflectlite.Value).Elem", "(internal/reflectlite.Value).Set"], unfollowed := true, recurses := true, named := ["errors.errorType"], apart := false, laid := [("errors.errorType", laid_errors_errorType)], narrowed := true }
def FnStokesMirrorUptoSaid : Prop := fnStokesMirrorUptoRow.holds Tryd.pinned (OpenSpec.upto fnStokesMirrorSpec)

end Rows
end Go.Proofs.YtedigdakgjaedabDoor
