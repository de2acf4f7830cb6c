/-
  NARROWER THAN 'FOR EVERY INPUT', by the rows' own cells (each row's printed sentence says how): FnExactJonesValid: laid · FnExactJonesPower: laid · FnExactJonesInner: laid · FnExactJonesAdd: laid · FnExactJonesTimes: laid · FnExactJonesAlike: laid · FnExactJonesCross: laid · FnExactJonesMirror: laid · FnExactJonesWide: laid · FnExactJonesFits: laid · FnExactFracSingle: laid · FnSingle: laid.
  DERIVED. THE GIVEN ROWS OF THIS SEAT. 12 by the template 'for every input the law returns true; each argument reads behind the call as it read before'; 0 by the template 'total and deterministic' (their statements: YtbihlkienhbapaaDoorTotals.lean).
  GIVEN WITH THE SEED: the statements are not yours to turn. If you find one false, say at which input.
  Laid BY PROGRAM, IN A SANDBOX (cutbox-rows.mjs): the forced cells as the released guide's own fill.sh prints them over the translation 43ba9cb8db654bf6… (all of the seat's roots in one cut). By AI agents, Wed Nov 11 2026. No macro, syntax, notation, axiom, sorry.
-/
import Derived.Test.YtbihlkienhbapaaDoorChecked
import GoSem.Claim
import GoSem.ClaimJoined
import GoSem.ClaimMapViews
import Derived.JoinedTies
import Derived.KernelRfl
namespace Go.Proofs.YtbihlkienhbapaaDoor
/- THE CELL 'sum', in the pinned program and in every row, IS THE sha256 OF THE DUMP (.gsa) THAT YtbihlkienhbapaaDoorProg.lean LOADS. Nothing in Lean hashes anything: it is a label: what it is worth is what the hold of that sum in a sandbox is worth. -/
noncomputable def Tryd.pinned : Pinned := { name := "ytbihlkienhbapaadoor", sum := "43ba9cb8db654bf6ce3d99364fdde37dffc87405d0d58aa1321e1308c5726b49", checked := Tryd.checked }
namespace Rows
def none {H : Type} : Left H := { results := [], args := [] }

/- WHAT THE LISTED PACKAGE-LEVEL VARIABLES READ AS WHEN THE CALL BEGINS. Each datum BY PROGRAM (the guide's laid-datum.mjs) off the statement by which the dump's own 'gosem.cut.vars' lays the variable. In a bare row this is a premise. The card (YtbihlkienhbapaaDoorCards.lean) ties it to the program's text. -/
def laid_errors_errorType {H : Type} : DataW H := .iface "internal/reflectlite.rtype" (.agg [.ptr (.lit (.string [101, 114, 114, 111, 114]))])

/-- 'laws.FnExactJonesValid': WHATEVER THE INPUT: true; the input reads as it did. -/
def fnExactJonesValidSpec : ChangeSpec := { name := "fnExactJonesValid", fn := fun _ => fun
  | [d] => { results := [.lit (.bool true)], args := [d] }
  | _ => none }
def fnExactJonesValidRow : OpenClaim := { program := "ytbihlkienhbapaadoor", sum := "43ba9cb8db654bf6ce3d99364fdde37dffc87405d0d58aa1321e1308c5726b49", func := "loop.example/polarisedlight/laws.FnExactJonesValid", spec := "fnExactJonesValid", inPlace := ["internal/reflectlite.ValueOf", "(internal/reflectlite.Value).Type", "(internal/reflectlite.Value).IsNil", "internal/reflectlite.TypeOf", "(internal/reflectlite.Value).Elem", "(internal/reflectlite.Value).Set"], unfollowed := true, recurses := true, named := ["errors.errorType"], apart := false, laid := [("errors.errorType", laid_errors_errorType)] }
def FnExactJonesValidSaid : Prop := fnExactJonesValidRow.holds Tryd.pinned (OpenSpec.ofChange fnExactJonesValidSpec)

/-- ITS FALSE NEIGHBOUR: 'it returns false'. Refute it at one input. -/
def fnExactJonesValidWrong : ChangeSpec := { name := "fnExactJonesValid", fn := fun _ => fun
  | [d] => { results := [.lit (.bool false)], args := [d] }
  | _ => none }
def FnExactJonesValidWrongFalsely : Prop := fnExactJonesValidRow.holds Tryd.pinned (OpenSpec.ofChange fnExactJonesValidWrong)

/-- 'laws.FnExactJonesPower': WHATEVER THE INPUT: true; the input reads as it did. -/
def fnExactJonesPowerSpec : ChangeSpec := { name := "fnExactJonesPower", fn := fun _ => fun
  | [d] => { results := [.lit (.bool true)], args := [d] }
  | _ => none }
def fnExactJonesPowerRow : OpenClaim := { program := "ytbihlkienhbapaadoor", sum := "43ba9cb8db654bf6ce3d99364fdde37dffc87405d0d58aa1321e1308c5726b49", func := "loop.example/polarisedlight/laws.FnExactJonesPower", spec := "fnExactJonesPower", inPlace := ["internal/reflectlite.ValueOf", "(internal/reflectlite.Value).Type", "(internal/reflectlite.Value).IsNil", "internal/reflectlite.TypeOf", "(internal/reflectlite.Value).Elem", "(internal/reflectlite.Value).Set"], unfollowed := true, recurses := true, named := ["errors.errorType"], apart := false, laid := [("errors.errorType", laid_errors_errorType)] }
def FnExactJonesPowerSaid : Prop := fnExactJonesPowerRow.holds Tryd.pinned (OpenSpec.ofChange fnExactJonesPowerSpec)

/-- ITS FALSE NEIGHBOUR: 'it returns false'. Refute it at one input. -/
def fnExactJonesPowerWrong : ChangeSpec := { name := "fnExactJonesPower", fn := fun _ => fun
  | [d] => { results := [.lit (.bool false)], args := [d] }
  | _ => none }
def FnExactJonesPowerWrongFalsely : Prop := fnExactJonesPowerRow.holds Tryd.pinned (OpenSpec.ofChange fnExactJonesPowerWrong)

/-- 'laws.FnExactJonesInner': WHATEVER THE INPUT: true; the input reads as it did. -/
def fnExactJonesInnerSpec : ChangeSpec := { name := "fnExactJonesInner", fn := fun _ => fun
  | [d1, d2] => { results := [.lit (.bool true)], args := [d1, d2] }
  | _ => none }
def fnExactJonesInnerRow : OpenClaim := { program := "ytbihlkienhbapaadoor", sum := "43ba9cb8db654bf6ce3d99364fdde37dffc87405d0d58aa1321e1308c5726b49", func := "loop.example/polarisedlight/laws.FnExactJonesInner", spec := "fnExactJonesInner", inPlace := ["internal/reflectlite.ValueOf", "(internal/reflectlite.Value).Type", "(internal/reflectlite.Value).IsNil", "internal/reflectlite.TypeOf", "(internal/reflectlite.Value).Elem", "(internal/reflectlite.Value).Set"], unfollowed := true, recurses := true, named := ["errors.errorType"], apart := false, laid := [("errors.errorType", laid_errors_errorType)] }
def FnExactJonesInnerSaid : Prop := fnExactJonesInnerRow.holds Tryd.pinned (OpenSpec.ofChange fnExactJonesInnerSpec)

/-- ITS FALSE NEIGHBOUR: 'it returns false'. Refute it at one input. -/
def fnExactJonesInnerWrong : ChangeSpec := { name := "fnExactJonesInner", fn := fun _ => fun
  | [d1, d2] => { results := [.lit (.bool false)], args := [d1, d2] }
  | _ => none }
def FnExactJonesInnerWrongFalsely : Prop := fnExactJonesInnerRow.holds Tryd.pinned (OpenSpec.ofChange fnExactJonesInnerWrong)

/-- 'laws.FnExactJonesAdd': WHATEVER THE INPUT: true; the input reads as it did. -/
def fnExactJonesAddSpec : ChangeSpec := { name := "fnExactJonesAdd", fn := fun _ => fun
  | [d1, d2] => { results := [.lit (.bool true)], args := [d1, d2] }
  | _ => none }
def fnExactJonesAddRow : OpenClaim := { program := "ytbihlkienhbapaadoor", sum := "43ba9cb8db654bf6ce3d99364fdde37dffc87405d0d58aa1321e1308c5726b49", func := "loop.example/polarisedlight/laws.FnExactJonesAdd", spec := "fnExactJonesAdd", inPlace := ["internal/reflectlite.ValueOf", "(internal/reflectlite.Value).Type", "(internal/reflectlite.Value).IsNil", "internal/reflectlite.TypeOf", "(internal/reflectlite.Value).Elem", "(internal/reflectlite.Value).Set"], unfollowed := true, recurses := true, named := ["errors.errorType"], apart := false, laid := [("errors.errorType", laid_errors_errorType)] }
def FnExactJonesAddSaid : Prop := fnExactJonesAddRow.holds Tryd.pinned (OpenSpec.ofChange fnExactJonesAddSpec)

/-- ITS FALSE NEIGHBOUR: 'it returns false'. Refute it at one input. -/
def fnExactJonesAddWrong : ChangeSpec := { name := "fnExactJonesAdd", fn := fun _ => fun
  | [d1, d2] => { results := [.lit (.bool false)], args := [d1, d2] }
  | _ => none }
def FnExactJonesAddWrongFalsely : Prop := fnExactJonesAddRow.holds Tryd.pinned (OpenSpec.ofChange fnExactJonesAddWrong)

/-- 'laws.FnExactJonesTimes': WHATEVER THE INPUT: true; the input reads as it did. -/
def fnExactJonesTimesSpec : ChangeSpec := { name := "fnExactJonesTimes", fn := fun _ => fun
  | [d1, d2] => { results := [.lit (.bool true)], args := [d1, d2] }
  | _ => none }
def fnExactJonesTimesRow : OpenClaim := { program := "ytbihlkienhbapaadoor", sum := "43ba9cb8db654bf6ce3d99364fdde37dffc87405d0d58aa1321e1308c5726b49", func := "loop.example/polarisedlight/laws.FnExactJonesTimes", spec := "fnExactJonesTimes", inPlace := ["internal/reflectlite.ValueOf", "(internal/reflectlite.Value).Type", "(internal/reflectlite.Value).IsNil", "internal/reflectlite.TypeOf", "(internal/reflectlite.Value).Elem", "(internal/reflectlite.Value).Set"], unfollowed := true, recurses := true, named := ["errors.errorType"], apart := false, laid := [("errors.errorType", laid_errors_errorType)] }
def FnExactJonesTimesSaid : Prop := fnExactJonesTimesRow.holds Tryd.pinned (OpenSpec.ofChange fnExactJonesTimesSpec)

/-- ITS FALSE NEIGHBOUR: 'it returns false'. Refute it at one input. -/
def fnExactJonesTimesWrong : ChangeSpec := { name := "fnExactJonesTimes", fn := fun _ => fun
  | [d1, d2] => { results := [.lit (.bool false)], args := [d1, d2] }
  | _ => none }
def FnExactJonesTimesWrongFalsely : Prop := fnExactJonesTimesRow.holds Tryd.pinned (OpenSpec.ofChange fnExactJonesTimesWrong)

/-- 'laws.FnExactJonesAlike': WHATEVER THE INPUT: true; the input reads as it did. -/
def fnExactJonesAlikeSpec : ChangeSpec := { name := "fnExactJonesAlike", fn := fun _ => fun
  | [d1, d2] => { results := [.lit (.bool true)], args := [d1, d2] }
  | _ => none }
def fnExactJonesAlikeRow : OpenClaim := { program := "ytbihlkienhbapaadoor", sum := "43ba9cb8db654bf6ce3d99364fdde37dffc87405d0d58aa1321e1308c5726b49", func := "loop.example/polarisedlight/laws.FnExactJonesAlike", spec := "fnExactJonesAlike", inPlace := ["internal/reflectlite.ValueOf", "(internal/reflectlite.Value).Type", "(internal/reflectlite.Value).IsNil", "internal/reflectlite.TypeOf", "(internal/reflectlite.Value).Elem", "(internal/reflectlite.Value).Set"], unfollowed := true, recurses := true, named := ["errors.errorType"], apart := false, laid := [("errors.errorType", laid_errors_errorType)] }
def FnExactJonesAlikeSaid : Prop := fnExactJonesAlikeRow.holds Tryd.pinned (OpenSpec.ofChange fnExactJonesAlikeSpec)

/-- ITS FALSE NEIGHBOUR: 'it returns false'. Refute it at one input. -/
def fnExactJonesAlikeWrong : ChangeSpec := { name := "fnExactJonesAlike", fn := fun _ => fun
  | [d1, d2] => { results := [.lit (.bool false)], args := [d1, d2] }
  | _ => none }
def FnExactJonesAlikeWrongFalsely : Prop := fnExactJonesAlikeRow.holds Tryd.pinned (OpenSpec.ofChange fnExactJonesAlikeWrong)

/-- 'laws.FnExactJonesCross': WHATEVER THE INPUT: true; the input reads as it did. -/
def fnExactJonesCrossSpec : ChangeSpec := { name := "fnExactJonesCross", fn := fun _ => fun
  | [d] => { results := [.lit (.bool true)], args := [d] }
  | _ => none }
def fnExactJonesCrossRow : OpenClaim := { program := "ytbihlkienhbapaadoor", sum := "43ba9cb8db654bf6ce3d99364fdde37dffc87405d0d58aa1321e1308c5726b49", func := "loop.example/polarisedlight/laws.FnExactJonesCross", spec := "fnExactJonesCross", inPlace := ["internal/reflectlite.ValueOf", "(internal/reflectlite.Value).Type", "(internal/reflectlite.Value).IsNil", "internal/reflectlite.TypeOf", "(internal/reflectlite.Value).Elem", "(internal/reflectlite.Value).Set"], unfollowed := true, recurses := true, named := ["errors.errorType"], apart := false, laid := [("errors.errorType", laid_errors_errorType)] }
def FnExactJonesCrossSaid : Prop := fnExactJonesCrossRow.holds Tryd.pinned (OpenSpec.ofChange fnExactJonesCrossSpec)

/-- ITS FALSE NEIGHBOUR: 'it returns false'. Refute it at one input. -/
def fnExactJonesCrossWrong : ChangeSpec := { name := "fnExactJonesCross", fn := fun _ => fun
  | [d] => { results := [.lit (.bool false)], args := [d] }
  | _ => none }
def FnExactJonesCrossWrongFalsely : Prop := fnExactJonesCrossRow.holds Tryd.pinned (OpenSpec.ofChange fnExactJonesCrossWrong)

/-- 'laws.FnExactJonesMirror': WHATEVER THE INPUT: true; the input reads as it did. -/
def fnExactJonesMirrorSpec : ChangeSpec := { name := "fnExactJonesMirror", fn := fun _ => fun
  | [d] => { results := [.lit (.bool true)], args := [d] }
  | _ => none }
def fnExactJonesMirrorRow : OpenClaim := { program := "ytbihlkienhbapaadoor", sum := "43ba9cb8db654bf6ce3d99364fdde37dffc87405d0d58aa1321e1308c5726b49", func := "loop.example/polarisedlight/laws.FnExactJonesMirror", spec := "fnExactJonesMirror", inPlace := ["internal/reflectlite.ValueOf", "(internal/reflectlite.Value).Type", "(internal/reflectlite.Value).IsNil", "internal/reflectlite.TypeOf", "(internal/reflectlite.Value).Elem", "(internal/reflectlite.Value).Set"], unfollowed := true, recurses := true, named := ["errors.errorType"], apart := false, laid := [("errors.errorType", laid_errors_errorType)] }
def FnExactJonesMirrorSaid : Prop := fnExactJonesMirrorRow.holds Tryd.pinned (OpenSpec.ofChange fnExactJonesMirrorSpec)

/-- ITS FALSE NEIGHBOUR: 'it returns false'. Refute it at one input. -/
def fnExactJonesMirrorWrong : ChangeSpec := { name := "fnExactJonesMirror", fn := fun _ => fun
  | [d] => { results := [.lit (.bool false)], args := [d] }
  | _ => none }
def FnExactJonesMirrorWrongFalsely : Prop := fnExactJonesMirrorRow.holds Tryd.pinned (OpenSpec.ofChange fnExactJonesMirrorWrong)

/-- 'laws.FnExactJonesWide': WHATEVER THE INPUT: true; the input reads as it did. -/
def fnExactJonesWideSpec : ChangeSpec := { name := "fnExactJonesWide", fn := fun _ => fun
  | [d] => { results := [.lit (.bool true)], args := [d] }
  | _ => none }
def fnExactJonesWideRow : OpenClaim := { program := "ytbihlkienhbapaadoor", sum := "43ba9cb8db654bf6ce3d99364fdde37dffc87405d0d58aa1321e1308c5726b49", func := "loop.example/polarisedlight/laws.FnExactJonesWide", spec := "fnExactJonesWide", inPlace := ["internal/reflectlite.ValueOf", "(internal/reflectlite.Value).Type", "(internal/reflectlite.Value).IsNil", "internal/reflectlite.TypeOf", "(internal/reflectlite.Value).Elem", "(internal/reflectlite.Value).Set"], unfollowed := true, recurses := true, named := ["errors.errorType"], apart := false, laid := [("errors.errorType", laid_errors_errorType)] }
def FnExactJonesWideSaid : Prop := fnExactJonesWideRow.holds Tryd.pinned (OpenSpec.ofChange fnExactJonesWideSpec)

/-- ITS FALSE NEIGHBOUR: 'it returns false'. Refute it at one input. -/
def fnExactJonesWideWrong : ChangeSpec := { name := "fnExactJonesWide", fn := fun _ => fun
  | [d] => { results := [.lit (.bool false)], args := [d] }
  | _ => none }
def FnExactJonesWideWrongFalsely : Prop := fnExactJonesWideRow.holds Tryd.pinned (OpenSpec.ofChange fnExactJonesWideWrong)

/-- 'laws.FnExactJonesFits': WHATEVER THE INPUT: true; the input reads as it did. -/
def fnExactJonesFitsSpec : ChangeSpec := { name := "fnExactJonesFits", fn := fun _ => fun
  | [d] => { results := [.lit (.bool true)], args := [d] }
  | _ => none }
def fnExactJonesFitsRow : OpenClaim := { program := "ytbihlkienhbapaadoor", sum := "43ba9cb8db654bf6ce3d99364fdde37dffc87405d0d58aa1321e1308c5726b49", func := "loop.example/polarisedlight/laws.FnExactJonesFits", spec := "fnExactJonesFits", inPlace := ["internal/reflectlite.ValueOf", "(internal/reflectlite.Value).Type", "(internal/reflectlite.Value).IsNil", "internal/reflectlite.TypeOf", "(internal/reflectlite.Value).Elem", "(internal/reflectlite.Value).Set"], unfollowed := true, recurses := true, named := ["errors.errorType"], apart := false, laid := [("errors.errorType", laid_errors_errorType)] }
def FnExactJonesFitsSaid : Prop := fnExactJonesFitsRow.holds Tryd.pinned (OpenSpec.ofChange fnExactJonesFitsSpec)

/-- ITS FALSE NEIGHBOUR: 'it returns false'. Refute it at one input. -/
def fnExactJonesFitsWrong : ChangeSpec := { name := "fnExactJonesFits", fn := fun _ => fun
  | [d] => { results := [.lit (.bool false)], args := [d] }
  | _ => none }
def FnExactJonesFitsWrongFalsely : Prop := fnExactJonesFitsRow.holds Tryd.pinned (OpenSpec.ofChange fnExactJonesFitsWrong)

/-- 'laws.FnExactFracSingle': WHATEVER THE INPUT: true; the input reads as it did. -/
def fnExactFracSingleSpec : ChangeSpec := { name := "fnExactFracSingle", fn := fun _ => fun
  | [d] => { results := [.lit (.bool true)], args := [d] }
  | _ => none }
def fnExactFracSingleRow : OpenClaim := { program := "ytbihlkienhbapaadoor", sum := "43ba9cb8db654bf6ce3d99364fdde37dffc87405d0d58aa1321e1308c5726b49", func := "loop.example/polarisedlight/laws.FnExactFracSingle", spec := "fnExactFracSingle", inPlace := ["internal/reflectlite.ValueOf", "(internal/reflectlite.Value).Type", "(internal/reflectlite.Value).IsNil", "internal/reflectlite.TypeOf", "(internal/reflectlite.Value).Elem", "(internal/reflectlite.Value).Set"], unfollowed := true, recurses := true, named := ["errors.errorType"], apart := false, laid := [("errors.errorType", laid_errors_errorType)] }
def FnExactFracSingleSaid : Prop := fnExactFracSingleRow.holds Tryd.pinned (OpenSpec.ofChange fnExactFracSingleSpec)

/-- ITS FALSE NEIGHBOUR: 'it returns false'. Refute it at one input. -/
def fnExactFracSingleWrong : ChangeSpec := { name := "fnExactFracSingle", fn := fun _ => fun
  | [d] => { results := [.lit (.bool false)], args := [d] }
  | _ => none }
def FnExactFracSingleWrongFalsely : Prop := fnExactFracSingleRow.holds Tryd.pinned (OpenSpec.ofChange fnExactFracSingleWrong)

/-- 'laws.FnSingle': WHATEVER THE INPUT: true; the input reads as it did. -/
def fnSingleSpec : ChangeSpec := { name := "fnSingle", fn := fun _ => fun
  | [d] => { results := [.lit (.bool true)], args := [d] }
  | _ => none }
def fnSingleRow : OpenClaim := { program := "ytbihlkienhbapaadoor", sum := "43ba9cb8db654bf6ce3d99364fdde37dffc87405d0d58aa1321e1308c5726b49", func := "loop.example/polarisedlight/laws.FnSingle", spec := "fnSingle", inPlace := ["internal/reflectlite.ValueOf", "(internal/reflectlite.Value).Type", "(internal/reflectlite.Value).IsNil", "internal/reflectlite.TypeOf", "(internal/reflectlite.Value).Elem", "(internal/reflectlite.Value).Set"], unfollowed := true, recurses := true, named := ["errors.errorType"], apart := false, laid := [("errors.errorType", laid_errors_errorType)] }
def FnSingleSaid : Prop := fnSingleRow.holds Tryd.pinned (OpenSpec.ofChange fnSingleSpec)

/-- ITS FALSE NEIGHBOUR: 'it returns false'. Refute it at one input. -/
def fnSingleWrong : ChangeSpec := { name := "fnSingle", fn := fun _ => fun
  | [d] => { results := [.lit (.bool false)], args := [d] }
  | _ => none }
def FnSingleWrongFalsely : Prop := fnSingleRow.holds Tryd.pinned (OpenSpec.ofChange fnSingleWrong)

/- THE SECOND FORM. 'bulk': how many values and letters a reading holds, each counted each time it is reached (what is shared counts as often as it is met; a slice's spare places count too). A statement '..UptoSaid' is the law's where the arguments, and the package variables that the reading takes, are together of bulk at most 1048576: NARROWER than '..Said'. Prove '..Said' where nothing that the law and all that it calls make is longer than what came in: it says more and counts as full. Else prove '..UptoSaid'. A law counts once. -/
mutual
def uptoBulk {H : Type} : DataW H → Nat
  | .lit (.string bytes) => bytes.length + 1
  | .lit _ => 1
  | .nil => 1
  | .ptr d => uptoBulk d + 1
  | .slice elems spare => uptoBulkAll elems + uptoBulkAll spare + 1
  | .agg parts => uptoBulkAll parts + 1
  | .iface _ d => uptoBulk d + 1
  | .map entries => uptoBulkEntries entries + 1
  | .held _ => 1
def uptoBulkAll {H : Type} : List (DataW H) → Nat
  | [] => 0
  | d :: r => uptoBulk d + uptoBulkAll r
def uptoBulkEntries {H : Type} : List (Lit × DataW H) → Nat
  | [] => 0
  | x :: r => uptoBulkEntry x + uptoBulkEntries r
def uptoBulkEntry {H : Type} : Lit × DataW H → Nat
  | (.string bytes, d) => bytes.length + uptoBulk d + 1
  | (_, d) => uptoBulk d + 1
 end
def uptoSmall : (H : Type) → List (DataW H) → Bool := fun _ ds => decide (uptoBulkAll ds ≤ 1048576)
def OpenSpec.upto (s : _root_.Go.ChangeSpec) : _root_.Go.OpenSpec := { _root_.Go.OpenSpec.ofChange s with cond := some uptoSmall }

/-- 'laws.FnExactJonesValid', WHERE WHAT IT READS IS OF BULK AT MOST 1048576: true; the input reads as it did. -/
def fnExactJonesValidUptoRow : OpenClaim := { program := "ytbihlkienhbapaadoor", sum := "43ba9cb8db654bf6ce3d99364fdde37dffc87405d0d58aa1321e1308c5726b49", func := "loop.example/polarisedlight/laws.FnExactJonesValid", spec := "fnExactJonesValid", inPlace := ["internal/reflectlite.ValueOf", "(internal/reflectlite.Value).Type", "(internal/reflectlite.Value).IsNil", "internal/reflectlite.TypeOf", "(internal/reflectlite.Value).Elem", "(internal/reflectlite.Value).Set"], unfollowed := true, recurses := true, named := ["errors.errorType"], apart := false, laid := [("errors.errorType", laid_errors_errorType)], narrowed := true }
def FnExactJonesValidUptoSaid : Prop := fnExactJonesValidUptoRow.holds Tryd.pinned (OpenSpec.upto fnExactJonesValidSpec)

/-- 'laws.FnExactJonesPower', WHERE WHAT IT READS IS OF BULK AT MOST 1048576: true; the input reads as it did. -/
def fnExactJonesPowerUptoRow : OpenClaim := { program := "ytbihlkienhbapaadoor", sum := "43ba9cb8db654bf6ce3d99364fdde37dffc87405d0d58aa1321e1308c5726b49", func := "loop.example/polarisedlight/laws.FnExactJonesPower", spec := "fnExactJonesPower", inPlace := ["internal/reflectlite.ValueOf", "(internal/reflectlite.Value).Type", "(internal/reflectlite.Value).IsNil", "internal/reflectlite.TypeOf", "(internal/reflectlite.Value).Elem", "(internal/reflectlite.Value).Set"], unfollowed := true, recurses := true, named := ["errors.errorType"], apart := false, laid := [("errors.errorType", laid_errors_errorType)], narrowed := true }
def FnExactJonesPowerUptoSaid : Prop := fnExactJonesPowerUptoRow.holds Tryd.pinned (OpenSpec.upto fnExactJonesPowerSpec)

/-- 'laws.FnExactJonesInner', WHERE WHAT IT READS IS OF BULK AT MOST 1048576: true; the input reads as it did. -/
def fnExactJonesInnerUptoRow : OpenClaim := { program := "ytbihlkienhbapaadoor", sum := "43ba9cb8db654bf6ce3d99364fdde37dffc87405d0d58aa1321e1308c5726b49", func := "loop.example/polarisedlight/laws.FnExactJonesInner", spec := "fnExactJonesInner", inPlace := ["internal/reflectlite.ValueOf", "(internal/reflectlite.Value).Type", "(internal/reflectlite.Value).IsNil", "internal/reflectlite.TypeOf", "(internal/reflectlite.Value).Elem", "(internal/reflectlite.Value).Set"], unfollowed := true, recurses := true, named := ["errors.errorType"], apart := false, laid := [("errors.errorType", laid_errors_errorType)], narrowed := true }
def FnExactJonesInnerUptoSaid : Prop := fnExactJonesInnerUptoRow.holds Tryd.pinned (OpenSpec.upto fnExactJonesInnerSpec)

/-- 'laws.FnExactJonesAdd', WHERE WHAT IT READS IS OF BULK AT MOST 1048576: true; the input reads as it did. -/
def fnExactJonesAddUptoRow : OpenClaim := { program := "ytbihlkienhbapaadoor", sum := "43ba9cb8db654bf6ce3d99364fdde37dffc87405d0d58aa1321e1308c5726b49", func := "loop.example/polarisedlight/laws.FnExactJonesAdd", spec := "fnExactJonesAdd", inPlace := ["internal/reflectlite.ValueOf", "(internal/reflectlite.Value).Type", "(internal/reflectlite.Value).IsNil", "internal/reflectlite.TypeOf", "(internal/reflectlite.Value).Elem", "(internal/reflectlite.Value).Set"], unfollowed := true, recurses := true, named := ["errors.errorType"], apart := false, laid := [("errors.errorType", laid_errors_errorType)], narrowed := true }
def FnExactJonesAddUptoSaid : Prop := fnExactJonesAddUptoRow.holds Tryd.pinned (OpenSpec.upto fnExactJonesAddSpec)

/-- 'laws.FnExactJonesTimes', WHERE WHAT IT READS IS OF BULK AT MOST 1048576: true; the input reads as it did. -/
def fnExactJonesTimesUptoRow : OpenClaim := { program := "ytbihlkienhbapaadoor", sum := "43ba9cb8db654bf6ce3d99364fdde37dffc87405d0d58aa1321e1308c5726b49", func := "loop.example/polarisedlight/laws.FnExactJonesTimes", spec := "fnExactJonesTimes", inPlace := ["internal/reflectlite.ValueOf", "(internal/reflectlite.Value).Type", "(internal/reflectlite.Value).IsNil", "internal/reflectlite.TypeOf", "(internal/reflectlite.Value).Elem", "(internal/reflectlite.Value).Set"], unfollowed := true, recurses := true, named := ["errors.errorType"], apart := false, laid := [("errors.errorType", laid_errors_errorType)], narrowed := true }
def FnExactJonesTimesUptoSaid : Prop := fnExactJonesTimesUptoRow.holds Tryd.pinned (OpenSpec.upto fnExactJonesTimesSpec)

/-- 'laws.FnExactJonesAlike', WHERE WHAT IT READS IS OF BULK AT MOST 1048576: true; the input reads as it did. -/
def fnExactJonesAlikeUptoRow : OpenClaim := { program := "ytbihlkienhbapaadoor", sum := "43ba9cb8db654bf6ce3d99364fdde37dffc87405d0d58aa1321e1308c5726b49", func := "loop.example/polarisedlight/laws.FnExactJonesAlike", spec := "fnExactJonesAlike", inPlace := ["internal/reflectlite.ValueOf", "(internal/reflectlite.Value).Type", "(internal/reflectlite.Value).IsNil", "internal/reflectlite.TypeOf", "(internal/reflectlite.Value).Elem", "(internal/reflectlite.Value).Set"], unfollowed := true, recurses := true, named := ["errors.errorType"], apart := false, laid := [("errors.errorType", laid_errors_errorType)], narrowed := true }
def FnExactJonesAlikeUptoSaid : Prop := fnExactJonesAlikeUptoRow.holds Tryd.pinned (OpenSpec.upto fnExactJonesAlikeSpec)

/-- 'laws.FnExactJonesCross', WHERE WHAT IT READS IS OF BULK AT MOST 1048576: true; the input reads as it did. -/
def fnExactJonesCrossUptoRow : OpenClaim := { program := "ytbihlkienhbapaadoor", sum := "43ba9cb8db654bf6ce3d99364fdde37dffc87405d0d58aa1321e1308c5726b49", func := "loop.example/polarisedlight/laws.FnExactJonesCross", spec := "fnExactJonesCross", inPlace := ["internal/reflectlite.ValueOf", "(internal/reflectlite.Value).Type", "(internal/reflectlite.Value).IsNil", "internal/reflectlite.TypeOf", "(internal/reflectlite.Value).Elem", "(internal/reflectlite.Value).Set"], unfollowed := true, recurses := true, named := ["errors.errorType"], apart := false, laid := [("errors.errorType", laid_errors_errorType)], narrowed := true }
def FnExactJonesCrossUptoSaid : Prop := fnExactJonesCrossUptoRow.holds Tryd.pinned (OpenSpec.upto fnExactJonesCrossSpec)

/-- 'laws.FnExactJonesMirror', WHERE WHAT IT READS IS OF BULK AT MOST 1048576: true; the input reads as it did. -/
def fnExactJonesMirrorUptoRow : OpenClaim := { program := "ytbihlkienhbapaadoor", sum := "43ba9cb8db654bf6ce3d99364fdde37dffc87405d0d58aa1321e1308c5726b49", func := "loop.example/polarisedlight/laws.FnExactJonesMirror", spec := "fnExactJonesMirror", inPlace := ["internal/reflectlite.ValueOf", "(internal/reflectlite.Value).Type", "(internal/reflectlite.Value).IsNil", "internal/reflectlite.TypeOf", "(internal/reflectlite.Value).Elem", "(internal/reflectlite.Value).Set"], unfollowed := true, recurses := true, named := ["errors.errorType"], apart := false, laid := [("errors.errorType", laid_errors_errorType)], narrowed := true }
def FnExactJonesMirrorUptoSaid : Prop := fnExactJonesMirrorUptoRow.holds Tryd.pinned (OpenSpec.upto fnExactJonesMirrorSpec)

/-- 'laws.FnExactJonesWide', WHERE WHAT IT READS IS OF BULK AT MOST 1048576: true; the input reads as it did. -/
def fnExactJonesWideUptoRow : OpenClaim := { program := "ytbihlkienhbapaadoor", sum := "43ba9cb8db654bf6ce3d99364fdde37dffc87405d0d58aa1321e1308c5726b49", func := "loop.example/polarisedlight/laws.FnExactJonesWide", spec := "fnExactJonesWide", inPlace := ["internal/reflectlite.ValueOf", "(internal/reflectlite.Value).Type", "(internal/reflectlite.Value).IsNil", "internal/reflectlite.TypeOf", "(internal/reflectlite.Value).Elem", "(internal/reflectlite.Value).Set"], unfollowed := true, recurses := true, named := ["errors.errorType"], apart := false, laid := [("errors.errorType", laid_errors_errorType)], narrowed := true }
def FnExactJonesWideUptoSaid : Prop := fnExactJonesWideUptoRow.holds Tryd.pinned (OpenSpec.upto fnExactJonesWideSpec)

/-- 'laws.FnExactJonesFits', WHERE WHAT IT READS IS OF BULK AT MOST 1048576: true; the input reads as it did. -/
def fnExactJonesFitsUptoRow : OpenClaim := { program := "ytbihlkienhbapaadoor", sum := "43ba9cb8db654bf6ce3d99364fdde37dffc87405d0d58aa1321e1308c5726b49", func := "loop.example/polarisedlight/laws.FnExactJonesFits", spec := "fnExactJonesFits", inPlace := ["internal/reflectlite.ValueOf", "(internal/reflectlite.Value).Type", "(internal/reflectlite.Value).IsNil", "internal/reflectlite.TypeOf", "(internal/reflectlite.Value).Elem", "(internal/reflectlite.Value).Set"], unfollowed := true, recurses := true, named := ["errors.errorType"], apart := false, laid := [("errors.errorType", laid_errors_errorType)], narrowed := true }
def FnExactJonesFitsUptoSaid : Prop := fnExactJonesFitsUptoRow.holds Tryd.pinned (OpenSpec.upto fnExactJonesFitsSpec)

/-- 'laws.FnExactFracSingle', WHERE WHAT IT READS IS OF BULK AT MOST 1048576: true; the input reads as it did. -/
def fnExactFracSingleUptoRow : OpenClaim := { program := "ytbihlkienhbapaadoor", sum := "43ba9cb8db654bf6ce3d99364fdde37dffc87405d0d58aa1321e1308c5726b49", func := "loop.example/polarisedlight/laws.FnExactFracSingle", spec := "fnExactFracSingle", inPlace := ["internal/reflectlite.ValueOf", "(internal/reflectlite.Value).Type", "(internal/reflectlite.Value).IsNil", "internal/reflectlite.TypeOf", "(internal/reflectlite.Value).Elem", "(internal/reflectlite.Value).Set"], unfollowed := true, recurses := true, named := ["errors.errorType"], apart := false, laid := [("errors.errorType", laid_errors_errorType)], narrowed := true }
def FnExactFracSingleUptoSaid : Prop := fnExactFracSingleUptoRow.holds Tryd.pinned (OpenSpec.upto fnExactFracSingleSpec)

/-- 'laws.FnSingle', WHERE WHAT IT READS IS OF BULK AT MOST 1048576: true; the input reads as it did. -/
def fnSingleUptoRow : OpenClaim := { program := "ytbihlkienhbapaadoor", sum := "43ba9cb8db654bf6ce3d99364fdde37dffc87405d0d58aa1321e1308c5726b49", func := "loop.example/polarisedlight/laws.FnSingle", spec := "fnSingle", inPlace := ["internal/reflectlite.ValueOf", "(internal/reflectlite.Value).Type", "(internal/reflectlite.Value).IsNil", "internal/reflectlite.TypeOf", "(internal/reflectlite.Value).Elem", "(internal/reflectlite.Value).Set"], unfollowed := true, recurses := true, named := ["errors.errorType"], apart := false, laid := [("errors.errorType", laid_errors_errorType)], narrowed := true }
def FnSingleUptoSaid : Prop := fnSingleUptoRow.holds Tryd.pinned (OpenSpec.upto fnSingleSpec)

end Rows
end Go.Proofs.YtbihlkienhbapaaDoor
