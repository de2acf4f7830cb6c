/-
  NARROWER THAN 'FOR EVERY INPUT', by the rows' own cells (each row's printed sentence says how): FnJones: laid · FnJonesPower: laid · FnInner: laid · FnJonesAdd: laid · FnJonesTimes: laid · FnCross: laid · FnJonesWide: laid · FnFits: laid.
  DERIVED. THE GIVEN ROWS OF THIS SEAT. 8 by the template 'for every input the law returns true; each argument reads behind the call as it read before'; 0 by the template 'total and deterministic' (their statements: YtbihlkienhbapabDoorTotals.lean).
  GIVEN WITH THE SEED: the statements are not yours to turn. If you find one false, say at which input.
  Laid BY PROGRAM, IN A SANDBOX (cutbox-rows.mjs): the forced cells as the released guide's own fill.sh prints them over the translation 22935ab943eee13d… (all of the seat's roots in one cut). By AI agents, Wed Nov 11 2026. No macro, syntax, notation, axiom, sorry.
-/
import Derived.Test.YtbihlkienhbapabDoorChecked
import GoSem.Claim
import GoSem.ClaimJoined
import GoSem.ClaimMapViews
import Derived.JoinedTies
import Derived.KernelRfl
namespace Go.Proofs.YtbihlkienhbapabDoor
/- THE CELL 'sum', in the pinned program and in every row, IS THE sha256 OF THE DUMP (.gsa) THAT YtbihlkienhbapabDoorProg.lean LOADS. Nothing in Lean hashes anything: it is a label: what it is worth is what the hold of that sum in a sandbox is worth. -/
noncomputable def Tryd.pinned : Pinned := { name := "ytbihlkienhbapabdoor", sum := "22935ab943eee13df76498ebe0e35fddc75422d793768b954473d0827901cd3b", checked := Tryd.checked }
namespace Rows
def none {H : Type} : Left H := { results := [], args := [] }

/- WHAT THE LISTED PACKAGE-LEVEL VARIABLES READ AS WHEN THE CALL BEGINS. Each datum BY PROGRAM (the guide's laid-datum.mjs) off the statement by which the dump's own 'gosem.cut.vars' lays the variable. In a bare row this is a premise. The card (YtbihlkienhbapabDoorCards.lean) ties it to the program's text. -/
def laid_errors_errorType {H : Type} : DataW H := .iface "internal/reflectlite.rtype" (.agg [.ptr (.lit (.string [101, 114, 114, 111, 114]))])

/-- 'laws.FnJones': WHATEVER THE INPUT: true; the input reads as it did. -/
def fnJonesSpec : ChangeSpec := { name := "fnJones", fn := fun _ => fun
  | [d] => { results := [.lit (.bool true)], args := [d] }
  | _ => none }
def fnJonesRow : OpenClaim := { program := "ytbihlkienhbapabdoor", sum := "22935ab943eee13df76498ebe0e35fddc75422d793768b954473d0827901cd3b", func := "loop.example/polarisedlight/laws.FnJones", spec := "fnJones", inPlace := ["internal/reflectlite.ValueOf", "(internal/reflectlite.Value).Type", "(internal/reflectlite.Value).IsNil", "internal/reflectlite.TypeOf", "(internal/reflectlite.Value).Elem", "(internal/reflectlite.Value).Set"], unfollowed := true, recurses := true, named := ["errors.errorType"], apart := false, laid := [("errors.errorType", laid_errors_errorType)] }
def FnJonesSaid : Prop := fnJonesRow.holds Tryd.pinned (OpenSpec.ofChange fnJonesSpec)

/-- ITS FALSE NEIGHBOUR: 'it returns false'. Refute it at one input. -/
def fnJonesWrong : ChangeSpec := { name := "fnJones", fn := fun _ => fun
  | [d] => { results := [.lit (.bool false)], args := [d] }
  | _ => none }
def FnJonesWrongFalsely : Prop := fnJonesRow.holds Tryd.pinned (OpenSpec.ofChange fnJonesWrong)

/-- 'laws.FnJonesPower': WHATEVER THE INPUT: true; the input reads as it did. -/
def fnJonesPowerSpec : ChangeSpec := { name := "fnJonesPower", fn := fun _ => fun
  | [d] => { results := [.lit (.bool true)], args := [d] }
  | _ => none }
def fnJonesPowerRow : OpenClaim := { program := "ytbihlkienhbapabdoor", sum := "22935ab943eee13df76498ebe0e35fddc75422d793768b954473d0827901cd3b", func := "loop.example/polarisedlight/laws.FnJonesPower", spec := "fnJonesPower", inPlace := ["internal/reflectlite.ValueOf", "(internal/reflectlite.Value).Type", "(internal/reflectlite.Value).IsNil", "internal/reflectlite.TypeOf", "(internal/reflectlite.Value).Elem", "(internal/reflectlite.Value).Set"], unfollowed := true, recurses := true, named := ["errors.errorType"], apart := false, laid := [("errors.errorType", laid_errors_errorType)] }
def FnJonesPowerSaid : Prop := fnJonesPowerRow.holds Tryd.pinned (OpenSpec.ofChange fnJonesPowerSpec)

/-- ITS FALSE NEIGHBOUR: 'it returns false'. Refute it at one input. -/
def fnJonesPowerWrong : ChangeSpec := { name := "fnJonesPower", fn := fun _ => fun
  | [d] => { results := [.lit (.bool false)], args := [d] }
  | _ => none }
def FnJonesPowerWrongFalsely : Prop := fnJonesPowerRow.holds Tryd.pinned (OpenSpec.ofChange fnJonesPowerWrong)

/-- 'laws.FnInner': WHATEVER THE INPUT: true; the input reads as it did. -/
def fnInnerSpec : ChangeSpec := { name := "fnInner", fn := fun _ => fun
  | [d] => { results := [.lit (.bool true)], args := [d] }
  | _ => none }
def fnInnerRow : OpenClaim := { program := "ytbihlkienhbapabdoor", sum := "22935ab943eee13df76498ebe0e35fddc75422d793768b954473d0827901cd3b", func := "loop.example/polarisedlight/laws.FnInner", spec := "fnInner", inPlace := ["internal/reflectlite.ValueOf", "(internal/reflectlite.Value).Type", "(internal/reflectlite.Value).IsNil", "internal/reflectlite.TypeOf", "(internal/reflectlite.Value).Elem", "(internal/reflectlite.Value).Set"], unfollowed := true, recurses := true, named := ["errors.errorType"], apart := false, laid := [("errors.errorType", laid_errors_errorType)] }
def FnInnerSaid : Prop := fnInnerRow.holds Tryd.pinned (OpenSpec.ofChange fnInnerSpec)

/-- ITS FALSE NEIGHBOUR: 'it returns false'. Refute it at one input. -/
def fnInnerWrong : ChangeSpec := { name := "fnInner", fn := fun _ => fun
  | [d] => { results := [.lit (.bool false)], args := [d] }
  | _ => none }
def FnInnerWrongFalsely : Prop := fnInnerRow.holds Tryd.pinned (OpenSpec.ofChange fnInnerWrong)

/-- 'laws.FnJonesAdd': WHATEVER THE INPUT: true; the input reads as it did. -/
def fnJonesAddSpec : ChangeSpec := { name := "fnJonesAdd", fn := fun _ => fun
  | [d] => { results := [.lit (.bool true)], args := [d] }
  | _ => none }
def fnJonesAddRow : OpenClaim := { program := "ytbihlkienhbapabdoor", sum := "22935ab943eee13df76498ebe0e35fddc75422d793768b954473d0827901cd3b", func := "loop.example/polarisedlight/laws.FnJonesAdd", spec := "fnJonesAdd", inPlace := ["internal/reflectlite.ValueOf", "(internal/reflectlite.Value).Type", "(internal/reflectlite.Value).IsNil", "internal/reflectlite.TypeOf", "(internal/reflectlite.Value).Elem", "(internal/reflectlite.Value).Set"], unfollowed := true, recurses := true, named := ["errors.errorType"], apart := false, laid := [("errors.errorType", laid_errors_errorType)] }
def FnJonesAddSaid : Prop := fnJonesAddRow.holds Tryd.pinned (OpenSpec.ofChange fnJonesAddSpec)

/-- ITS FALSE NEIGHBOUR: 'it returns false'. Refute it at one input. -/
def fnJonesAddWrong : ChangeSpec := { name := "fnJonesAdd", fn := fun _ => fun
  | [d] => { results := [.lit (.bool false)], args := [d] }
  | _ => none }
def FnJonesAddWrongFalsely : Prop := fnJonesAddRow.holds Tryd.pinned (OpenSpec.ofChange fnJonesAddWrong)

/-- 'laws.FnJonesTimes': WHATEVER THE INPUT: true; the input reads as it did. -/
def fnJonesTimesSpec : ChangeSpec := { name := "fnJonesTimes", fn := fun _ => fun
  | [d] => { results := [.lit (.bool true)], args := [d] }
  | _ => none }
def fnJonesTimesRow : OpenClaim := { program := "ytbihlkienhbapabdoor", sum := "22935ab943eee13df76498ebe0e35fddc75422d793768b954473d0827901cd3b", func := "loop.example/polarisedlight/laws.FnJonesTimes", spec := "fnJonesTimes", inPlace := ["internal/reflectlite.ValueOf", "(internal/reflectlite.Value).Type", "(internal/reflectlite.Value).IsNil", "internal/reflectlite.TypeOf", "(internal/reflectlite.Value).Elem", "(internal/reflectlite.Value).Set"], unfollowed := true, recurses := true, named := ["errors.errorType"], apart := false, laid := [("errors.errorType", laid_errors_errorType)] }
def FnJonesTimesSaid : Prop := fnJonesTimesRow.holds Tryd.pinned (OpenSpec.ofChange fnJonesTimesSpec)

/-- ITS FALSE NEIGHBOUR: 'it returns false'. Refute it at one input. -/
def fnJonesTimesWrong : ChangeSpec := { name := "fnJonesTimes", fn := fun _ => fun
  | [d] => { results := [.lit (.bool false)], args := [d] }
  | _ => none }
def FnJonesTimesWrongFalsely : Prop := fnJonesTimesRow.holds Tryd.pinned (OpenSpec.ofChange fnJonesTimesWrong)

/-- 'laws.FnCross': WHATEVER THE INPUT: true; the input reads as it did. -/
def fnCrossSpec : ChangeSpec := { name := "fnCross", fn := fun _ => fun
  | [d] => { results := [.lit (.bool true)], args := [d] }
  | _ => none }
def fnCrossRow : OpenClaim := { program := "ytbihlkienhbapabdoor", sum := "22935ab943eee13df76498ebe0e35fddc75422d793768b954473d0827901cd3b", func := "loop.example/polarisedlight/laws.FnCross", spec := "fnCross", inPlace := ["internal/reflectlite.ValueOf", "(internal/reflectlite.Value).Type", "(internal/reflectlite.Value).IsNil", "internal/reflectlite.TypeOf", "(internal/reflectlite.Value).Elem", "(internal/reflectlite.Value).Set"], unfollowed := true, recurses := true, named := ["errors.errorType"], apart := false, laid := [("errors.errorType", laid_errors_errorType)] }
def FnCrossSaid : Prop := fnCrossRow.holds Tryd.pinned (OpenSpec.ofChange fnCrossSpec)

/-- ITS FALSE NEIGHBOUR: 'it returns false'. Refute it at one input. -/
def fnCrossWrong : ChangeSpec := { name := "fnCross", fn := fun _ => fun
  | [d] => { results := [.lit (.bool false)], args := [d] }
  | _ => none }
def FnCrossWrongFalsely : Prop := fnCrossRow.holds Tryd.pinned (OpenSpec.ofChange fnCrossWrong)

/-- 'laws.FnJonesWide': WHATEVER THE INPUT: true; the input reads as it did. -/
def fnJonesWideSpec : ChangeSpec := { name := "fnJonesWide", fn := fun _ => fun
  | [d] => { results := [.lit (.bool true)], args := [d] }
  | _ => none }
def fnJonesWideRow : OpenClaim := { program := "ytbihlkienhbapabdoor", sum := "22935ab943eee13df76498ebe0e35fddc75422d793768b954473d0827901cd3b", func := "loop.example/polarisedlight/laws.FnJonesWide", spec := "fnJonesWide", inPlace := ["internal/reflectlite.ValueOf", "(internal/reflectlite.Value).Type", "(internal/reflectlite.Value).IsNil", "internal/reflectlite.TypeOf", "(internal/reflectlite.Value).Elem", "(internal/reflectlite.Value).Set"], unfollowed := true, recurses := true, named := ["errors.errorType"], apart := false, laid := [("errors.errorType", laid_errors_errorType)] }
def FnJonesWideSaid : Prop := fnJonesWideRow.holds Tryd.pinned (OpenSpec.ofChange fnJonesWideSpec)

/-- ITS FALSE NEIGHBOUR: 'it returns false'. Refute it at one input. -/
def fnJonesWideWrong : ChangeSpec := { name := "fnJonesWide", fn := fun _ => fun
  | [d] => { results := [.lit (.bool false)], args := [d] }
  | _ => none }
def FnJonesWideWrongFalsely : Prop := fnJonesWideRow.holds Tryd.pinned (OpenSpec.ofChange fnJonesWideWrong)

/-- 'laws.FnFits': WHATEVER THE INPUT: true; the input reads as it did. -/
def fnFitsSpec : ChangeSpec := { name := "fnFits", fn := fun _ => fun
  | [d] => { results := [.lit (.bool true)], args := [d] }
  | _ => none }
def fnFitsRow : OpenClaim := { program := "ytbihlkienhbapabdoor", sum := "22935ab943eee13df76498ebe0e35fddc75422d793768b954473d0827901cd3b", func := "loop.example/polarisedlight/laws.FnFits", spec := "fnFits", inPlace := ["internal/reflectlite.ValueOf", "(internal/reflectlite.Value).Type", "(internal/reflectlite.Value).IsNil", "internal/reflectlite.TypeOf", "(internal/reflectlite.Value).Elem", "(internal/reflectlite.Value).Set"], unfollowed := true, recurses := true, named := ["errors.errorType"], apart := false, laid := [("errors.errorType", laid_errors_errorType)] }
def FnFitsSaid : Prop := fnFitsRow.holds Tryd.pinned (OpenSpec.ofChange fnFitsSpec)

/-- ITS FALSE NEIGHBOUR: 'it returns false'. Refute it at one input. -/
def fnFitsWrong : ChangeSpec := { name := "fnFits", fn := fun _ => fun
  | [d] => { results := [.lit (.bool false)], args := [d] }
  | _ => none }
def FnFitsWrongFalsely : Prop := fnFitsRow.holds Tryd.pinned (OpenSpec.ofChange fnFitsWrong)

/- THE SECOND FORM. 'bulk': how many values and letters a reading holds, each counted each time it is reached (what is shared counts as often as it is met; a slice's spare places count too). A statement '..UptoSaid' is the law's where the arguments, and the package variables that the reading takes, are together of bulk at most 1048576: NARROWER than '..Said'. Prove '..Said' where nothing that the law and all that it calls make is longer than what came in: it says more and counts as full. Else prove '..UptoSaid'. A law counts once. -/
mutual
def uptoBulk {H : Type} : DataW H → Nat
  | .lit (.string bytes) => bytes.length + 1
  | .lit _ => 1
  | .nil => 1
  | .ptr d => uptoBulk d + 1
  | .slice elems spare => uptoBulkAll elems + uptoBulkAll spare + 1
  | .agg parts => uptoBulkAll parts + 1
  | .iface _ d => uptoBulk d + 1
  | .map entries => uptoBulkEntries entries + 1
  | .held _ => 1
def uptoBulkAll {H : Type} : List (DataW H) → Nat
  | [] => 0
  | d :: r => uptoBulk d + uptoBulkAll r
def uptoBulkEntries {H : Type} : List (Lit × DataW H) → Nat
  | [] => 0
  | x :: r => uptoBulkEntry x + uptoBulkEntries r
def uptoBulkEntry {H : Type} : Lit × DataW H → Nat
  | (.string bytes, d) => bytes.length + uptoBulk d + 1
  | (_, d) => uptoBulk d + 1
 end
def uptoSmall : (H : Type) → List (DataW H) → Bool := fun _ ds => decide (uptoBulkAll ds ≤ 1048576)
def OpenSpec.upto (s : _root_.Go.ChangeSpec) : _root_.Go.OpenSpec := { _root_.Go.OpenSpec.ofChange s with cond := some uptoSmall }

/-- 'laws.FnJones', WHERE WHAT IT READS IS OF BULK AT MOST 1048576: true; the input reads as it did. -/
def fnJonesUptoRow : OpenClaim := { program := "ytbihlkienhbapabdoor", sum := "22935ab943eee13df76498ebe0e35fddc75422d793768b954473d0827901cd3b", func := "loop.example/polarisedlight/laws.FnJones", spec := "fnJones", inPlace := ["internal/reflectlite.ValueOf", "(internal/reflectlite.Value).Type", "(internal/reflectlite.Value).IsNil", "internal/reflectlite.TypeOf", "(internal/reflectlite.Value).Elem", "(internal/reflectlite.Value).Set"], unfollowed := true, recurses := true, named := ["errors.errorType"], apart := false, laid := [("errors.errorType", laid_errors_errorType)], narrowed := true }
def FnJonesUptoSaid : Prop := fnJonesUptoRow.holds Tryd.pinned (OpenSpec.upto fnJonesSpec)

/-- 'laws.FnJonesPower', WHERE WHAT IT READS IS OF BULK AT MOST 1048576: true; the input reads as it did. -/
def fnJonesPowerUptoRow : OpenClaim := { program := "ytbihlkienhbapabdoor", sum := "22935ab943eee13df76498ebe0e35fddc75422d793768b954473d0827901cd3b", func := "loop.example/polarisedlight/laws.FnJonesPower", spec := "fnJonesPower", inPlace := ["internal/reflectlite.ValueOf", "(internal/reflectlite.Value).Type", "(internal/reflectlite.Value).IsNil", "internal/reflectlite.TypeOf", "(internal/reflectlite.Value).Elem", "(internal/reflectlite.Value).Set"], unfollowed := true, recurses := true, named := ["errors.errorType"], apart := false, laid := [("errors.errorType", laid_errors_errorType)], narrowed := true }
def FnJonesPowerUptoSaid : Prop := fnJonesPowerUptoRow.holds Tryd.pinned (OpenSpec.upto fnJonesPowerSpec)

/-- 'laws.FnInner', WHERE WHAT IT READS IS OF BULK AT MOST 1048576: true; the input reads as it did. -/
def fnInnerUptoRow : OpenClaim := { program := "ytbihlkienhbapabdoor", sum := "22935ab943eee13df76498ebe0e35fddc75422d793768b954473d0827901cd3b", func := "loop.example/polarisedlight/laws.FnInner", spec := "fnInner", inPlace := ["internal/reflectlite.ValueOf", "(internal/reflectlite.Value).Type", "(internal/reflectlite.Value).IsNil", "internal/reflectlite.TypeOf", "(internal/reflectlite.Value).Elem", "(internal/reflectlite.Value).Set"], unfollowed := true, recurses := true, named := ["errors.errorType"], apart := false, laid := [("errors.errorType", laid_errors_errorType)], narrowed := true }
def FnInnerUptoSaid : Prop := fnInnerUptoRow.holds Tryd.pinned (OpenSpec.upto fnInnerSpec)

/-- 'laws.FnJonesAdd', WHERE WHAT IT READS IS OF BULK AT MOST 1048576: true; the input reads as it did. -/
def fnJonesAddUptoRow : OpenClaim := { program := "ytbihlkienhbapabdoor", sum := "22935ab943eee13df76498ebe0e35fddc75422d793768b954473d0827901cd3b", func := "loop.example/polarisedlight/laws.FnJonesAdd", spec := "fnJonesAdd", inPlace := ["internal/reflectlite.ValueOf", "(internal/reflectlite.Value).Type", "(internal/reflectlite.Value).IsNil", "internal/reflectlite.TypeOf", "(internal/reflectlite.Value).Elem", "(internal/reflectlite.Value).Set"], unfollowed := true, recurses := true, named := ["errors.errorType"], apart := false, laid := [("errors.errorType", laid_errors_errorType)], narrowed := true }
def FnJonesAddUptoSaid : Prop := fnJonesAddUptoRow.holds Tryd.pinned (OpenSpec.upto fnJonesAddSpec)

/-- 'laws.FnJonesTimes', WHERE WHAT IT READS IS OF BULK AT MOST 1048576: true; the input reads as it did. -/
def fnJonesTimesUptoRow : OpenClaim := { program := "ytbihlkienhbapabdoor", sum := "22935ab943eee13df76498ebe0e35fddc75422d793768b954473d0827901cd3b", func := "loop.example/polarisedlight/laws.FnJonesTimes", spec := "fnJonesTimes", inPlace := ["internal/reflectlite.ValueOf", "(internal/reflectlite.Value).Type", "(internal/reflectlite.Value).IsNil", "internal/reflectlite.TypeOf", "(internal/reflectlite.Value).Elem", "(internal/reflectlite.Value).Set"], unfollowed := true, recurses := true, named := ["errors.errorType"], apart := false, laid := [("errors.errorType", laid_errors_errorType)], narrowed := true }
def FnJonesTimesUptoSaid : Prop := fnJonesTimesUptoRow.holds Tryd.pinned (OpenSpec.upto fnJonesTimesSpec)

/-- 'laws.FnCross', WHERE WHAT IT READS IS OF BULK AT MOST 1048576: true; the input reads as it did. -/
def fnCrossUptoRow : OpenClaim := { program := "ytbihlkienhbapabdoor", sum := "22935ab943eee13df76498ebe0e35fddc75422d793768b954473d0827901cd3b", func := "loop.example/polarisedlight/laws.FnCross", spec := "fnCross", inPlace := ["internal/reflectlite.ValueOf", "(internal/reflectlite.Value).Type", "(internal/reflectlite.Value).IsNil", "internal/reflectlite.TypeOf", "(internal/reflectlite.Value).Elem", "(internal/reflectlite.Value).Set"], unfollowed := true, recurses := true, named := ["errors.errorType"], apart := false, laid := [("errors.errorType", laid_errors_errorType)], narrowed := true }
def FnCrossUptoSaid : Prop := fnCrossUptoRow.holds Tryd.pinned (OpenSpec.upto fnCrossSpec)

/-- 'laws.FnJonesWide', WHERE WHAT IT READS IS OF BULK AT MOST 1048576: true; the input reads as it did. -/
def fnJonesWideUptoRow : OpenClaim := { program := "ytbihlkienhbapabdoor", sum := "22935ab943eee13df76498ebe0e35fddc75422d793768b954473d0827901cd3b", func := "loop.example/polarisedlight/laws.FnJonesWide", spec := "fnJonesWide", inPlace := ["internal/reflectlite.ValueOf", "(internal/reflectlite.Value).Type", "(internal/reflectlite.Value).IsNil", "internal/reflectlite.TypeOf", "(internal/reflectlite.Value).Elem", "(internal/reflectlite.Value).Set"], unfollowed := true, recurses := true, named := ["errors.errorType"], apart := false, laid := [("errors.errorType", laid_errors_errorType)], narrowed := true }
def FnJonesWideUptoSaid : Prop := fnJonesWideUptoRow.holds Tryd.pinned (OpenSpec.upto fnJonesWideSpec)

/-- 'laws.FnFits', WHERE WHAT IT READS IS OF BULK AT MOST 1048576: true; the input reads as it did. -/
def fnFitsUptoRow : OpenClaim := { program := "ytbihlkienhbapabdoor", sum := "22935ab943eee13df76498ebe0e35fddc75422d793768b954473d0827901cd3b", func := "loop.example/polarisedlight/laws.FnFits", spec := "fnFits", inPlace := ["internal/reflectlite.ValueOf", "(internal/reflectlite.Value).Type", "(internal/reflectlite.Value).IsNil", "internal/reflectlite.TypeOf", "(internal/reflectlite.Value).Elem", "(internal/reflectlite.Value).Set"], unfollowed := true, recurses := true, named := ["errors.errorType"], apart := false, laid := [("errors.errorType", laid_errors_errorType)], narrowed := true }
def FnFitsUptoSaid : Prop := fnFitsUptoRow.holds Tryd.pinned (OpenSpec.upto fnFitsSpec)

end Rows
end Go.Proofs.YtbihlkienhbapabDoor
