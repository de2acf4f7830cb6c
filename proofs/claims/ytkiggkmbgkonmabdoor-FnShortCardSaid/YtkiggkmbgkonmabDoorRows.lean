/-
  NARROWER THAN 'FOR EVERY INPUT', by the rows' own cells (each row's printed sentence says how): FnExactFibreBeat: laid · FnExactFibreBack: laid · FnExactFibreShort: laid · FnBeat: laid · FnShort: laid.
  DERIVED. THE GIVEN ROWS OF THIS SEAT. 5 by the template 'for every input the law returns true; each argument reads behind the call as it read before'; 0 by the template 'total and deterministic' (their statements: YtkiggkmbgkonmabDoorTotals.lean).
  GIVEN WITH THE SEED: the statements are not yours to turn. If you find one false, say at which input.
  Laid BY PROGRAM, IN A SANDBOX (cutbox-rows.mjs): the forced cells as the released guide's own fill.sh prints them over the translation 645f273a69f43370… (all of the seat's roots in one cut). By AI agents, Wed Nov 11 2026. No macro, syntax, notation, axiom, sorry.
-/
import Derived.Test.YtkiggkmbgkonmabDoorChecked
import GoSem.Claim
import GoSem.ClaimJoined
import GoSem.ClaimMapViews
import Derived.JoinedTies
import Derived.KernelRfl
namespace Go.Proofs.YtkiggkmbgkonmabDoor
/- THE CELL 'sum', in the pinned program and in every row, IS THE sha256 OF THE DUMP (.gsa) THAT YtkiggkmbgkonmabDoorProg.lean LOADS. Nothing in Lean hashes anything: it is a label: what it is worth is what the hold of that sum in a sandbox is worth. -/
noncomputable def Tryd.pinned : Pinned := { name := "ytkiggkmbgkonmabdoor", sum := "645f273a69f4337004e49693840cb6955ab0a32ae841671feeb9726823d9d99f", checked := Tryd.checked }
namespace Rows
def none {H : Type} : Left H := { results := [], args := [] }

/- WHAT THE LISTED PACKAGE-LEVEL VARIABLES READ AS WHEN THE CALL BEGINS. Each datum BY PROGRAM (the guide's laid-datum.mjs) off the statement by which the dump's own 'gosem.cut.vars' lays the variable. In a bare row this is a premise. The card (YtkiggkmbgkonmabDoorCards.lean) ties it to the program's text. -/
def laid_errors_errorType {H : Type} : DataW H := .iface "internal/reflectlite.rtype" (.agg [.ptr (.lit (.string [101, 114, 114, 111, 114]))])

/-- 'laws.FnExactFibreBeat': WHATEVER THE INPUT: true; the input reads as it did. -/
def fnExactFibreBeatSpec : ChangeSpec := { name := "fnExactFibreBeat", fn := fun _ => fun
  | [d] => { results := [.lit (.bool true)], args := [d] }
  | _ => none }
def fnExactFibreBeatRow : OpenClaim := { program := "ytkiggkmbgkonmabdoor", sum := "645f273a69f4337004e49693840cb6955ab0a32ae841671feeb9726823d9d99f", func := "loop.example/polarisedlight/laws.FnExactFibreBeat", spec := "fnExactFibreBeat", inPlace := ["internal/reflectlite.ValueOf", "(internal/reflectlite.Value).Type", "(internal/reflectlite.Value).IsNil", "internal/reflectlite.TypeOf", "(internal/reflectlite.Value).Elem", "(internal/reflectlite.Value).Set"], unfollowed := true, recurses := true, named := ["errors.errorType"], apart := false, laid := [("errors.errorType", laid_errors_errorType)] }
def FnExactFibreBeatSaid : Prop := fnExactFibreBeatRow.holds Tryd.pinned (OpenSpec.ofChange fnExactFibreBeatSpec)

/-- ITS FALSE NEIGHBOUR: 'it returns false'. Refute it at one input. -/
def fnExactFibreBeatWrong : ChangeSpec := { name := "fnExactFibreBeat", fn := fun _ => fun
  | [d] => { results := [.lit (.bool false)], args := [d] }
  | _ => none }
def FnExactFibreBeatWrongFalsely : Prop := fnExactFibreBeatRow.holds Tryd.pinned (OpenSpec.ofChange fnExactFibreBeatWrong)

/-- 'laws.FnExactFibreBack': WHATEVER THE INPUT: true; the input reads as it did. -/
def fnExactFibreBackSpec : ChangeSpec := { name := "fnExactFibreBack", fn := fun _ => fun
  | [d] => { results := [.lit (.bool true)], args := [d] }
  | _ => none }
def fnExactFibreBackRow : OpenClaim := { program := "ytkiggkmbgkonmabdoor", sum := "645f273a69f4337004e49693840cb6955ab0a32ae841671feeb9726823d9d99f", func := "loop.example/polarisedlight/laws.FnExactFibreBack", spec := "fnExactFibreBack", inPlace := ["internal/reflectlite.ValueOf", "(internal/reflectlite.Value).Type", "(internal/reflectlite.Value).IsNil", "internal/reflectlite.TypeOf", "(internal/reflectlite.Value).Elem", "(internal/reflectlite.Value).Set"], unfollowed := true, recurses := true, named := ["errors.errorType"], apart := false, laid := [("errors.errorType", laid_errors_errorType)] }
def FnExactFibreBackSaid : Prop := fnExactFibreBackRow.holds Tryd.pinned (OpenSpec.ofChange fnExactFibreBackSpec)

/-- ITS FALSE NEIGHBOUR: 'it returns false'. Refute it at one input. -/
def fnExactFibreBackWrong : ChangeSpec := { name := "fnExactFibreBack", fn := fun _ => fun
  | [d] => { results := [.lit (.bool false)], args := [d] }
  | _ => none }
def FnExactFibreBackWrongFalsely : Prop := fnExactFibreBackRow.holds Tryd.pinned (OpenSpec.ofChange fnExactFibreBackWrong)

/-- 'laws.FnExactFibreShort': WHATEVER THE INPUT: true; the input reads as it did. -/
def fnExactFibreShortSpec : ChangeSpec := { name := "fnExactFibreShort", fn := fun _ => fun
  | [d] => { results := [.lit (.bool true)], args := [d] }
  | _ => none }
def fnExactFibreShortRow : OpenClaim := { program := "ytkiggkmbgkonmabdoor", sum := "645f273a69f4337004e49693840cb6955ab0a32ae841671feeb9726823d9d99f", func := "loop.example/polarisedlight/laws.FnExactFibreShort", spec := "fnExactFibreShort", inPlace := ["internal/reflectlite.ValueOf", "(internal/reflectlite.Value).Type", "(internal/reflectlite.Value).IsNil", "internal/reflectlite.TypeOf", "(internal/reflectlite.Value).Elem", "(internal/reflectlite.Value).Set"], unfollowed := true, recurses := true, named := ["errors.errorType"], apart := false, laid := [("errors.errorType", laid_errors_errorType)] }
def FnExactFibreShortSaid : Prop := fnExactFibreShortRow.holds Tryd.pinned (OpenSpec.ofChange fnExactFibreShortSpec)

/-- ITS FALSE NEIGHBOUR: 'it returns false'. Refute it at one input. -/
def fnExactFibreShortWrong : ChangeSpec := { name := "fnExactFibreShort", fn := fun _ => fun
  | [d] => { results := [.lit (.bool false)], args := [d] }
  | _ => none }
def FnExactFibreShortWrongFalsely : Prop := fnExactFibreShortRow.holds Tryd.pinned (OpenSpec.ofChange fnExactFibreShortWrong)

/-- 'laws.FnBeat': WHATEVER THE INPUT: true; the input reads as it did. -/
def fnBeatSpec : ChangeSpec := { name := "fnBeat", fn := fun _ => fun
  | [d] => { results := [.lit (.bool true)], args := [d] }
  | _ => none }
def fnBeatRow : OpenClaim := { program := "ytkiggkmbgkonmabdoor", sum := "645f273a69f4337004e49693840cb6955ab0a32ae841671feeb9726823d9d99f", func := "loop.example/polarisedlight/laws.FnBeat", spec := "fnBeat", inPlace := ["internal/reflectlite.ValueOf", "(internal/reflectlite.Value).Type", "(internal/reflectlite.Value).IsNil", "internal/reflectlite.TypeOf", "(internal/reflectlite.Value).Elem", "(internal/reflectlite.Value).Set"], unfollowed := true, recurses := true, named := ["errors.errorType"], apart := false, laid := [("errors.errorType", laid_errors_errorType)] }
def FnBeatSaid : Prop := fnBeatRow.holds Tryd.pinned (OpenSpec.ofChange fnBeatSpec)

/-- ITS FALSE NEIGHBOUR: 'it returns false'. Refute it at one input. -/
def fnBeatWrong : ChangeSpec := { name := "fnBeat", fn := fun _ => fun
  | [d] => { results := [.lit (.bool false)], args := [d] }
  | _ => none }
def FnBeatWrongFalsely : Prop := fnBeatRow.holds Tryd.pinned (OpenSpec.ofChange fnBeatWrong)

/-- 'laws.FnShort': WHATEVER THE INPUT: true; the input reads as it did. -/
def fnShortSpec : ChangeSpec := { name := "fnShort", fn := fun _ => fun
  | [d] => { results := [.lit (.bool true)], args := [d] }
  | _ => none }
def fnShortRow : OpenClaim := { program := "ytkiggkmbgkonmabdoor", sum := "645f273a69f4337004e49693840cb6955ab0a32ae841671feeb9726823d9d99f", func := "loop.example/polarisedlight/laws.FnShort", spec := "fnShort", inPlace := ["internal/reflectlite.ValueOf", "(internal/reflectlite.Value).Type", "(internal/reflectlite.Value).IsNil", "internal/reflectlite.TypeOf", "(internal/reflectlite.Value).Elem", "(internal/reflectlite.Value).Set"], unfollowed := true, recurses := true, named := ["errors.errorType"], apart := false, laid := [("errors.errorType", laid_errors_errorType)] }
def FnShortSaid : Prop := fnShortRow.holds Tryd.pinned (OpenSpec.ofChange fnShortSpec)

/-- ITS FALSE NEIGHBOUR: 'it returns false'. Refute it at one input. -/
def fnShortWrong : ChangeSpec := { name := "fnShort", fn := fun _ => fun
  | [d] => { results := [.lit (.bool false)], args := [d] }
  | _ => none }
def FnShortWrongFalsely : Prop := fnShortRow.holds Tryd.pinned (OpenSpec.ofChange fnShortWrong)

/- THE SECOND FORM. 'bulk': how many values and letters a reading holds, each counted each time it is reached (what is shared counts as often as it is met; a slice's spare places count too). A statement '..UptoSaid' is the law's where the arguments, and the package variables that the reading takes, are together of bulk at most 1048576: NARROWER than '..Said'. Prove '..Said' where nothing that the law and all that it calls make is longer than what came in: it says more and counts as full. Else prove '..UptoSaid'. A law counts once. -/
mutual
def uptoBulk {H : Type} : DataW H → Nat
  | .lit (.string bytes) => bytes.length + 1
  | .lit _ => 1
  | .nil => 1
  | .ptr d => uptoBulk d + 1
  | .slice elems spare => uptoBulkAll elems + uptoBulkAll spare + 1
  | .agg parts => uptoBulkAll parts + 1
  | .iface _ d => uptoBulk d + 1
  | .map entries => uptoBulkEntries entries + 1
  | .held _ => 1
def uptoBulkAll {H : Type} : List (DataW H) → Nat
  | [] => 0
  | d :: r => uptoBulk d + uptoBulkAll r
def uptoBulkEntries {H : Type} : List (Lit × DataW H) → Nat
  | [] => 0
  | x :: r => uptoBulkEntry x + uptoBulkEntries r
def uptoBulkEntry {H : Type} : Lit × DataW H → Nat
  | (.string bytes, d) => bytes.length + uptoBulk d + 1
  | (_, d) => uptoBulk d + 1
 end
def uptoSmall : (H : Type) → List (DataW H) → Bool := fun _ ds => decide (uptoBulkAll ds ≤ 1048576)
def OpenSpec.upto (s : _root_.Go.ChangeSpec) : _root_.Go.OpenSpec := { _root_.Go.OpenSpec.ofChange s with cond := some uptoSmall }

/-- 'laws.FnExactFibreBeat', WHERE WHAT IT READS IS OF BULK AT MOST 1048576: true; the input reads as it did. -/
def fnExactFibreBeatUptoRow : OpenClaim := { program := "ytkiggkmbgkonmabdoor", sum := "645f273a69f4337004e49693840cb6955ab0a32ae841671feeb9726823d9d99f", func := "loop.example/polarisedlight/laws.FnExactFibreBeat", spec := "fnExactFibreBeat", inPlace := ["internal/reflectlite.ValueOf", "(internal/reflectlite.Value).Type", "(internal/reflectlite.Value).IsNil", "internal/reflectlite.TypeOf", "(internal/reflectlite.Value).Elem", "(internal/reflectlite.Value).Set"], unfollowed := true, recurses := true, named := ["errors.errorType"], apart := false, laid := [("errors.errorType", laid_errors_errorType)], narrowed := true }
def FnExactFibreBeatUptoSaid : Prop := fnExactFibreBeatUptoRow.holds Tryd.pinned (OpenSpec.upto fnExactFibreBeatSpec)

/-- 'laws.FnExactFibreBack', WHERE WHAT IT READS IS OF BULK AT MOST 1048576: true; the input reads as it did. -/
def fnExactFibreBackUptoRow : OpenClaim := { program := "ytkiggkmbgkonmabdoor", sum := "645f273a69f4337004e49693840cb6955ab0a32ae841671feeb9726823d9d99f", func := "loop.example/polarisedlight/laws.FnExactFibreBack", spec := "fnExactFibreBack", inPlace := ["internal/reflectlite.ValueOf", "(internal/reflectlite.Value).Type", "(internal/reflectlite.Value).IsNil", "internal/reflectlite.TypeOf", "(internal/reflectlite.Value).Elem", "(internal/reflectlite.Value).Set"], unfollowed := true, recurses := true, named := ["errors.errorType"], apart := false, laid := [("errors.errorType", laid_errors_errorType)], narrowed := true }
def FnExactFibreBackUptoSaid : Prop := fnExactFibreBackUptoRow.holds Tryd.pinned (OpenSpec.upto fnExactFibreBackSpec)

/-- 'laws.FnExactFibreShort', WHERE WHAT IT READS IS OF BULK AT MOST 1048576: true; the input reads as it did. -/
def fnExactFibreShortUptoRow : OpenClaim := { program := "ytkiggkmbgkonmabdoor", sum := "645f273a69f4337004e49693840cb6955ab0a32ae841671feeb9726823d9d99f", func := "loop.example/polarisedlight/laws.FnExactFibreShort", spec := "fnExactFibreShort", inPlace := ["internal/reflectlite.ValueOf", "(internal/reflectlite.Value).Type", "(internal/reflectlite.Value).IsNil", "internal/reflectlite.TypeOf", "(internal/reflectlite.Value).Elem", "(internal/reflectlite.Value).Set"], unfollowed := true, recurses := true, named := ["errors.errorType"], apart := false, laid := [("errors.errorType", laid_errors_errorType)], narrowed := true }
def FnExactFibreShortUptoSaid : Prop := fnExactFibreShortUptoRow.holds Tryd.pinned (OpenSpec.upto fnExactFibreShortSpec)

/-- 'laws.FnBeat', WHERE WHAT IT READS IS OF BULK AT MOST 1048576: true; the input reads as it did. -/
def fnBeatUptoRow : OpenClaim := { program := "ytkiggkmbgkonmabdoor", sum := "645f273a69f4337004e49693840cb6955ab0a32ae841671feeb9726823d9d99f", func := "loop.example/polarisedlight/laws.FnBeat", spec := "fnBeat", inPlace := ["internal/reflectlite.ValueOf", "(internal/reflectlite.Value).Type", "(internal/reflectlite.Value).IsNil", "internal/reflectlite.TypeOf", "(internal/reflectlite.Value).Elem", "(internal/reflectlite.Value).Set"], unfollowed := true, recurses := true, named := ["errors.errorType"], apart := false, laid := [("errors.errorType", laid_errors_errorType)], narrowed := true }
def FnBeatUptoSaid : Prop := fnBeatUptoRow.holds Tryd.pinned (OpenSpec.upto fnBeatSpec)

/-- 'laws.FnShort', WHERE WHAT IT READS IS OF BULK AT MOST 1048576: true; the input reads as it did. -/
def fnShortUptoRow : OpenClaim := { program := "ytkiggkmbgkonmabdoor", sum := "645f273a69f4337004e49693840cb6955ab0a32ae841671feeb9726823d9d99f", func := "loop.example/polarisedlight/laws.FnShort", spec := "fnShort", inPlace := ["internal/reflectlite.ValueOf", "(internal/reflectlite.Value).Type", "(internal/reflectlite.Value).IsNil", "internal/reflectlite.TypeOf", "(internal/reflectlite.Value).Elem", "(internal/reflectlite.Value).Set"], unfollowed := true, recurses := true, named := ["errors.errorType"], apart := false, laid := [("errors.errorType", laid_errors_errorType)], narrowed := true }
def FnShortUptoSaid : Prop := fnShortUptoRow.holds Tryd.pinned (OpenSpec.upto fnShortSpec)

end Rows
end Go.Proofs.YtkiggkmbgkonmabDoor
