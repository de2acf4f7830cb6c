/-
  NARROWER THAN 'FOR EVERY INPUT', by the rows' own cells (each row's printed sentence says how): FnExactFibreMat: laid · FnExactFibreRun: laid · FnExactFibreOrder: laid · FnExactFibreStays: laid.
  DERIVED. THE GIVEN ROWS OF THIS SEAT. 4 by the template 'for every input the law returns true; each argument reads behind the call as it read before'; 0 by the template 'total and deterministic' (their statements: YtkiggkmbgkonmaaGreatDoorTotals.lean).
  GIVEN WITH THE SEED: the statements are not yours to turn. If you find one false, say at which input.
  Laid BY PROGRAM, IN A SANDBOX (cutbox-rows.mjs): the forced cells as the released guide's own fill.sh prints them over the translation d18ba98d9725fd39… (all of the seat's roots in one cut). By AI agents, Wed Nov 11 2026. No macro, syntax, notation, axiom, sorry.
-/
import Derived.Test.YtkiggkmbgkonmaaGreatDoorChecked
import GoSem.Claim
import GoSem.ClaimJoined
import GoSem.ClaimMapViews
import Derived.JoinedTies
import Derived.KernelRfl
namespace Go.Proofs.YtkiggkmbgkonmaaGreatDoor
/- THE CELL 'sum', in the pinned program and in every row, IS THE sha256 OF THE DUMP (.gsa) THAT YtkiggkmbgkonmaaGreatDoorProg.lean LOADS. Nothing in Lean hashes anything: it is a label: what it is worth is what the hold of that sum in a sandbox is worth. -/
noncomputable def Tryz.pinned : Pinned := { name := "ytkiggkmbgkonmaagreatdoor", sum := "d18ba98d9725fd39be8a559e51b7432f9fbbd1c37bd24fb5d837b45364636e04", checked := Tryz.checked }
namespace Rows
def none {H : Type} : Left H := { results := [], args := [] }

/- WHAT THE LISTED PACKAGE-LEVEL VARIABLES READ AS WHEN THE CALL BEGINS. Each datum BY PROGRAM (the guide's laid-datum.mjs) off the statement by which the dump's own 'gosem.cut.vars' lays the variable. In a bare row this is a premise. The card (YtkiggkmbgkonmaaGreatDoorCards.lean) ties it to the program's text. -/
def laid_errors_errorType {H : Type} : DataW H := .iface "internal/reflectlite.rtype" (.agg [.ptr (.lit (.string [101, 114, 114, 111, 114]))])

/-- 'laws.FnExactFibreMat': WHATEVER THE INPUT: true; the input reads as it did. -/
def fnExactFibreMatSpec : ChangeSpec := { name := "fnExactFibreMat", fn := fun _ => fun
  | [d] => { results := [.lit (.bool true)], args := [d] }
  | _ => none }
def fnExactFibreMatRow : OpenClaim := { program := "ytkiggkmbgkonmaagreatdoor", sum := "d18ba98d9725fd39be8a559e51b7432f9fbbd1c37bd24fb5d837b45364636e04", func := "loop.example/polarisedlight/laws.FnExactFibreMat", spec := "fnExactFibreMat", inPlace := ["internal/reflectlite.ValueOf", "(internal/reflectlite.Value).Type", "(internal/reflectlite.Value).IsNil", "internal/reflectlite.TypeOf", "(internal/reflectlite.Value).Elem", "(internal/reflectlite.Value).Set"], unfollowed := true, recurses := true, named := ["errors.errorType"], apart := false, laid := [("errors.errorType", laid_errors_errorType)] }
def FnExactFibreMatSaid : Prop := fnExactFibreMatRow.holds Tryz.pinned (OpenSpec.ofChange fnExactFibreMatSpec)

/-- ITS FALSE NEIGHBOUR: 'it returns false'. Refute it at one input. -/
def fnExactFibreMatWrong : ChangeSpec := { name := "fnExactFibreMat", fn := fun _ => fun
  | [d] => { results := [.lit (.bool false)], args := [d] }
  | _ => none }
def FnExactFibreMatWrongFalsely : Prop := fnExactFibreMatRow.holds Tryz.pinned (OpenSpec.ofChange fnExactFibreMatWrong)

/-- 'laws.FnExactFibreRun': WHATEVER THE INPUT: true; the input reads as it did. -/
def fnExactFibreRunSpec : ChangeSpec := { name := "fnExactFibreRun", fn := fun _ => fun
  | [d1, d2] => { results := [.lit (.bool true)], args := [d1, d2] }
  | _ => none }
def fnExactFibreRunRow : OpenClaim := { program := "ytkiggkmbgkonmaagreatdoor", sum := "d18ba98d9725fd39be8a559e51b7432f9fbbd1c37bd24fb5d837b45364636e04", func := "loop.example/polarisedlight/laws.FnExactFibreRun", spec := "fnExactFibreRun", inPlace := ["internal/reflectlite.ValueOf", "(internal/reflectlite.Value).Type", "(internal/reflectlite.Value).IsNil", "internal/reflectlite.TypeOf", "(internal/reflectlite.Value).Elem", "(internal/reflectlite.Value).Set"], unfollowed := true, recurses := true, named := ["errors.errorType"], apart := false, laid := [("errors.errorType", laid_errors_errorType)] }
def FnExactFibreRunSaid : Prop := fnExactFibreRunRow.holds Tryz.pinned (OpenSpec.ofChange fnExactFibreRunSpec)

/-- ITS FALSE NEIGHBOUR: 'it returns false'. Refute it at one input. -/
def fnExactFibreRunWrong : ChangeSpec := { name := "fnExactFibreRun", fn := fun _ => fun
  | [d1, d2] => { results := [.lit (.bool false)], args := [d1, d2] }
  | _ => none }
def FnExactFibreRunWrongFalsely : Prop := fnExactFibreRunRow.holds Tryz.pinned (OpenSpec.ofChange fnExactFibreRunWrong)

/-- 'laws.FnExactFibreOrder': WHATEVER THE INPUT: true; the input reads as it did. -/
def fnExactFibreOrderSpec : ChangeSpec := { name := "fnExactFibreOrder", fn := fun _ => fun
  | [d] => { results := [.lit (.bool true)], args := [d] }
  | _ => none }
def fnExactFibreOrderRow : OpenClaim := { program := "ytkiggkmbgkonmaagreatdoor", sum := "d18ba98d9725fd39be8a559e51b7432f9fbbd1c37bd24fb5d837b45364636e04", func := "loop.example/polarisedlight/laws.FnExactFibreOrder", spec := "fnExactFibreOrder", inPlace := ["internal/reflectlite.ValueOf", "(internal/reflectlite.Value).Type", "(internal/reflectlite.Value).IsNil", "internal/reflectlite.TypeOf", "(internal/reflectlite.Value).Elem", "(internal/reflectlite.Value).Set"], unfollowed := true, recurses := true, named := ["errors.errorType"], apart := false, laid := [("errors.errorType", laid_errors_errorType)] }
def FnExactFibreOrderSaid : Prop := fnExactFibreOrderRow.holds Tryz.pinned (OpenSpec.ofChange fnExactFibreOrderSpec)

/-- ITS FALSE NEIGHBOUR: 'it returns false'. Refute it at one input. -/
def fnExactFibreOrderWrong : ChangeSpec := { name := "fnExactFibreOrder", fn := fun _ => fun
  | [d] => { results := [.lit (.bool false)], args := [d] }
  | _ => none }
def FnExactFibreOrderWrongFalsely : Prop := fnExactFibreOrderRow.holds Tryz.pinned (OpenSpec.ofChange fnExactFibreOrderWrong)

/-- 'laws.FnExactFibreStays': WHATEVER THE INPUT: true; the input reads as it did. -/
def fnExactFibreStaysSpec : ChangeSpec := { name := "fnExactFibreStays", fn := fun _ => fun
  | [d1, d2] => { results := [.lit (.bool true)], args := [d1, d2] }
  | _ => none }
def fnExactFibreStaysRow : OpenClaim := { program := "ytkiggkmbgkonmaagreatdoor", sum := "d18ba98d9725fd39be8a559e51b7432f9fbbd1c37bd24fb5d837b45364636e04", func := "loop.example/polarisedlight/laws.FnExactFibreStays", spec := "fnExactFibreStays", inPlace := ["internal/reflectlite.ValueOf", "(internal/reflectlite.Value).Type", "(internal/reflectlite.Value).IsNil", "internal/reflectlite.TypeOf", "(internal/reflectlite.Value).Elem", "(internal/reflectlite.Value).Set"], unfollowed := true, recurses := true, named := ["errors.errorType"], apart := false, laid := [("errors.errorType", laid_errors_errorType)] }
def FnExactFibreStaysSaid : Prop := fnExactFibreStaysRow.holds Tryz.pinned (OpenSpec.ofChange fnExactFibreStaysSpec)

/-- ITS FALSE NEIGHBOUR: 'it returns false'. Refute it at one input. -/
def fnExactFibreStaysWrong : ChangeSpec := { name := "fnExactFibreStays", fn := fun _ => fun
  | [d1, d2] => { results := [.lit (.bool false)], args := [d1, d2] }
  | _ => none }
def FnExactFibreStaysWrongFalsely : Prop := fnExactFibreStaysRow.holds Tryz.pinned (OpenSpec.ofChange fnExactFibreStaysWrong)

/- THE SECOND FORM. 'bulk': how many values and letters a reading holds, each counted each time it is reached (what is shared counts as often as it is met; a slice's spare places count too). A statement '..UptoSaid' is the law's where the arguments, and the package variables that the reading takes, are together of bulk at most 1048576: NARROWER than '..Said'. Prove '..Said' where nothing that the law and all that it calls make is longer than what came in: it says more and counts as full. Else prove '..UptoSaid'. A law counts once. -/
mutual
def uptoBulk {H : Type} : DataW H → Nat
  | .lit (.string bytes) => bytes.length + 1
  | .lit _ => 1
  | .nil => 1
  | .ptr d => uptoBulk d + 1
  | .slice elems spare => uptoBulkAll elems + uptoBulkAll spare + 1
  | .agg parts => uptoBulkAll parts + 1
  | .iface _ d => uptoBulk d + 1
  | .map entries => uptoBulkEntries entries + 1
  | .held _ => 1
def uptoBulkAll {H : Type} : List (DataW H) → Nat
  | [] => 0
  | d :: r => uptoBulk d + uptoBulkAll r
def uptoBulkEntries {H : Type} : List (Lit × DataW H) → Nat
  | [] => 0
  | x :: r => uptoBulkEntry x + uptoBulkEntries r
def uptoBulkEntry {H : Type} : Lit × DataW H → Nat
  | (.string bytes, d) => bytes.length + uptoBulk d + 1
  | (_, d) => uptoBulk d + 1
 end
def uptoSmall : (H : Type) → List (DataW H) → Bool := fun _ ds => decide (uptoBulkAll ds ≤ 1048576)
def OpenSpec.upto (s : _root_.Go.ChangeSpec) : _root_.Go.OpenSpec := { _root_.Go.OpenSpec.ofChange s with cond := some uptoSmall }

/-- 'laws.FnExactFibreMat', WHERE WHAT IT READS IS OF BULK AT MOST 1048576: true; the input reads as it did. -/
def fnExactFibreMatUptoRow : OpenClaim := { program := "ytkiggkmbgkonmaagreatdoor", sum := "d18ba98d9725fd39be8a559e51b7432f9fbbd1c37bd24fb5d837b45364636e04", func := "loop.example/polarisedlight/laws.FnExactFibreMat", spec := "fnExactFibreMat", inPlace := ["internal/reflectlite.ValueOf", "(internal/reflectlite.Value).Type", "(internal/reflectlite.Value).IsNil", "internal/reflectlite.TypeOf", "(internal/reflectlite.Value).Elem", "(internal/reflectlite.Value).Set"], unfollowed := true, recurses := true, named := ["errors.errorType"], apart := false, laid := [("errors.errorType", laid_errors_errorType)], narrowed := true }
def FnExactFibreMatUptoSaid : Prop := fnExactFibreMatUptoRow.holds Tryz.pinned (OpenSpec.upto fnExactFibreMatSpec)

/-- 'laws.FnExactFibreRun', WHERE WHAT IT READS IS OF BULK AT MOST 1048576: true; the input reads as it did. -/
def fnExactFibreRunUptoRow : OpenClaim := { program := "ytkiggkmbgkonmaagreatdoor", sum := "d18ba98d9725fd39be8a559e51b7432f9fbbd1c37bd24fb5d837b45364636e04", func := "loop.example/polarisedlight/laws.FnExactFibreRun", spec := "fnExactFibreRun", inPlace := ["internal/reflectlite.ValueOf", "(internal/reflectlite.Value).Type", "(internal/reflectlite.Value).IsNil", "internal/reflectlite.TypeOf", "(internal/reflectlite.Value).Elem", "(internal/reflectlite.Value).Set"], unfollowed := true, recurses := true, named := ["errors.errorType"], apart := false, laid := [("errors.errorType", laid_errors_errorType)], narrowed := true }
def FnExactFibreRunUptoSaid : Prop := fnExactFibreRunUptoRow.holds Tryz.pinned (OpenSpec.upto fnExactFibreRunSpec)

/-- 'laws.FnExactFibreOrder', WHERE WHAT IT READS IS OF BULK AT MOST 1048576: true; the input reads as it did. -/
def fnExactFibreOrderUptoRow : OpenClaim := { program := "ytkiggkmbgkonmaagreatdoor", sum := "d18ba98d9725fd39be8a559e51b7432f9fbbd1c37bd24fb5d837b45364636e04", func := "loop.example/polarisedlight/laws.FnExactFibreOrder", spec := "fnExactFibreOrder", inPlace := ["internal/reflectlite.ValueOf", "(internal/reflectlite.Value).Type", "(internal/reflectlite.Value).IsNil", "internal/reflectlite.TypeOf", "(internal/reflectlite.Value).Elem", "(internal/reflectlite.Value).Set"], unfollowed := true, recurses := true, named := ["errors.errorType"], apart := false, laid := [("errors.errorType", laid_errors_errorType)], narrowed := true }
def FnExactFibreOrderUptoSaid : Prop := fnExactFibreOrderUptoRow.holds Tryz.pinned (OpenSpec.upto fnExactFibreOrderSpec)

/-- 'laws.FnExactFibreStays', WHERE WHAT IT READS IS OF BULK AT MOST 1048576: true; the input reads as it did. -/
def fnExactFibreStaysUptoRow : OpenClaim := { program := "ytkiggkmbgkonmaagreatdoor", sum := "d18ba98d9725fd39be8a559e51b7432f9fbbd1c37bd24fb5d837b45364636e04", func := "loop.example/polarisedlight/laws.FnExactFibreStays", spec := "fnExactFibreStays", inPlace := ["internal/reflectlite.ValueOf", "(internal/reflectlite.Value).Type", "(internal/reflectlite.Value).IsNil", "internal/reflectlite.TypeOf", "(internal/reflectlite.Value).Elem", "(internal/reflectlite.Value).Set"], unfollowed := true, recurses := true, named := ["errors.errorType"], apart := false, laid := [("errors.errorType", laid_errors_errorType)], narrowed := true }
def FnExactFibreStaysUptoSaid : Prop := fnExactFibreStaysUptoRow.holds Tryz.pinned (OpenSpec.upto fnExactFibreStaysSpec)

end Rows
end Go.Proofs.YtkiggkmbgkonmaaGreatDoor
