/-
  NARROWER THAN 'FOR EVERY INPUT', by the rows' own cells (each row's printed sentence says how): FnExactFilmReflected: laid · FnExactFilmPassing: laid · FnExactFilmPowers: laid · FnReflected: laid.
  DERIVED. THE GIVEN ROWS OF THIS SEAT. 4 by the template 'for every input the law returns true; each argument reads behind the call as it read before'; 0 by the template 'total and deterministic' (their statements: YtdagcjohpmolpaaGreatDoorTotals.lean).
  GIVEN WITH THE SEED: the statements are not yours to turn. If you find one false, say at which input.
  Laid BY PROGRAM, IN A SANDBOX (cutbox-rows.mjs): the forced cells as the released guide's own fill.sh prints them over the translation 3dc6b4f4618c5aa4… (all of the seat's roots in one cut). By AI agents, Wed Nov 11 2026. No macro, syntax, notation, axiom, sorry.
-/
import Derived.Test.YtdagcjohpmolpaaGreatDoorChecked
import GoSem.Claim
import GoSem.ClaimJoined
import GoSem.ClaimMapViews
import Derived.JoinedTies
import Derived.KernelRfl
namespace Go.Proofs.YtdagcjohpmolpaaGreatDoor
/- THE CELL 'sum', in the pinned program and in every row, IS THE sha256 OF THE DUMP (.gsa) THAT YtdagcjohpmolpaaGreatDoorProg.lean LOADS. Nothing in Lean hashes anything: it is a label: what it is worth is what the hold of that sum in a sandbox is worth. -/
noncomputable def Tryz.pinned : Pinned := { name := "ytdagcjohpmolpaagreatdoor", sum := "3dc6b4f4618c5aa449977f8af04581a7ffb1f9ad4527532887b6eb6648c855cc", checked := Tryz.checked }
namespace Rows
def none {H : Type} : Left H := { results := [], args := [] }

/- WHAT THE LISTED PACKAGE-LEVEL VARIABLES READ AS WHEN THE CALL BEGINS. Each datum BY PROGRAM (the guide's laid-datum.mjs) off the statement by which the dump's own 'gosem.cut.vars' lays the variable. In a bare row this is a premise. The card (YtdagcjohpmolpaaGreatDoorCards.lean) ties it to the program's text. -/
def laid_errors_errorType {H : Type} : DataW H := .iface "internal/reflectlite.rtype" (.agg [.ptr (.lit (.string [101, 114, 114, 111, 114]))])

/-- 'laws.FnExactFilmReflected': WHATEVER THE INPUT: true; the input reads as it did. -/
def fnExactFilmReflectedSpec : ChangeSpec := { name := "fnExactFilmReflected", fn := fun _ => fun
  | [d1, d2, d3] => { results := [.lit (.bool true)], args := [d1, d2, d3] }
  | _ => none }
def fnExactFilmReflectedRow : OpenClaim := { program := "ytdagcjohpmolpaagreatdoor", sum := "3dc6b4f4618c5aa449977f8af04581a7ffb1f9ad4527532887b6eb6648c855cc", func := "loop.example/polarisedlight/laws.FnExactFilmReflected", spec := "fnExactFilmReflected", inPlace := ["internal/reflectlite.ValueOf", "(internal/reflectlite.Value).Type", "(internal/reflectlite.Value).IsNil", "internal/reflectlite.TypeOf", "(internal/reflectlite.Value).Elem", "(internal/reflectlite.Value).Set"], unfollowed := true, recurses := true, named := ["errors.errorType"], apart := false, laid := [("errors.errorType", laid_errors_errorType)] }
def FnExactFilmReflectedSaid : Prop := fnExactFilmReflectedRow.holds Tryz.pinned (OpenSpec.ofChange fnExactFilmReflectedSpec)

/-- ITS FALSE NEIGHBOUR: 'it returns false'. Refute it at one input. -/
def fnExactFilmReflectedWrong : ChangeSpec := { name := "fnExactFilmReflected", fn := fun _ => fun
  | [d1, d2, d3] => { results := [.lit (.bool false)], args := [d1, d2, d3] }
  | _ => none }
def FnExactFilmReflectedWrongFalsely : Prop := fnExactFilmReflectedRow.holds Tryz.pinned (OpenSpec.ofChange fnExactFilmReflectedWrong)

/-- 'laws.FnExactFilmPassing': WHATEVER THE INPUT: true; the input reads as it did. -/
def fnExactFilmPassingSpec : ChangeSpec := { name := "fnExactFilmPassing", fn := fun _ => fun
  | [d1, d2, d3] => { results := [.lit (.bool true)], args := [d1, d2, d3] }
  | _ => none }
def fnExactFilmPassingRow : OpenClaim := { program := "ytdagcjohpmolpaagreatdoor", sum := "3dc6b4f4618c5aa449977f8af04581a7ffb1f9ad4527532887b6eb6648c855cc", func := "loop.example/polarisedlight/laws.FnExactFilmPassing", spec := "fnExactFilmPassing", inPlace := ["internal/reflectlite.ValueOf", "(internal/reflectlite.Value).Type", "(internal/reflectlite.Value).IsNil", "internal/reflectlite.TypeOf", "(internal/reflectlite.Value).Elem", "(internal/reflectlite.Value).Set"], unfollowed := true, recurses := true, named := ["errors.errorType"], apart := false, laid := [("errors.errorType", laid_errors_errorType)] }
def FnExactFilmPassingSaid : Prop := fnExactFilmPassingRow.holds Tryz.pinned (OpenSpec.ofChange fnExactFilmPassingSpec)

/-- ITS FALSE NEIGHBOUR: 'it returns false'. Refute it at one input. -/
def fnExactFilmPassingWrong : ChangeSpec := { name := "fnExactFilmPassing", fn := fun _ => fun
  | [d1, d2, d3] => { results := [.lit (.bool false)], args := [d1, d2, d3] }
  | _ => none }
def FnExactFilmPassingWrongFalsely : Prop := fnExactFilmPassingRow.holds Tryz.pinned (OpenSpec.ofChange fnExactFilmPassingWrong)

/-- 'laws.FnExactFilmPowers': WHATEVER THE INPUT: true; the input reads as it did. -/
def fnExactFilmPowersSpec : ChangeSpec := { name := "fnExactFilmPowers", fn := fun _ => fun
  | [d1, d2, d3] => { results := [.lit (.bool true)], args := [d1, d2, d3] }
  | _ => none }
def fnExactFilmPowersRow : OpenClaim := { program := "ytdagcjohpmolpaagreatdoor", sum := "3dc6b4f4618c5aa449977f8af04581a7ffb1f9ad4527532887b6eb6648c855cc", func := "loop.example/polarisedlight/laws.FnExactFilmPowers", spec := "fnExactFilmPowers", inPlace := ["internal/reflectlite.ValueOf", "(internal/reflectlite.Value).Type", "(internal/reflectlite.Value).IsNil", "internal/reflectlite.TypeOf", "(internal/reflectlite.Value).Elem", "(internal/reflectlite.Value).Set"], unfollowed := true, recurses := true, named := ["errors.errorType"], apart := false, laid := [("errors.errorType", laid_errors_errorType)] }
def FnExactFilmPowersSaid : Prop := fnExactFilmPowersRow.holds Tryz.pinned (OpenSpec.ofChange fnExactFilmPowersSpec)

/-- ITS FALSE NEIGHBOUR: 'it returns false'. Refute it at one input. -/
def fnExactFilmPowersWrong : ChangeSpec := { name := "fnExactFilmPowers", fn := fun _ => fun
  | [d1, d2, d3] => { results := [.lit (.bool false)], args := [d1, d2, d3] }
  | _ => none }
def FnExactFilmPowersWrongFalsely : Prop := fnExactFilmPowersRow.holds Tryz.pinned (OpenSpec.ofChange fnExactFilmPowersWrong)

/-- 'laws.FnReflected': WHATEVER THE INPUT: true; the input reads as it did. -/
def fnReflectedSpec : ChangeSpec := { name := "fnReflected", fn := fun _ => fun
  | [d] => { results := [.lit (.bool true)], args := [d] }
  | _ => none }
def fnReflectedRow : OpenClaim := { program := "ytdagcjohpmolpaagreatdoor", sum := "3dc6b4f4618c5aa449977f8af04581a7ffb1f9ad4527532887b6eb6648c855cc", func := "loop.example/polarisedlight/laws.FnReflected", spec := "fnReflected", inPlace := ["internal/reflectlite.ValueOf", "(internal/reflectlite.Value).Type", "(internal/reflectlite.Value).IsNil", "internal/reflectlite.TypeOf", "(internal/reflectlite.Value).Elem", "(internal/reflectlite.Value).Set"], unfollowed := true, recurses := true, named := ["errors.errorType"], apart := false, laid := [("errors.errorType", laid_errors_errorType)] }
def FnReflectedSaid : Prop := fnReflectedRow.holds Tryz.pinned (OpenSpec.ofChange fnReflectedSpec)

/-- ITS FALSE NEIGHBOUR: 'it returns false'. Refute it at one input. -/
def fnReflectedWrong : ChangeSpec := { name := "fnReflected", fn := fun _ => fun
  | [d] => { results := [.lit (.bool false)], args := [d] }
  | _ => none }
def FnReflectedWrongFalsely : Prop := fnReflectedRow.holds Tryz.pinned (OpenSpec.ofChange fnReflectedWrong)

/- THE SECOND FORM. 'bulk': how many values and letters a reading holds, each counted each time it is reached (what is shared counts as often as it is met; a slice's spare places count too). A statement '..UptoSaid' is the law's where the arguments, and the package variables that the reading takes, are together of bulk at most 1048576: NARROWER than '..Said'. Prove '..Said' where nothing that the law and all that it calls make is longer than what came in: it says more and counts as full. Else prove '..UptoSaid'. A law counts once. -/
mutual
def uptoBulk {H : Type} : DataW H → Nat
  | .lit (.string bytes) => bytes.length + 1
  | .lit _ => 1
  | .nil => 1
  | .ptr d => uptoBulk d + 1
  | .slice elems spare => uptoBulkAll elems + uptoBulkAll spare + 1
  | .agg parts => uptoBulkAll parts + 1
  | .iface _ d => uptoBulk d + 1
  | .map entries => uptoBulkEntries entries + 1
  | .held _ => 1
def uptoBulkAll {H : Type} : List (DataW H) → Nat
  | [] => 0
  | d :: r => uptoBulk d + uptoBulkAll r
def uptoBulkEntries {H : Type} : List (Lit × DataW H) → Nat
  | [] => 0
  | x :: r => uptoBulkEntry x + uptoBulkEntries r
def uptoBulkEntry {H : Type} : Lit × DataW H → Nat
  | (.string bytes, d) => bytes.length + uptoBulk d + 1
  | (_, d) => uptoBulk d + 1
 end
def uptoSmall : (H : Type) → List (DataW H) → Bool := fun _ ds => decide (uptoBulkAll ds ≤ 1048576)
def OpenSpec.upto (s : _root_.Go.ChangeSpec) : _root_.Go.OpenSpec := { _root_.Go.OpenSpec.ofChange s with cond := some uptoSmall }

/-- 'laws.FnExactFilmReflected', WHERE WHAT IT READS IS OF BULK AT MOST 1048576: true; the input reads as it did. -/
def fnExactFilmReflectedUptoRow : OpenClaim := { program := "ytdagcjohpmolpaagreatdoor", sum := "3dc6b4f4618c5aa449977f8af04581a7ffb1f9ad4527532887b6eb6648c855cc", func := "loop.example/polarisedlight/laws.FnExactFilmReflected", spec := "fnExactFilmReflected", inPlace := ["internal/reflectlite.ValueOf", "(internal/reflectlite.Value).Type", "(internal/reflectlite.Value).IsNil", "internal/reflectlite.TypeOf", "(internal/reflectlite.Value).Elem", "(internal/reflectlite.Value).Set"], unfollowed := true, recurses := true, named := ["errors.errorType"], apart := false, laid := [("errors.errorType", laid_errors_errorType)], narrowed := true }
def FnExactFilmReflectedUptoSaid : Prop := fnExactFilmReflectedUptoRow.holds Tryz.pinned (OpenSpec.upto fnExactFilmReflectedSpec)

/-- 'laws.FnExactFilmPassing', WHERE WHAT IT READS IS OF BULK AT MOST 1048576: true; the input reads as it did. -/
def fnExactFilmPassingUptoRow : OpenClaim := { program := "ytdagcjohpmolpaagreatdoor", sum := "3dc6b4f4618c5aa449977f8af04581a7ffb1f9ad4527532887b6eb6648c855cc", func := "loop.example/polarisedlight/laws.FnExactFilmPassing", spec := "fnExactFilmPassing", inPlace := ["internal/reflectlite.ValueOf", "(internal/reflectlite.Value).Type", "(internal/reflectlite.Value).IsNil", "internal/reflectlite.TypeOf", "(internal/reflectlite.Value).Elem", "(internal/reflectlite.Value).Set"], unfollowed := true, recurses := true, named := ["errors.errorType"], apart := false, laid := [("errors.errorType", laid_errors_errorType)], narrowed := true }
def FnExactFilmPassingUptoSaid : Prop := fnExactFilmPassingUptoRow.holds Tryz.pinned (OpenSpec.upto fnExactFilmPassingSpec)

/-- 'laws.FnExactFilmPowers', WHERE WHAT IT READS IS OF BULK AT MOST 1048576: true; the input reads as it did. -/
def fnExactFilmPowersUptoRow : OpenClaim := { program := "ytdagcjohpmolpaagreatdoor", sum := "3dc6b4f4618c5aa449977f8af04581a7ffb1f9ad4527532887b6eb6648c855cc", func := "loop.example/polarisedlight/laws.FnExactFilmPowers", spec := "fnExactFilmPowers", inPlace := ["internal/reflectlite.ValueOf", "(internal/reflectlite.Value).Type", "(internal/reflectlite.Value).IsNil", "internal/reflectlite.TypeOf", "(internal/reflectlite.Value).Elem", "(internal/reflectlite.Value).Set"], unfollowed := true, recurses := true, named := ["errors.errorType"], apart := false, laid := [("errors.errorType", laid_errors_errorType)], narrowed := true }
def FnExactFilmPowersUptoSaid : Prop := fnExactFilmPowersUptoRow.holds Tryz.pinned (OpenSpec.upto fnExactFilmPowersSpec)

/-- 'laws.FnReflected', WHERE WHAT IT READS IS OF BULK AT MOST 1048576: true; the input reads as it did. -/
def fnReflectedUptoRow : OpenClaim := { program := "ytdagcjohpmolpaagreatdoor", sum := "3dc6b4f4618c5aa449977f8af04581a7ffb1f9ad4527532887b6eb6648c855cc", func := "loop.example/polarisedlight/laws.FnReflected", spec := "fnReflected", inPlace := ["internal/reflectlite.ValueOf", "(internal/reflectlite.Value).Type", "(internal/reflectlite.Value).IsNil", "internal/reflectlite.TypeOf", "(internal/reflectlite.Value).Elem", "(internal/reflectlite.Value).Set"], unfollowed := true, recurses := true, named := ["errors.errorType"], apart := false, laid := [("errors.errorType", laid_errors_errorType)], narrowed := true }
def FnReflectedUptoSaid : Prop := fnReflectedUptoRow.holds Tryz.pinned (OpenSpec.upto fnReflectedSpec)

end Rows
end Go.Proofs.YtdagcjohpmolpaaGreatDoor
