/-
  Float operations at whatever operands, as equations: a value and the world behind it. Equal is equal both ways.
-/
import Derived.Test.YtbihlkienhbapabDoorFloat
import Derived.Test.YtbihlkienhbapabDoorMem
namespace Go.Proofs.YtbihlkienhbapabDoor
set_option linter.unusedVariables false

/-- A float operation's answer at a world, and the world behind it. -/
def fval (op : BinOp) (w : World) (x y : Nat) : Nat := (floatBits op .f64 x y).getD (nanAt w x y)
def fworld (op : BinOp) (w : World) (x y : Nat) : World := if (floatBits op .f64 x y).isSome = true then w else w.drew
theorem fval_same (op : BinOp) (w : World) (x y : Nat) : Same (fval op w x y) (fop op x y) := by
  unfold fval fop
  cases floatBits op .f64 x y with
  | some r => exact .refl _
  | none => exact .inr ⟨isN_nanAt w x y, isN_nan0⟩
theorem fworld_bare (op : BinOp) (w : World) (x y : Nat) : Bare w (fworld op w x y) := by
  unfold fworld
  split
  · exact bare_drewN w 0
  · exact bare_drewN w 1
@[go_sem] theorem fworld_cell (op : BinOp) (w : World) (x y : Nat) (a : Addr) : (fworld op w x y).cell? a = w.cell? a := by unfold fworld; split <;> rfl
@[go_sem] theorem fworld_frozen (op : BinOp) (w : World) (x y : Nat) (a : Addr) : (fworld op w x y).frozen? a = w.frozen? a := by unfold fworld; split <;> rfl
@[go_sem] theorem fworld_size (op : BinOp) (w : World) (x y : Nat) : (fworld op w x y).heap.size = w.heap.size := by unfold fworld; split <;> rfl
theorem run_any {P : Program} {op : BinOp} (hop : op = .add ∨ op = .sub ∨ op = .mul ∨ op = .quo) (t : TypeId) (x y : Nat) (w : World) :
    (binOp op t (.float .f64 x) (.float .f64 y)).run P w = .ok (.float .f64 (fval op w x y)) (fworld op w x y) := by
  unfold fval fworld
  cases h : floatBits op .f64 x y with
  | some r => simpa using run_told h t w
  | none => simpa using run_nan hop h t w
theorem run_add {P : Program} (t : TypeId) (x y : Nat) (w : World) : (binOp .add t (.float .f64 x) (.float .f64 y)).run P w = .ok (.float .f64 (fval .add w x y)) (fworld .add w x y) := run_any (by simp) t x y w
theorem run_sub {P : Program} (t : TypeId) (x y : Nat) (w : World) : (binOp .sub t (.float .f64 x) (.float .f64 y)).run P w = .ok (.float .f64 (fval .sub w x y)) (fworld .sub w x y) := run_any (by simp) t x y w
theorem run_mul {P : Program} (t : TypeId) (x y : Nat) (w : World) : (binOp .mul t (.float .f64 x) (.float .f64 y)).run P w = .ok (.float .f64 (fval .mul w x y)) (fworld .mul w x y) := run_any (by simp) t x y w
theorem run_quo {P : Program} (t : TypeId) (x y : Nat) (w : World) : (binOp .quo t (.float .f64 x) (.float .f64 y)).run P w = .ok (.float .f64 (fval .quo w x y)) (fworld .quo w x y) := run_any (by simp) t x y w

/-- Equal is equal both ways. -/
theorem order_eq_symm {x y : Nat} {k : FloatKind} (h : k.format.order x y = some .eq) : k.format.order y x = some .eq := by
  have key : ∀ a b : Ieee.Datum, a.order b = some .eq → b.order a = some .eq := by
    intro a b h
    cases a with
    | nan => cases h
    | infinity s =>
      cases b with
      | nan => cases h
      | infinity t => cases s <;> cases t <;> simp_all [Ieee.Datum.order] <;> revert h <;> decide
      | number => cases s <;> cases h
    | number s m i =>
      cases b with
      | nan => cases h
      | infinity t => cases t <;> cases h
      | number t n j =>
        simp only [Ieee.Datum.order, Option.some.injEq] at h ⊢
        rw [Int.compare_eq_eq] at h ⊢
        rw [Int.min_comm]; exact h.symm
  exact key _ _ h
theorem not_nan_of_eq {x y : Nat} (h : FloatKind.f64.format.order x y = some .eq) : isN x = false := by
  cases e : isN x with
  | false => rfl
  | true => rw [order_nan_left e] at h; cases h

end Go.Proofs.YtbihlkienhbapabDoor
