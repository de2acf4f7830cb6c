/-
  Sums and differences of drawn numbers, up to the bits of NaN; what a law's walk ends in.
-/
import Derived.Test.YtfhdinhfjiilfabAlike
namespace Go.Proofs.Ytfhdinhfjiilfab
open Go.ChangeShapes Go.WideShapes Go.ChangeAt Go.RowKit
set_option linter.unusedVariables false

theorem fin_sub : finites.all (fun x => floatBits .sub .f64 x x == some 0 && floatBits .add .f64 x (Op.negFloat .f64 x) == some 0) = true := by decide +kernel
theorem fin_sub_self {x : Nat} (h : x ∈ finites) : floatBits .sub .f64 x x = some 0 ∧ floatBits .add .f64 x (Op.negFloat .f64 x) = some 0 := by
  have := List.all_eq_true.1 fin_sub x h
  simpa using this
theorem notfin_sub_self {x : Nat} (h : Drawn x) (hx : ¬ x ∈ finites) : floatBits .sub .f64 x x = none := by
  rcases h with h | rfl | h
  · exact fbits_nan_left h _
  · kernel_rfl
  · exact absurd h hx

/-- Sums and differences of wide numbers, up to the bits of NaN. -/
theorem run_csum_any {P : Program} (op : BinOp) (hop : op = .add ∨ op = .sub) (t : TypeId) (a b c d : Nat) (w : World) :
    ∃ re im n, (binOp op t (.complex .f64 a b) (.complex .f64 c d)).run P w = .ok (.complex .f64 re im) (w.drewN n) ∧ Same re (fop op a c) ∧ Same im (fop op b d) := by
  have hop' : op = .add ∨ op = .sub ∨ op = .mul ∨ op = .quo := by rcases hop with h | h <;> simp [h]
  obtain ⟨re, n, h1, s1⟩ := run_carith_any (P := P) op hop' a c w
  obtain ⟨im, m, h2, s2⟩ := run_carith_any (P := P) op hop' b d (w.drewN n)
  refine ⟨re, im, n + m, ?_, s1, s2⟩
  rw [World.drewN_drewN] at h2
  rcases hop with rfl | rfl <;> simp [binOp, Op.complexOp, h1, h2]

def DrewOne (w : World) (e : Ending) (w' : World) : Prop :=
  ∃ a b : Nat, e = .returned (.complex .f64 a b) ∧ Drawn a ∧ Drawn b ∧ Below w.heap.size w w'

def Fine (w : World) (e : Ending) (w' : World) : Prop := e = .returned (.bool true) ∧ Below w.heap.size w w'

def Bare (w w' : World) : Prop := ∀ B, Below B w w'
theorem bare_drewN (w : World) (n : Nat) : Bare w (w.drewN n) := fun _ => ⟨rfl, rfl, rfl, Nat.le_refl _, fun _ _ => rfl⟩
theorem not_nan_of_eq {x y : Nat} (h : FloatKind.f64.format.order x y = some .eq) : isN x = false := by
  cases e : isN x with
  | false => rfl
  | true => rw [order_nan_left e] at h; cases h

/-- A float operation's answer at a world, and the world behind it. -/
def fval (op : BinOp) (w : World) (x y : Nat) : Nat := (floatBits op .f64 x y).getD (nanAt w x y)
def fworld (op : BinOp) (w : World) (x y : Nat) : World := if (floatBits op .f64 x y).isSome = true then w else w.drew
theorem fval_same (op : BinOp) (w : World) (x y : Nat) : Same (fval op w x y) (fop op x y) := by
  unfold fval fop
  cases floatBits op .f64 x y with
  | some r => exact .refl _
  | none => exact .inr ⟨isN_nanAt w x y, isN_nan0⟩
theorem fworld_bare (op : BinOp) (w : World) (x y : Nat) : Bare w (fworld op w x y) := by
  unfold fworld
  split
  · exact bare_drewN w 0
  · exact bare_drewN w 1
theorem run_any {P : Program} {op : BinOp} (hop : op = .add ∨ op = .sub ∨ op = .mul ∨ op = .quo) (t : TypeId) (x y : Nat) (w : World) :
    (binOp op t (.float .f64 x) (.float .f64 y)).run P w = .ok (.float .f64 (fval op w x y)) (fworld op w x y) := by
  unfold fval fworld
  cases h : floatBits op .f64 x y with
  | some r => simpa using run_told h t w
  | none => simpa using run_nan hop h t w
theorem run_add {P : Program} (t : TypeId) (x y : Nat) (w : World) : (binOp .add t (.float .f64 x) (.float .f64 y)).run P w = .ok (.float .f64 (fval .add w x y)) (fworld .add w x y) := run_any (by simp) t x y w
theorem run_sub {P : Program} (t : TypeId) (x y : Nat) (w : World) : (binOp .sub t (.float .f64 x) (.float .f64 y)).run P w = .ok (.float .f64 (fval .sub w x y)) (fworld .sub w x y) := run_any (by simp) t x y w
theorem run_mul {P : Program} (t : TypeId) (x y : Nat) (w : World) : (binOp .mul t (.float .f64 x) (.float .f64 y)).run P w = .ok (.float .f64 (fval .mul w x y)) (fworld .mul w x y) := run_any (by simp) t x y w
theorem run_quo {P : Program} (t : TypeId) (x y : Nat) (w : World) : (binOp .quo t (.float .f64 x) (.float .f64 y)).run P w = .ok (.float .f64 (fval .quo w x y)) (fworld .quo w x y) := run_any (by simp) t x y w
theorem Bare.trans {u v w : World} (h : Bare u v) (k : Bare v w) : Bare u w := fun B => (h B).trans (k B)

/-- Equal is equal both ways. -/
theorem order_eq_symm {x y : Nat} {k : FloatKind} (h : k.format.order x y = some .eq) : k.format.order y x = some .eq := by
  have key : ∀ a b : Ieee.Datum, a.order b = some .eq → b.order a = some .eq := by
    intro a b h
    cases a with
    | nan => cases h
    | infinity s =>
      cases b with
      | nan => cases h
      | infinity t => cases s <;> cases t <;> simp_all [Ieee.Datum.order] <;> revert h <;> decide
      | number => cases s <;> cases h
    | number s m i =>
      cases b with
      | nan => cases h
      | infinity t => cases t <;> cases h
      | number t n j =>
        simp only [Ieee.Datum.order, Option.some.injEq] at h ⊢
        rw [Int.compare_eq_eq] at h ⊢
        rw [Int.min_comm]; exact h.symm
  exact key _ _ h
end Go.Proofs.Ytfhdinhfjiilfab
