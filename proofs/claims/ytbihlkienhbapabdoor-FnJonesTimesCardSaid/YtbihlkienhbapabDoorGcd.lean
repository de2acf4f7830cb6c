/-
  Greatest common divisors and lowest terms: plain facts of whole numbers, over no program.
-/
import Derived.Test.YtbihlkienhbapabDoorRows
namespace Go.Proofs.YtbihlkienhbapabDoor

theorem gcd_step (x y : Int) : Int.gcd y (x.tmod y) = Int.gcd x y := by
  rw [Int.gcd_comm x y]
  have : x.tmod y = x - y * x.tdiv y := Int.tmod_def x y
  rw [this, Int.gcd_sub_mul_left_right]

theorem tmod_bound (x y : Int) (h : y ≠ 0) : (x.tmod y).natAbs < y.natAbs := by
  rw [Int.natAbs_tmod]
  exact Nat.mod_lt _ (by omega)
end Go.Proofs.YtbihlkienhbapabDoor
