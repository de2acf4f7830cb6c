/-
  What the exact laws do with lists of four ints.
-/
import Derived.Test.YtkdkeacfifjjoabGreatDoorBFib
import Derived.Test.YtkdkeacfifjjoabGreatDoorBLawF
import Derived.Test.YtkdkeacfifjjoabGreatDoorRow
import Derived.Deep.MidRow
import Derived.OwnWalk
import Derived.Deep.RegionHeld3
namespace Go.Proofs.YtkdkeacfifjjoabGreatDoor
open Go.ChangeShapes Go.WideShapes Go.ChangeAt Go.RowKit
set_option linter.unusedVariables false

set_option linter.unusedSimpArgs false
set_option linter.unusedSimpArgs false
/-- A list's cells. -/
def layC (ls : List L4) : List Value := ls.flatMap fun l => [.int .i64 l.1.1, .int .i64 l.1.2.1, .int .i64 l.1.2.2, .int .i64 l.2]
theorem layC_len (ls : List L4) : (layC ls).length = ls.length * 4 := by
  unfold layC
  induction ls with
  | nil => rfl
  | cons l r ih => rw [List.flatMap_cons, List.length_append, ih]; simp; omega
theorem layC_append (a b : List L4) : layC (a ++ b) = layC a ++ layC b := by unfold layC; rw [List.flatMap_append]
theorem layC_at {ls : List L4} {i : Nat} {l : L4} (h : ls[i]? = some l) : (layC ls)[i * 4]? = some (.int .i64 l.1.1) ∧ (layC ls)[i * 4 + 1]? = some (.int .i64 l.1.2.1) ∧ (layC ls)[i * 4 + 2]? = some (.int .i64 l.1.2.2) ∧ (layC ls)[i * 4 + 3]? = some (.int .i64 l.2) := by
  obtain ⟨hi, e⟩ := List.getElem?_eq_some_iff.1 h
  have e2 : layC ls = layC (ls.take i) ++ ([.int .i64 l.1.1, .int .i64 l.1.2.1, .int .i64 l.1.2.2, .int .i64 l.2] ++ layC (ls.drop (i + 1))) := by
    conv => lhs; rw [← List.take_append_drop i ls, List.drop_eq_getElem_cons hi, e]
    rw [layC_append]
    rfl
  have hl : (layC (ls.take i)).length = i * 4 := by rw [layC_len, List.length_take, Nat.min_eq_left (Nat.le_of_lt hi)]
  rw [e2]
  refine ⟨?_, ?_, ?_, ?_⟩ <;> rw [List.getElem?_append_right (by omega)]
  · rw [show i * 4 - (layC (ls.take i)).length = 0 by omega]; rfl
  · rw [show i * 4 + 1 - (layC (ls.take i)).length = 1 by omega]; rfl
  · rw [show i * 4 + 2 - (layC (ls.take i)).length = 2 by omega]; rfl
  · rw [show i * 4 + 3 - (layC (ls.take i)).length = 3 by omega]; rfl
set_option linter.unusedSimpArgs false
set_option linter.unusedSimpArgs false
theorem info_section : (Tryz.prog.info? 90).map (fun i => (i.zero, i.size, i.bytes)) = some (some (.agg #[.int .i64 0, .int .i64 0, .int .i64 0, .int .i64 0]), 4, 32) := by kernel_rfl
set_option linter.unusedSimpArgs false
end Go.Proofs.YtkdkeacfifjjoabGreatDoor
