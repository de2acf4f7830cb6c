/-
  The model: films: valid, a layer's matrix.
-/
import Derived.Test.YtkdkeacfifjjoaaGreatDoorBFib
import Derived.Test.YtkdkeacfifjjoaaGreatDoorSpecM3
import Derived.Test.YtkdkeacfifjjoaaGreatDoorSpecM5
import Derived.Test.YtkdkeacfifjjoaaGreatDoorBSpecF
namespace Go.Proofs.YtkdkeacfifjjoaaGreatDoor
open Go.ChangeShapes Go.WideShapes Go.ChangeAt Go.RowKit
set_option linter.unusedVariables false

set_option linter.unusedSimpArgs false
theorem all_no {ls : List L4} {k : Nat} {x : L4} (e : ls.take (k + 1) = ls.take k ++ [x]) (h : okL x = false) : okFl ls = false := by
  have e2 := List.take_append_drop (k + 1) ls
  unfold okFl
  rw [show ls.all okL = false by rw [← e2, e, List.all_append, List.all_append]; simp [h], Bool.false_and]
theorem all_yes {ls : List L4} {k : Nat} {x : L4} (e : ls.take (k + 1) = ls.take k ++ [x]) (h : okL x = true) (H : (ls.take k).all okL = true) : (ls.take (k + 1)).all okL = true := by
  rw [e, List.all_append, H]
  simp [h]
theorem okL_no1 {n1 n2 n3 q : Int} (h : okF n1 n2 n3 = false) : okL ((n1, n2, n3), q) = false := by
  unfold okL okX okT
  simp [h]
theorem okL_no2 {n1 n2 n3 q : Int} (h1 : n1 = 0) (h2 : n2 = 0) : okL ((n1, n2, n3), q) = false := by
  unfold okL okX
  simp [h1, h2]
theorem okL_no3 {n1 n2 n3 q : Int} (h : inB q 0 3 = false) : okL ((n1, n2, n3), q) = false := by
  unfold okL
  simp [h]
theorem okX_mk {n1 n2 n3 : Int} (h : okF n1 n2 n3 = true) (h0 : ¬ (n1 = 0 ∧ n2 = 0)) : okX (n1, n2, n3) = true := by
  unfold okX okT
  rw [show okF (n1, n2, n3).1 (n1, n2, n3).2.1 (n1, n2, n3).2.2 = true from h, Bool.true_and, Bool.not_eq_true', Bool.and_eq_false_iff, beq_eq_false_iff_ne, beq_eq_false_iff_ne]
  show n1 ≠ 0 ∨ n2 ≠ 0
  omega
theorem okL_mk {n1 n2 n3 q : Int} (h : okF n1 n2 n3 = true) (h0 : ¬ (n1 = 0 ∧ n2 = 0)) (h1 : inB q 0 3 = true) : okL ((n1, n2, n3), q) = true := by
  unfold okL
  rw [okX_mk h h0, h1]
  rfl
theorem okL_out {n1 n2 n3 q : Int} (h : okL ((n1, n2, n3), q) = true) : okF n1 n2 n3 = true ∧ ¬ (n1 = 0 ∧ n2 = 0) ∧ (q = 0 ∨ q = 1 ∨ q = 2 ∨ q = 3) := by
  unfold okL okX okT at h
  simp only [Bool.and_eq_true, Bool.not_eq_true', Bool.and_eq_false_iff, beq_eq_false_iff_ne] at h
  have := inB_bd h.2
  exact ⟨h.1.1, fun k => by rcases h.1.2 with h | h; exact h k.1; exact h k.2, by omega⟩
theorem okFl_mem {ls : List L4} (h : okFl ls = true) {x : L4} (hx : x ∈ ls) : okL x = true := by
  unfold okFl at h
  simp only [Bool.and_eq_true] at h
  exact List.all_eq_true.1 h.1 x hx
end Go.Proofs.YtkdkeacfifjjoaaGreatDoor
