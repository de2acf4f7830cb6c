/-
  Lists of a known length.
-/
import Derived.Test.YtnfbopaafciiiaaDoorBMem
namespace Go.Proofs.YtnfbopaafciiiaaDoor
open Go.ChangeShapes Go.WideShapes Go.ChangeAt Go.RowKit
set_option linter.unusedVariables false

theorem list2 {zs : List Int} (h : zs.length = 2) : ∃ x0 x1, zs = [x0, x1] := by
  obtain _ | ⟨x0, zs⟩ := zs
  · simp at h
  obtain _ | ⟨x1, zs⟩ := zs
  · simp at h
  obtain _ | ⟨y, zs⟩ := zs
  · exact ⟨x0, x1, rfl⟩
  · simp at h
theorem list4 {zs : List Int} (h : zs.length = 4) : ∃ x0 x1 x2 x3, zs = [x0, x1, x2, x3] := by
  obtain _ | ⟨x0, zs⟩ := zs
  · simp at h
  obtain _ | ⟨x1, zs⟩ := zs
  · simp at h
  obtain _ | ⟨x2, zs⟩ := zs
  · simp at h
  obtain _ | ⟨x3, zs⟩ := zs
  · simp at h
  obtain _ | ⟨y, zs⟩ := zs
  · exact ⟨x0, x1, x2, x3, rfl⟩
  · simp at h
theorem list5 {zs : List Int} (h : zs.length = 5) : ∃ x0 x1 x2 x3 x4, zs = [x0, x1, x2, x3, x4] := by
  obtain _ | ⟨x0, zs⟩ := zs
  · simp at h
  obtain _ | ⟨x1, zs⟩ := zs
  · simp at h
  obtain _ | ⟨x2, zs⟩ := zs
  · simp at h
  obtain _ | ⟨x3, zs⟩ := zs
  · simp at h
  obtain _ | ⟨x4, zs⟩ := zs
  · simp at h
  obtain _ | ⟨y, zs⟩ := zs
  · exact ⟨x0, x1, x2, x3, x4, rfl⟩
  · simp at h
theorem list12 {zs : List Int} (h : zs.length = 12) : ∃ x0 x1 x2 x3 x4 x5 x6 x7 x8 x9 x10 x11, zs = [x0, x1, x2, x3, x4, x5, x6, x7, x8, x9, x10, x11] := by
  obtain _ | ⟨x0, zs⟩ := zs
  · simp at h
  obtain _ | ⟨x1, zs⟩ := zs
  · simp at h
  obtain _ | ⟨x2, zs⟩ := zs
  · simp at h
  obtain _ | ⟨x3, zs⟩ := zs
  · simp at h
  obtain _ | ⟨x4, zs⟩ := zs
  · simp at h
  obtain _ | ⟨x5, zs⟩ := zs
  · simp at h
  obtain _ | ⟨x6, zs⟩ := zs
  · simp at h
  obtain _ | ⟨x7, zs⟩ := zs
  · simp at h
  obtain _ | ⟨x8, zs⟩ := zs
  · simp at h
  obtain _ | ⟨x9, zs⟩ := zs
  · simp at h
  obtain _ | ⟨x10, zs⟩ := zs
  · simp at h
  obtain _ | ⟨x11, zs⟩ := zs
  · simp at h
  obtain _ | ⟨y, zs⟩ := zs
  · exact ⟨x0, x1, x2, x3, x4, x5, x6, x7, x8, x9, x10, x11, rfl⟩
  · simp at h
theorem bothB {a b : Bool} (h : a = true) (k : b = true) : (a && b) = true := by rw [h, k]; rfl
end Go.Proofs.YtnfbopaafciiiaaDoor
