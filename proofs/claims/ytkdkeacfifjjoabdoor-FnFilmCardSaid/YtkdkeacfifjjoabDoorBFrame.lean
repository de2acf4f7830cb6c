/-
  What the frames of cards need.
-/
import Derived.Test.YtkdkeacfifjjoabDoorBImplF
import Derived.ChangeSame
import Derived.ChangeVars
import Derived.JoinedOf
import Derived.LaidLaws
import Derived.LaidHandle
import Derived.Stop.Joined
import Derived.Test.YtkdkeacfifjjoabDoorBMem
namespace Go.Proofs.YtkdkeacfifjjoabDoor
open Go.ChangeShapes Go.WideShapes Go.ChangeAt Go.RowKit
set_option linter.unusedVariables false

theorem ownKnob_none : ownKnob Tryd.prog.godebug = none := by kernel_rfl
theorem laid_out : laidOutB Tryd.prog = true := by kernel_rfl
theorem lf_global : Tryd.prog.globalNamed "errors.errorType" = some 0 := by kernel_rfl
theorem lf_type : (Tryd.prog.cutTypes.find? (·.1 == "internal/reflectlite.rtype")).map (·.2) = some 92 := by kernel_rfl
theorem lf_row : ((List.range 147).filter fun t => Tryd.prog.rowNamed t [101, 114, 114, 111, 114]) = [41] := by kernel_rfl
theorem lf_size : Tryd.prog.types.size = 147 := by kernel_rfl

/-- What the rows list. -/
abbrev listed : List (String × DataW Unit) := [("errors.errorType", Rows.laid_errors_errorType)]
theorem laid_of_met {W : World} (h : laidMetH Tryd.prog listed W) : Laid W := by
  have h' : laidMet Tryd.prog [] W ∧ handlesMet Tryd.prog listed W := h
  obtain ⟨name, u, ty, e1, e2, e3, e4, e5⟩ := h'.2 _ (List.mem_singleton.2 rfl)
  have en : name = [101, 114, 114, 111, 114] := (Option.some.inj e1).symm
  subst en
  obtain rfl := Option.some.inj (lf_type.symm.trans e2)
  have hm : ty ∈ (List.range 147).filter fun t => Tryd.prog.rowNamed t [101, 114, 114, 111, 114] := List.mem_filter.2 ⟨List.mem_range.2 (by rw [← lf_size]; exact e3), e4⟩
  rw [lf_row] at hm
  obtain rfl := List.mem_singleton.1 hm
  have hh : typeHandle Tryd.prog 41 = .pointer (some ⟨1, 41, none⟩) := by kernel_rfl
  rw [hh] at e5
  unfold Laid
  simpa using World.var?_cell lf_global e5 0

/-- A world that meets the premise: the settled one, the variable's cell laid. -/
noncomputable def laidWorld (os : Os) : World :=
  let w0 := World.holding Tryd.prog os ⟨#[], #[], []⟩
  { w0 with heap := w0.heap.modify 0 fun
      | .cells _ t frozen => .cells #[.iface 92 (.agg #[.pointer (some ⟨1, 41, none⟩)])] t frozen
      | o => o }
theorem laidWorld_met (os : Os) (args : Array Value) : laidMetH Tryd.prog listed ((laidWorld os).forCall (fun _ _ => 0) ⟨#[], args, []⟩).memory :=
  laidMetH_of_parts (laidMet_nil _ _) (by kernel_rfl)

theorem list2 {zs : List Int} (h : zs.length = 2) : ∃ x0 x1, zs = [x0, x1] := by
  obtain _ | ⟨x0, zs⟩ := zs
  · simp at h
  obtain _ | ⟨x1, zs⟩ := zs
  · simp at h
  obtain _ | ⟨y, zs⟩ := zs
  · exact ⟨x0, x1, rfl⟩
  · simp at h
theorem list4 {zs : List Int} (h : zs.length = 4) : ∃ x0 x1 x2 x3, zs = [x0, x1, x2, x3] := by
  obtain _ | ⟨x0, zs⟩ := zs
  · simp at h
  obtain _ | ⟨x1, zs⟩ := zs
  · simp at h
  obtain _ | ⟨x2, zs⟩ := zs
  · simp at h
  obtain _ | ⟨x3, zs⟩ := zs
  · simp at h
  obtain _ | ⟨y, zs⟩ := zs
  · exact ⟨x0, x1, x2, x3, rfl⟩
  · simp at h
theorem list5 {zs : List Int} (h : zs.length = 5) : ∃ x0 x1 x2 x3 x4, zs = [x0, x1, x2, x3, x4] := by
  obtain _ | ⟨x0, zs⟩ := zs
  · simp at h
  obtain _ | ⟨x1, zs⟩ := zs
  · simp at h
  obtain _ | ⟨x2, zs⟩ := zs
  · simp at h
  obtain _ | ⟨x3, zs⟩ := zs
  · simp at h
  obtain _ | ⟨x4, zs⟩ := zs
  · simp at h
  obtain _ | ⟨y, zs⟩ := zs
  · exact ⟨x0, x1, x2, x3, x4, rfl⟩
  · simp at h
theorem list12 {zs : List Int} (h : zs.length = 12) : ∃ x0 x1 x2 x3 x4 x5 x6 x7 x8 x9 x10 x11, zs = [x0, x1, x2, x3, x4, x5, x6, x7, x8, x9, x10, x11] := by
  obtain _ | ⟨x0, zs⟩ := zs
  · simp at h
  obtain _ | ⟨x1, zs⟩ := zs
  · simp at h
  obtain _ | ⟨x2, zs⟩ := zs
  · simp at h
  obtain _ | ⟨x3, zs⟩ := zs
  · simp at h
  obtain _ | ⟨x4, zs⟩ := zs
  · simp at h
  obtain _ | ⟨x5, zs⟩ := zs
  · simp at h
  obtain _ | ⟨x6, zs⟩ := zs
  · simp at h
  obtain _ | ⟨x7, zs⟩ := zs
  · simp at h
  obtain _ | ⟨x8, zs⟩ := zs
  · simp at h
  obtain _ | ⟨x9, zs⟩ := zs
  · simp at h
  obtain _ | ⟨x10, zs⟩ := zs
  · simp at h
  obtain _ | ⟨x11, zs⟩ := zs
  · simp at h
  obtain _ | ⟨y, zs⟩ := zs
  · exact ⟨x0, x1, x2, x3, x4, x5, x6, x7, x8, x9, x10, x11, rfl⟩
  · simp at h
theorem list48 {zs : List Int} (h : zs.length = 48) : ∃ x0 x1 x2 x3 x4 x5 x6 x7 x8 x9 x10 x11 x12 x13 x14 x15 x16 x17 x18 x19 x20 x21 x22 x23 x24 x25 x26 x27 x28 x29 x30 x31 x32 x33 x34 x35 x36 x37 x38 x39 x40 x41 x42 x43 x44 x45 x46 x47, zs = [x0, x1, x2, x3, x4, x5, x6, x7, x8, x9, x10, x11, x12, x13, x14, x15, x16, x17, x18, x19, x20, x21, x22, x23, x24, x25, x26, x27, x28, x29, x30, x31, x32, x33, x34, x35, x36, x37, x38, x39, x40, x41, x42, x43, x44, x45, x46, x47] := by
  obtain _ | ⟨x0, zs⟩ := zs
  · simp at h
  obtain _ | ⟨x1, zs⟩ := zs
  · simp at h
  obtain _ | ⟨x2, zs⟩ := zs
  · simp at h
  obtain _ | ⟨x3, zs⟩ := zs
  · simp at h
  obtain _ | ⟨x4, zs⟩ := zs
  · simp at h
  obtain _ | ⟨x5, zs⟩ := zs
  · simp at h
  obtain _ | ⟨x6, zs⟩ := zs
  · simp at h
  obtain _ | ⟨x7, zs⟩ := zs
  · simp at h
  obtain _ | ⟨x8, zs⟩ := zs
  · simp at h
  obtain _ | ⟨x9, zs⟩ := zs
  · simp at h
  obtain _ | ⟨x10, zs⟩ := zs
  · simp at h
  obtain _ | ⟨x11, zs⟩ := zs
  · simp at h
  obtain _ | ⟨x12, zs⟩ := zs
  · simp at h
  obtain _ | ⟨x13, zs⟩ := zs
  · simp at h
  obtain _ | ⟨x14, zs⟩ := zs
  · simp at h
  obtain _ | ⟨x15, zs⟩ := zs
  · simp at h
  obtain _ | ⟨x16, zs⟩ := zs
  · simp at h
  obtain _ | ⟨x17, zs⟩ := zs
  · simp at h
  obtain _ | ⟨x18, zs⟩ := zs
  · simp at h
  obtain _ | ⟨x19, zs⟩ := zs
  · simp at h
  obtain _ | ⟨x20, zs⟩ := zs
  · simp at h
  obtain _ | ⟨x21, zs⟩ := zs
  · simp at h
  obtain _ | ⟨x22, zs⟩ := zs
  · simp at h
  obtain _ | ⟨x23, zs⟩ := zs
  · simp at h
  obtain _ | ⟨x24, zs⟩ := zs
  · simp at h
  obtain _ | ⟨x25, zs⟩ := zs
  · simp at h
  obtain _ | ⟨x26, zs⟩ := zs
  · simp at h
  obtain _ | ⟨x27, zs⟩ := zs
  · simp at h
  obtain _ | ⟨x28, zs⟩ := zs
  · simp at h
  obtain _ | ⟨x29, zs⟩ := zs
  · simp at h
  obtain _ | ⟨x30, zs⟩ := zs
  · simp at h
  obtain _ | ⟨x31, zs⟩ := zs
  · simp at h
  obtain _ | ⟨x32, zs⟩ := zs
  · simp at h
  obtain _ | ⟨x33, zs⟩ := zs
  · simp at h
  obtain _ | ⟨x34, zs⟩ := zs
  · simp at h
  obtain _ | ⟨x35, zs⟩ := zs
  · simp at h
  obtain _ | ⟨x36, zs⟩ := zs
  · simp at h
  obtain _ | ⟨x37, zs⟩ := zs
  · simp at h
  obtain _ | ⟨x38, zs⟩ := zs
  · simp at h
  obtain _ | ⟨x39, zs⟩ := zs
  · simp at h
  obtain _ | ⟨x40, zs⟩ := zs
  · simp at h
  obtain _ | ⟨x41, zs⟩ := zs
  · simp at h
  obtain _ | ⟨x42, zs⟩ := zs
  · simp at h
  obtain _ | ⟨x43, zs⟩ := zs
  · simp at h
  obtain _ | ⟨x44, zs⟩ := zs
  · simp at h
  obtain _ | ⟨x45, zs⟩ := zs
  · simp at h
  obtain _ | ⟨x46, zs⟩ := zs
  · simp at h
  obtain _ | ⟨x47, zs⟩ := zs
  · simp at h
  obtain _ | ⟨y, zs⟩ := zs
  · exact ⟨x0, x1, x2, x3, x4, x5, x6, x7, x8, x9, x10, x11, x12, x13, x14, x15, x16, x17, x18, x19, x20, x21, x22, x23, x24, x25, x26, x27, x28, x29, x30, x31, x32, x33, x34, x35, x36, x37, x38, x39, x40, x41, x42, x43, x44, x45, x46, x47, rfl⟩
  · simp at h
theorem bothB {a b : Bool} (h : a = true) (k : b = true) : (a && b) = true := by rw [h, k]; rfl
end Go.Proofs.YtkdkeacfifjjoabDoor
