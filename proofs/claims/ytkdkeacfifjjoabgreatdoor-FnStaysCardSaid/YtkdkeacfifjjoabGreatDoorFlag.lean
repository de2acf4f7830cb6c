/-
  Memory: a flag behind a pointer: one block is written, all else stays.
-/
import Derived.Test.YtkdkeacfifjjoabGreatDoorBMem
namespace Go.Proofs.YtkdkeacfifjjoabGreatDoor
open Go.ChangeShapes Go.WideShapes Go.ChangeAt Go.RowKit
set_option linter.unusedVariables false

theorem Only.here {b : Nat} {w W : World} {o : Nat} {s : Option Nat} (h : Only b w W) (v : Value) : Only b w (W.setCell ⟨b, o, s⟩ v) :=
  ⟨h.os, h.tape, h.output, by simpa [World.setCell] using h.size, fun i hi hb => (Below.heap_setCell _ _ _ _ hb).trans (h.block i hi hb)⟩
theorem Only.drewN {b : Nat} {w W : World} (h : Only b w W) (n : Nat) : Only b w (W.drewN n) := ⟨h.os, h.tape, h.output, h.size, h.block⟩
theorem Acc.only {w W W' : World} {b : Nat} (h : Acc w W) (hp : w.heap.size ≤ b) (k : Only b W W') : Acc w W' := Below.trans h (Only.below k (Below.size h) hp)
end Go.Proofs.YtkdkeacfifjjoabGreatDoor
