/-
  Memory: what a call leaves as it was; small lemmas on cells for the walks.
-/
import Derived.Test.YtbihlkienhbapabDoorRows
import Derived.WalkKit
import Derived.ProofKit
import Derived.OpenShut
import Derived.Below
import Derived.IntWalk
import Derived.BigRegion
import Derived.RegionTactic
import Derived.ChangeAlike
import Derived.Deep.QuietTactic
import Derived.BigQuiet
import Derived.Deep.RegionHeld3
import Derived.Deep.DeepCutAuto
import Derived.Lib.Hide
namespace Go.Proofs.YtbihlkienhbapabDoor
open Go.ChangeShapes Go.WideShapes Go.ChangeAt Go.RowKit
set_option linter.unusedVariables false

def Fine (w : World) (e : Ending) (w' : World) : Prop := e = .returned (.bool true) ∧ Below w.heap.size w w'

def Bare (w w' : World) : Prop := ∀ B, Below B w w'
theorem bare_drewN (w : World) (n : Nat) : Bare w (w.drewN n) := fun _ => ⟨rfl, rfl, rfl, Nat.le_refl _, fun _ _ => rfl⟩
theorem Bare.trans {u v w : World} (h : Bare u v) (k : Bare v w) : Bare u w := fun B => (h B).trans (k B)

/-- Three cells that were there stay. -/
theorem keep3 {W w' : World} (hb : Below W.heap.size W w') {b : Nat} {x y z : Value} (h : W.cell? ⟨b, 0, none⟩ = some x ∧ W.cell? ⟨b, 1, none⟩ = some y ∧ W.cell? ⟨b, 2, none⟩ = some z) :
    w'.cell? ⟨b, 0, none⟩ = some x ∧ w'.cell? ⟨b, 1, none⟩ = some y ∧ w'.cell? ⟨b, 2, none⟩ = some z :=
  have l : b < W.heap.size := World.block_lt_of_cell? W _ h.1
  ⟨(hb.cell (p := ⟨b, 0, none⟩) l).trans h.1, (hb.cell (p := ⟨b, 1, none⟩) l).trans h.2.1, (hb.cell (p := ⟨b, 2, none⟩) l).trans h.2.2⟩

theorem bsize {W w1 : World} (hb : Below W.heap.size W w1) : ∀ n, n < W.heap.size → n < w1.heap.size := fun n h => Nat.lt_of_lt_of_le h hb.size
/-- What was there when w began is as it was. -/
def Acc (w W : World) : Prop := Below w.heap.size w W
theorem Acc.refl (w : World) : Acc w w := Below.refl _ _
theorem Acc.alloc {w W : World} (h : Acc w W) (o : Obj) : Acc w (W.alloc o) := Below.alloc h (Below.size h) o
theorem Acc.drew {w W : World} (h : Acc w W) : Acc w W.drew := Below.drew h
theorem Acc.setCell {w W : World} {b o : Nat} {s : Option Nat} (h : Acc w W) (hp : w.heap.size ≤ b) (v : Value) : Acc w (W.setCell ⟨b, o, s⟩ v) := Below.setCell h hp v
theorem Acc.call {w W W' : World} (h : Acc w W) (hb : Below W.heap.size W W') : Acc w W' := Below.trans h (Below.mono hb (Below.size h))
theorem Acc.drewN {w W : World} (h : Acc w W) (n : Nat) : Acc w (W.drewN n) := Below.trans h (bare_drewN _ _ _)
theorem with_fact {A G : Prop} (h : A) (k : A → G) : G := k h
theorem cell_other {w : World} {b o b' o' : Nat} {v : Value} (h : b' ≠ b) : (w.setCell ⟨b', o', none⟩ v).cell? ⟨b, o, none⟩ = w.cell? ⟨b, o, none⟩ :=
  World.cell?_setCell_other w _ _ _ (fun e => by cases e; exact h rfl)

theorem bcell {W w1 : World} (hb : Below W.heap.size W w1) : (∀ b o, b < W.heap.size → w1.cell? ⟨b, o, none⟩ = W.cell? ⟨b, o, none⟩) ∧ (∀ b o, b < W.heap.size → w1.frozen? ⟨b, o, none⟩ = W.frozen? ⟨b, o, none⟩) :=
  ⟨fun b o h => hb.cell (p := ⟨b, o, none⟩) h, fun b o h => hb.frozen (p := ⟨b, o, none⟩) h⟩
theorem ret_int {k : IntKind} {a b : Int} (h : a = b) : Ending.returned (.int k a) = .returned (.int k b) := by rw [h]

/-- What was not frozen stays so. -/
theorem keepf3 {W w' : World} (hb : Below W.heap.size W w') {b : Nat} (h : b < W.heap.size) (hf : W.frozen? ⟨b, 0, none⟩ = false ∧ W.frozen? ⟨b, 1, none⟩ = false ∧ W.frozen? ⟨b, 2, none⟩ = false) :
    w'.frozen? ⟨b, 0, none⟩ = false ∧ w'.frozen? ⟨b, 1, none⟩ = false ∧ w'.frozen? ⟨b, 2, none⟩ = false :=
  ⟨(hb.frozen (p := ⟨b, 0, none⟩) h).trans hf.1, (hb.frozen (p := ⟨b, 1, none⟩) h).trans hf.2.1, (hb.frozen (p := ⟨b, 2, none⟩) h).trans hf.2.2⟩
end Go.Proofs.YtbihlkienhbapabDoor
