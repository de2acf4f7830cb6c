/-
  Memory, the reader of draws, floats.
-/
import Derived.Test.YtkiggkmbgkonmaaGreatDoorRows
import Derived.WalkKit
import Derived.ProofKit
import Derived.OpenShut
import Derived.Below
import Derived.IntWalk
import Derived.BigRegion
import Derived.RegionTactic
import Derived.ChangeAlike
import Derived.Deep.QuietTactic
import Derived.BigQuiet
import Derived.Deep.RegionHeld3
import Derived.Deep.DeepCutAuto
import Derived.Lib.Hide
import Derived.OneCell
import Derived.WalkLawsBesides
import Derived.KernelRfl
namespace Go.Proofs.YtkiggkmbgkonmaaGreatDoor
open Go.ChangeShapes Go.WideShapes Go.ChangeAt Go.RowKit
set_option linter.unusedVariables false

def Fine (w : World) (e : Ending) (w' : World) : Prop := e = .returned (.bool true) ∧ Below w.heap.size w w'

def Bare (w w' : World) : Prop := ∀ B, Below B w w'
theorem bare_drewN (w : World) (n : Nat) : Bare w (w.drewN n) := fun _ => ⟨rfl, rfl, rfl, Nat.le_refl _, fun _ _ => rfl⟩
theorem Bare.trans {u v w : World} (h : Bare u v) (k : Bare v w) : Bare u w := fun B => (h B).trans (k B)

/-- Three cells that were there stay. -/
theorem keep3 {W w' : World} (hb : Below W.heap.size W w') {b : Nat} {x y z : Value} (h : W.cell? ⟨b, 0, none⟩ = some x ∧ W.cell? ⟨b, 1, none⟩ = some y ∧ W.cell? ⟨b, 2, none⟩ = some z) :
    w'.cell? ⟨b, 0, none⟩ = some x ∧ w'.cell? ⟨b, 1, none⟩ = some y ∧ w'.cell? ⟨b, 2, none⟩ = some z :=
  have l : b < W.heap.size := World.block_lt_of_cell? W _ h.1
  ⟨(hb.cell (p := ⟨b, 0, none⟩) l).trans h.1, (hb.cell (p := ⟨b, 1, none⟩) l).trans h.2.1, (hb.cell (p := ⟨b, 2, none⟩) l).trans h.2.2⟩

/-- What was there when w began is as it was. -/
def Acc (w W : World) : Prop := Below w.heap.size w W
theorem Acc.refl (w : World) : Acc w w := Below.refl _ _
theorem Acc.alloc {w W : World} (h : Acc w W) (o : Obj) : Acc w (W.alloc o) := Below.alloc h (Below.size h) o
theorem Acc.drew {w W : World} (h : Acc w W) : Acc w W.drew := Below.drew h
theorem Acc.setCell {w W : World} {b o : Nat} {s : Option Nat} (h : Acc w W) (hp : w.heap.size ≤ b) (v : Value) : Acc w (W.setCell ⟨b, o, s⟩ v) := Below.setCell h hp v
theorem Acc.call {w W W' : World} (h : Acc w W) (hb : Below W.heap.size W W') : Acc w W' := Below.trans h (Below.mono hb (Below.size h))
theorem Acc.drewN {w W : World} (h : Acc w W) (n : Nat) : Acc w (W.drewN n) := Below.trans h (bare_drewN _ _ _)
theorem with_fact {A G : Prop} (h : A) (k : A → G) : G := k h
theorem bcell {W w1 : World} (hb : Below W.heap.size W w1) : (∀ b o, b < W.heap.size → w1.cell? ⟨b, o, none⟩ = W.cell? ⟨b, o, none⟩) ∧ (∀ b o, b < W.heap.size → w1.frozen? ⟨b, o, none⟩ = W.frozen? ⟨b, o, none⟩) :=
  ⟨fun b o h => hb.cell (p := ⟨b, o, none⟩) h, fun b o h => hb.frozen (p := ⟨b, o, none⟩) h⟩
theorem ret_int {k : IntKind} {a b : Int} (h : a = b) : Ending.returned (.int k a) = .returned (.int k b) := by rw [h]

/-- What was not frozen stays so. -/
theorem keepf3 {W w' : World} (hb : Below W.heap.size W w') {b : Nat} (h : b < W.heap.size) (hf : W.frozen? ⟨b, 0, none⟩ = false ∧ W.frozen? ⟨b, 1, none⟩ = false ∧ W.frozen? ⟨b, 2, none⟩ = false) :
    w'.frozen? ⟨b, 0, none⟩ = false ∧ w'.frozen? ⟨b, 1, none⟩ = false ∧ w'.frozen? ⟨b, 2, none⟩ = false :=
  ⟨(hb.frozen (p := ⟨b, 0, none⟩) h).trans hf.1, (hb.frozen (p := ⟨b, 1, none⟩) h).trans hf.2.1, (hb.frozen (p := ⟨b, 2, none⟩) h).trans hf.2.2⟩

theorem neB {a b : Nat} (h : a < b ∨ b < a) : a ≠ b := by omega
theorem leB {a b : Nat} (h : a ≤ b) : a ≤ b := h
theorem eqL {a b : List Value} (h : a = b) : a = b := h
/-- Block b holds these values, and may be written. -/
def Blk (w : World) (b : Nat) (vs : List Value) : Prop := ∃ T, w.heap[b]? = some (.cells vs.toArray T (0, 0))
theorem Blk.cell {w : World} {b : Nat} {vs : List Value} (h : Blk w b vs) : ∀ k, w.cell? ⟨b, k, none⟩ = vs[k]? := by
  obtain ⟨T, h⟩ := h
  intro k
  simp [World.cell?, h]
theorem Blk.free {w : World} {b : Nat} {vs : List Value} (h : Blk w b vs) : ∀ k, w.frozen? ⟨b, k, none⟩ = false := by
  obtain ⟨T, h⟩ := h
  intro k
  simp [World.frozen?, h]
theorem Blk.lt {w : World} {b : Nat} {vs : List Value} (h : Blk w b vs) : b < w.heap.size := by
  obtain ⟨T, h⟩ := h
  exact lt_of_block h
theorem Blk.keep {w w' : World} {b : Nat} {vs : List Value} (hb : Below w.heap.size w w') (h : Blk w b vs) : Blk w' b vs := by
  have l := h.lt
  obtain ⟨T, h⟩ := h
  exact ⟨T, (hb.block b l).trans h⟩
theorem Blk.drew {w : World} {b : Nat} {vs : List Value} (h : Blk w b vs) : Blk w.drew b vs := h
theorem Blk.drewN {w : World} {b : Nat} {vs : List Value} (h : Blk w b vs) (n : Nat) : Blk (w.drewN n) b vs := h
theorem Blk.alloc {w : World} {b : Nat} {vs : List Value} (h : Blk w b vs) (o : Obj) : Blk (w.alloc o) b vs := by
  have l := h.lt
  obtain ⟨T, h⟩ := h
  exact ⟨T, (Below.heap_alloc _ _ _ l).trans h⟩
theorem Blk.new {w : World} {n : Nat} {vs : List Value} {T : TypeId} (e : n = w.heap.size) : Blk (w.alloc (.cells vs.toArray T)) n vs := by
  subst e
  exact ⟨T, by show (w.heap.push _)[_]? = _; simp⟩
theorem Blk.other {w : World} {b b' k : Nat} {s : Option Nat} {vs : List Value} (h : Blk w b vs) (e : b ≠ b') (v : Value) : Blk (w.setCell ⟨b', k, s⟩ v) b vs := by
  obtain ⟨T, h⟩ := h
  exact ⟨T, (Below.heap_setCell _ _ _ _ e).trans h⟩
theorem Blk.set {w : World} {b k : Nat} {v : Value} {vs vs' : List Value} (h : Blk w b vs) (e : vs' = vs.set k v) : Blk (w.setCell ⟨b, k, none⟩ v) b vs' := by
  have l := h.lt
  obtain ⟨T, h⟩ := h
  subst e
  refine ⟨T, ?_⟩
  show (w.heap.modify b _)[b]? = _
  rw [Array.getElem?_modify, if_pos rfl, h]
  simp

theorem gcd_step (x y : Int) : Int.gcd y (x.tmod y) = Int.gcd x y := by
  rw [Int.gcd_comm x y]
  have : x.tmod y = x - y * x.tdiv y := Int.tmod_def x y
  rw [this, Int.gcd_sub_mul_left_right]

theorem tmod_bound (x y : Int) (h : y ≠ 0) : (x.tmod y).natAbs < y.natAbs := by
  rw [Int.natAbs_tmod]
  exact Nat.mod_lt _ (by omega)

def i64B (n : Int) : Prop := -9223372036854775808 ≤ n ∧ n ≤ 9223372036854775807

/-- Nothing that was there has changed but block b. -/
structure Only (b : Nat) (w w' : World) : Prop where
  os : w'.os = w.os
  tape : w'.tape = w.tape
  output : w'.output = w.output
  size : w.heap.size ≤ w'.heap.size
  block : ∀ k, k < w.heap.size → k ≠ b → w'.heap[k]? = w.heap[k]?

theorem Only.refl (b : Nat) (w : World) : Only b w w := ⟨rfl, rfl, rfl, Nat.le_refl _, fun _ _ _ => rfl⟩
theorem Only.trans {b : Nat} {u v w : World} (h : Only b u v) (k : Only b v w) : Only b u w :=
  ⟨k.os.trans h.os, k.tape.trans h.tape, k.output.trans h.output, Nat.le_trans h.size k.size, fun i hi hb => (k.block i (Nat.lt_of_lt_of_le hi h.size) hb).trans (h.block i hi hb)⟩
theorem Only.below {b B : Nat} {w w' : World} (h : Only b w w') (hB : B ≤ w.heap.size) (hb : B ≤ b) : Below B w w' :=
  ⟨h.os, h.tape, h.output, h.size, fun k hk => h.block k (by omega) (by omega)⟩
theorem Below.only {b : Nat} {w w' : World} (h : Below w.heap.size w w') : Only b w w' :=
  ⟨h.os, h.tape, h.output, h.size, fun k hk _ => h.block k hk⟩

theorem Only.cell {b : Nat} {W w' : World} (h : Only b W w') {p : Addr} (hp : p.block < W.heap.size) (hn : p.block ≠ b) : w'.cell? p = W.cell? p := World.cell?_of_block (w := W) (h.block p.block hp hn)
theorem Only.frozen {b : Nat} {W w' : World} (h : Only b W w') {p : Addr} (hp : p.block < W.heap.size) (hn : p.block ≠ b) : w'.frozen? p = W.frozen? p := World.frozen?_of_block (w := W) (h.block p.block hp hn)
theorem Only.drew {b : Nat} {w W : World} (h : Only b w W) : Only b w W.drew := ⟨h.os, h.tape, h.output, h.size, h.block⟩
theorem Only.alloc {b : Nat} {w W : World} (h : Only b w W) (o : Obj) : Only b w (W.alloc o) := h.trans (Below.only ((Below.refl _ _).alloc (Nat.le_refl _) o))
theorem Only.setCell {b : Nat} {w W : World} {k o : Nat} {s : Option Nat} (h : Only b w W) (hk : w.heap.size ≤ k) (v : Value) : Only b w (W.setCell ⟨k, o, s⟩ v) :=
  ⟨h.os, h.tape, h.output, by simpa [World.setCell] using h.size, fun i hi hb => (Below.heap_setCell _ _ _ _ (by show i ≠ k; omega)).trans (h.block i hi hb)⟩
theorem Only.call {b : Nat} {w W W' : World} (h : Only b w W) (hb : Below W.heap.size W W') : Only b w W' := h.trans (Below.only hb)
/-- A word that is a NaN. -/
def isN (x : Nat) : Bool := (Ieee.double.read x).isNaN

/-- The same word, or both NaN. -/
def Same (x y : Nat) : Prop := x = y ∨ (isN x = true ∧ isN y = true)

theorem Same.refl (x : Nat) : Same x x := .inl rfl
theorem Same.symm {x y : Nat} (h : Same x y) : Same y x := h.elim (fun e => .inl e.symm) fun ⟨a, b⟩ => .inr ⟨b, a⟩
theorem Same.trans {x y z : Nat} (h : Same x y) (k : Same y z) : Same x z := by
  rcases h with rfl | ⟨a, b⟩
  · exact k
  · rcases k with rfl | ⟨c, d⟩
    · exact .inr ⟨a, b⟩
    · exact .inr ⟨a, d⟩
end Go.Proofs.YtkiggkmbgkonmaaGreatDoor
