/-
  The model: FibreBack.
-/
import Derived.Test.YtkdkeacfifjjoaaGreatDoorSpecG1
import Derived.Test.YtkdkeacfifjjoaaGreatDoorWr
import Derived.Test.YtkdkeacfifjjoaaGreatDoorBLawS
import Derived.Test.YtkdkeacfifjjoaaGreatDoorBFib
import Derived.Laws.AppendOwn
namespace Go.Proofs.YtkdkeacfifjjoaaGreatDoor
open Go.ChangeShapes Go.WideShapes Go.ChangeAt Go.RowKit
set_option linter.unusedVariables false

set_option linter.unusedSimpArgs false
theorem own_rowN {w : World} {B sz n g : Nat} {e : TypeId} {v : Value} {xs : List Value} (h : w.ownsRow B e sz v n xs) (hg : v.ownBlock = some g) : B ≤ g := by
  rcases h.2 with ⟨rfl, _⟩ | ⟨g', cap, cur, rfl, hB, _⟩
  · cases hg
  · simp only [Value.ownBlock, Option.some.injEq] at hg
    omega
theorem own_low {w : World} {B B' sz n : Nat} {e : TypeId} {v : Value} {xs : List Value} (h : w.ownsRow B e sz v n xs) (hB : B' ≤ B) : w.ownsRow B' e sz v n xs := by
  refine ⟨h.1, ?_⟩
  rcases h.2 with hn | ⟨g, cap, cur, rfl, hb, rest⟩
  · exact .inl hn
  · exact .inr ⟨g, cap, cur, rfl, Nat.le_trans hB hb, rest⟩
theorem Wr.of_own' {B : Nat} {w : World} {v : Value} {ls : List L4} (hi : ∀ l ∈ ls, i64L l) (hv : v ≠ .slice none 0 0) (h : w.ownsRow B 64 4 v ls.length (layC ls)) : ∃ g, B ≤ g ∧ g < w.heap.size ∧ Wr g w v ls := by
  rcases h.2 with ⟨rfl, h0⟩ | ⟨g, cap, cur, rfl, hB, hg, h1, h2, h3, h4⟩
  · exact absurd rfl hv
  · refine ⟨g, hB, (Array.getElem?_eq_some_iff.1 hg).1, _, cap, rfl, hi, .inr ⟨rfl, cur.toList, ?_, ?_, ?_⟩⟩
    · unfold BlkT
      simpa using hg
    · have := congrArg List.length h4
      rw [List.length_take, layC_len] at this
      omega
    · exact h4
/-- A list of sections told: a row of its own, and a flag. -/
def GaveS (ls : List L4) (k : Bool) (w : World) (e : Ending) (w' : World) : Prop :=
  ∃ v g, e = .returned (.tuple #[v, .bool k]) ∧ w.heap.size ≤ g ∧ g < w'.heap.size ∧ Wr g w' v ls ∧ Below w.heap.size w w'
/-- The same, of the program: the block need not be there if nothing is told. -/
def GaveP (ls : List L4) (k : Bool) (w : World) (e : Ending) (w' : World) : Prop :=
  ∃ v g, e = .returned (.tuple #[v, .bool k]) ∧ w.heap.size ≤ g ∧ Wr g w' v ls ∧ Below w.heap.size w w'
theorem undo_i64 {l : L4} (h : okS l = true) (hi : i64L l) : i64L (undo l) := by
  obtain ⟨⟨p, q, k⟩, t⟩ := l
  have := inB_bd (okS_out h).2.1
  obtain ⟨h1, h2, h3, h4⟩ := hi
  have key : ∀ k : Int, (k = 0 ∨ k = 1 ∨ k = 2 ∨ k = 3) → i64B (-k % 4) := by
    rintro k (rfl | rfl | rfl | rfl) <;> (unfold i64B; decide)
  exact ⟨h1, h2, key k (by omega), h4⟩
end Go.Proofs.YtkdkeacfifjjoaaGreatDoor
